/-
  OtsDigits walked.
-/
import Derived.Test.YtahghfjjpbjemaaDoorRfE
namespace Go.Proofs.YtahghfjjpbjemaaDoor
open Go Go.RowKit Sh

theorem kd_pos (i : Nat) : 0 < (kd i).p := by
  rcases i with _ | _ | _ | i <;> simp [kd]
structure DCap (w0 w : World) (gt_ : Nat) (h : List Nat) : Prop where
  hash : Blk w w0.heap.size 23 (u8s h)
  tab : ∀ j, j < 4 → w.cell? ⟨gt_, j, none⟩ = some (.int .i64 ((kd j).w : Int))
  lt : gt_ < w.heap.size
  bel : Below w0.heap.size w0 w
theorem DCap.below {w0 w w' : World} {g : Nat} {h : List Nat} (c : DCap w0 w g h) (hb : Below w.heap.size w w') : DCap w0 w' g h :=
  ⟨c.hash.below hb c.hash.lt, fun j hj => (hb.cell (p := ⟨g, j, none⟩) c.lt).trans (c.tab j hj), Nat.lt_of_lt_of_le c.lt hb.size, c.bel.trans (hb.mono c.bel.size)⟩
theorem both_chains (n : Int) : ∃ p : Nat, (∀ W, Calls Tryd.prog 10 #[.int .i64 n] W fun e w' => e = .returned (.int .i64 (p : Int)) ∧ W = w') ∧
    (∀ W, KI W → Calls Tryd.prog 13 #[.int .i64 n] W fun e w' => e = .returned (.int .i64 (p : Int)) ∧ Below W.heap.size W w') ∧ ((∃ i, i < 4 ∧ n = ((kd i).w : Int) ∧ p = (kd i).p) ∨ ((∀ i, i < 4 → n ≠ ((kd i).w : Int)) ∧ p = 0)) := by
  rcases wide_cases n with ⟨i, hi, rfl⟩ | h
  · exact ⟨(kd i).p, fun W => refchains_t i hi W, fun W hW => chains_of i hi W hW, .inl ⟨i, hi, rfl, rfl⟩⟩
  · exact ⟨0, fun W => refchains_no n W h, fun W hW => chains_no n h W hW, .inr ⟨h, rfl⟩⟩
set_option maxRecDepth 100000 in
set_option maxHeartbeats 4000000 in
theorem otsdigits_t (h : List Nat) (n : Int) (w : World) (hl : h.length = 32) (hb : Bytes h) (hki : KI w) :
    Calls Tryd.prog 3 #[.int .i64 n, .agg (u8s h).toArray] w fun e w' => e = .returned (.bool true) ∧ Below w.heap.size w w' := by
  have HL := Lib.hid hl; have HB := Lib.hid hb; have HKI := Lib.hid hki
  have B0 := Lib.hid ((Below.refl w.heap.size w).alloc (Nat.le_refl _) (.cells (u8s h).toArray 23)); have H0 := Lib.hid (Blk.new w 23 (u8s h))
  obtain ⟨p, hch, hcp, hcase⟩ := both_chains n
  have CH := Lib.hid hch; have CP := Lib.hid hcp; have CS := Lib.hid hcase
  clear hl hb hki hch hcp hcase
  go_enter Tryd.func3, Tryd.ntmps3
  go_wp2_with ((with_reducible refine load_blk 23 (.tmp 3) w.heap.size 23 (u8s h) _ rfl rfl ?_ Tryd.underlying23 ?_ ?_ ?_ ?_); exact H0.out; exact rfl; exact size32 _ HL.out; exact rfl)
  refine digitsCall_t n h _ HL.out HB.out (HKI.out.kept B0.out) _ (fun i v w1 hi hn f1 => ?_) (fun w1 hn b1 => ?_)
  · have p0 : ((p : Int) == 0) = false := by
      rcases CS.out with ⟨i', hi', hn', hp'⟩ | ⟨h', _⟩
      · rw [beq_eq_false_iff_ne, hp']; have := kd_pos i'; omega
      · exact absurd hn (h' i hi)
    have B1 := Lib.hid (B0.out.trans (f1.2.mono B0.out.size)); have H1 := Lib.hid (H0.out.below f1.2 H0.out.lt)
    clear f1 hn B0 H0
    go_wp2_with fail
    refine (CH.out _).mono ?_
    rintro e w2 ⟨rfl, rfl⟩
    go_upto_region 7 with (fail)
    have ba := (Below.refl (w1).heap.size w1).alloc (Nat.le_refl _) (.cells #[.int .i64 1, .int .i64 2, .int .i64 4, .int .i64 8] 3)
    refine world_is (fun X => DCap w X (w1).heap.size h) ⟨H1.out.below ba H1.out.lt, fun j hj => ?_, by simp, B1.out.trans (ba.mono B1.out.size)⟩ ?_
    · have hb := (Blk.new w1 3 (ints [1, 2, 4, 8])).cell j
      have : j = 0 ∨ j = 1 ∨ j = 2 ∨ j = 3 := by omega
      rcases this with rfl | rfl | rfl | rfl <;> exact hb
    rintro X dc
    obtain ⟨gT, hgT⟩ : ∃ g, (w1).heap.size = g := ⟨_, rfl⟩
    rw [hgT] at dc ⊢
    have D0 := Lib.hid dc
    clear dc ba hgT H1 B1
    go_loopw [8] (fun i wr => ∃ k : Nat, k ≤ 4 ∧ i = .int .i64 k ∧ DCap w wr gT h) (fun i _ => 4 - (intOf i).toNat)
    case atStart => exact ⟨0, by omega, rfl, D0.out⟩
    case round =>
      clear D0
      obtain ⟨k, hk, rfl, dc⟩ := hrel
      have D1 := Lib.hid dc
      clear dc
      by_cases hlt : k < 4
      · have i1 : (k : Int) < 4 := by omega
        have HP0 := kd_pos k
        have HP9 := kd_p k hlt
        have RS := Lib.hid (fun (X : World) (d : DCap w X gT h) => show X.cell? ⟨gT, k, none⟩ = some (.int .i64 ((kd k).w : Int)) ∧ X.rangeAt w.heap.size 0 (u8s h) from ⟨d.tab k hlt, range_of_blk d.hash⟩)
        have DG := Lib.hid (fun W hW R hy => digitsCall_t ((kd k).w : Int) h W HL.out HB.out hW R hy (fun _ hno _ => absurd rfl (hno k hlt)))
        have RG := Lib.hid (fun W => refdigits_t k hlt h W HL.out HB.out)
        have IJ := Lib.hid (fun i (hi : i < 4) (e : ((kd k).w : Int) = ((kd i).w : Int)) => kd_inj hlt hi (by omega))
        have HDL := Lib.hid (digs_length k h)
        obtain ⟨P, hP⟩ : ∃ P, (kd k).p = P := ⟨_, rfl⟩
        rw [hP] at HP0 HP9 HDL
        have HPP := Lib.hid hP
        clear hP
        obtain ⟨v, hv⟩ : ∃ v, (kd k).w = v := ⟨_, rfl⟩
        rw [hv] at RS DG RG IJ
        have HV := Lib.hid hv
        clear hv
        go_upto_region 9 with (fail)
        have D2 := Lib.hid (D1.out.below (Below.refl _ _).drew)
        have r1 := RS.out _ D2.out
        clear D1
        refine wp_region_held (S := fun X => X.cell? ⟨gT, k, none⟩ = some (.int .i64 (v : Int)) ∧ X.rangeAt w.heap.size 0 (u8s h)) (by kernel_rfl) ?_
        change wpAnyH _ _ _ _ _ _ _ _ wr.drew
        refine wpAnyH_take (i := 0) (v := ?_) rfl (by kernel_rfl) (by kernel_rfl) (by kernel_rfl) (fun _ _ _ h => h) (Or.inl ⟨by kernel_rfl, ?_⟩) r1 ?_
        rotate_left 1
        · (intro w hS; clear hS; go_simp; try (with_reducible rfl))
        refine wpAnyH_take (i := 1) (v := ?_) rfl (by kernel_rfl) (by kernel_rfl) (by kernel_rfl) (fun _ _ _ h => h) (Or.inl ⟨by kernel_rfl, ?_⟩) r1 ?_
        rotate_left 1
        · (intro w hS; clear hS; go_simp; try (with_reducible rfl))
        refine wpAnyH_take (i := 2) (v := ?_) rfl (by kernel_rfl) (by kernel_rfl) (by kernel_rfl) (fun _ _ _ h => h) (Or.inl ⟨by kernel_rfl, ?_⟩) r1 ?_
        rotate_left 1
        · (intro w hS; clear hS; go_simp; try (with_reducible rfl))
        refine wpAnyH_take (i := 3) (v := ?_) rfl (by kernel_rfl) (by kernel_rfl) (by kernel_rfl) (fun _ _ _ h => h) (Or.inl ⟨by kernel_rfl, ?_⟩) r1 ?_
        rotate_left 1
        · (intro w hS; have hs := hS.1; clear hS; go_simp; try (with_reducible rfl))
        refine wpAnyH_take (i := 4) (v := .agg (u8s h).toArray) rfl (by kernel_rfl) (by kernel_rfl) (by kernel_rfl) (fun _ _ _ h => h) (yieldsIf_load_mid (by kernel_rfl) 23 (.tmp 3) rfl w.heap.size 0 (by go_simp) (u8s h) _ (fun _ h => h.2) Tryd.underlying23 rfl (size32 _ HL.out)) r1 ?_
        refine wpAnyH_ready (rs := [5]) (by kernel_rfl) (by simp) ?_
        refine AllReadyH.cons rfl (fun K hK => ?_) AllReadyH.nil
        go_simp
        refine DG.out wr.drew (HKI.out.kept D2.out.bel) _ (fun i2 va w3 hi2 hn2 fa => ?_)
        have hk2 := IJ.out i2 hi2 hn2
        subst hk2
        obtain ⟨ga, ca, rfl, hca, hva, lga⟩ := own_cell fa.1 (by rw [HDL.out]; exact HP0)
        rw [HDL.out] at hva hca ⊢
        have D3 := Lib.hid (D2.out.below fa.2); have VA := Lib.hid hva
        clear fa hva hca hn2 hi2 r1 D2
        have r2 := RS.out _ D3.out
        refine hK.out _ _ r2 (fun _ => ?_)
        clear hK K
        refine wpAnyH_take (i := 6) (v := ?_) rfl (by kernel_rfl) (by kernel_rfl) (by kernel_rfl) (fun _ _ _ h => h) (Or.inl ⟨by kernel_rfl, ?_⟩) r2 ?_
        rotate_left 1
        · (intro w hS; clear hS; go_simp; try (with_reducible rfl))
        refine wpAnyH_take (i := 7) (v := ?_) rfl (by kernel_rfl) (by kernel_rfl) (by kernel_rfl) (fun _ _ _ h => h) (Or.inl ⟨by kernel_rfl, ?_⟩) r2 ?_
        rotate_left 1
        · (intro w hS; clear hS; go_simp; try (with_reducible rfl))
        refine wpAnyH_take (i := 8) (v := ?_) rfl (by kernel_rfl) (by kernel_rfl) (by kernel_rfl) (fun _ _ _ h => h) (Or.inl ⟨by kernel_rfl, ?_⟩) r2 ?_
        rotate_left 1
        · (intro w hS; clear hS; go_simp; try (with_reducible rfl))
        refine wpAnyH_take (i := 9) (v := ?_) rfl (by kernel_rfl) (by kernel_rfl) (by kernel_rfl) (fun _ _ _ h => h) (Or.inl ⟨by kernel_rfl, ?_⟩) r2 ?_
        rotate_left 1
        · (intro w hS; clear hS; go_simp; try (with_reducible rfl))
        refine wpAnyH_take (i := 10) (v := ?_) rfl (by kernel_rfl) (by kernel_rfl) (by kernel_rfl) (fun _ _ _ h => h) (Or.inl ⟨by kernel_rfl, ?_⟩) r2 ?_
        rotate_left 1
        · (intro w hS; clear hS; go_simp; try (with_reducible rfl))
        refine wpAnyH_done (by kernel_rfl) ?_ _
        go_simp
        clear r2
        go_upto_region 10 with (fail)
        have D4 := Lib.hid (D3.out.below (Below.refl _ _).drew)
        have VA4 := Lib.hid (show ∀ j, j < P → w3.drew.cell? ⟨ga, j, none⟩ = some (.int .i64 ((gt (digs k h) j : Nat) : Int)) from VA.out)
        have lga4 : ga < w3.drew.heap.size := lga
        have r1 := RS.out _ D4.out
        clear D3 VA lga
        refine wp_region_held (S := fun X => X.cell? ⟨gT, k, none⟩ = some (.int .i64 (v : Int)) ∧ X.rangeAt w.heap.size 0 (u8s h)) (by kernel_rfl) ?_
        change wpAnyH _ _ _ _ _ _ _ _ w3.drew
        refine wpAnyH_take (i := 0) (v := ?_) rfl (by kernel_rfl) (by kernel_rfl) (by kernel_rfl) (fun _ _ _ h => h) (Or.inl ⟨by kernel_rfl, ?_⟩) r1 ?_
        rotate_left 1
        · (intro w hS; clear hS; go_simp; try (with_reducible rfl))
        refine wpAnyH_take (i := 1) (v := ?_) rfl (by kernel_rfl) (by kernel_rfl) (by kernel_rfl) (fun _ _ _ h => h) (Or.inl ⟨by kernel_rfl, ?_⟩) r1 ?_
        rotate_left 1
        · (intro w hS; clear hS; go_simp; try (with_reducible rfl))
        refine wpAnyH_take (i := 2) (v := ?_) rfl (by kernel_rfl) (by kernel_rfl) (by kernel_rfl) (fun _ _ _ h => h) (Or.inl ⟨by kernel_rfl, ?_⟩) r1 ?_
        rotate_left 1
        · (intro w hS; clear hS; go_simp; try (with_reducible rfl))
        refine wpAnyH_take (i := 3) (v := ?_) rfl (by kernel_rfl) (by kernel_rfl) (by kernel_rfl) (fun _ _ _ h => h) (Or.inl ⟨by kernel_rfl, ?_⟩) r1 ?_
        rotate_left 1
        · (intro w hS; have hs := hS.1; clear hS; go_simp; try (with_reducible rfl))
        refine wpAnyH_take (i := 4) (v := .agg (u8s h).toArray) rfl (by kernel_rfl) (by kernel_rfl) (by kernel_rfl) (fun _ _ _ h => h) (yieldsIf_load_mid (by kernel_rfl) 23 (.tmp 3) rfl w.heap.size 0 (by go_simp) (u8s h) _ (fun _ h => h.2) Tryd.underlying23 rfl (size32 _ HL.out)) r1 ?_
        refine wpAnyH_ready (rs := [5]) (by kernel_rfl) (by simp) ?_
        refine AllReadyH.cons rfl (fun K hK => ?_) AllReadyH.nil
        go_simp
        refine (RG.out w3.drew).mono ?_
        rintro e w5 ⟨vb, rfl, fb⟩
        obtain ⟨gb, cb, rfl, hcb, hvb, lgb⟩ := own_cell fb.1 (by rw [HDL.out]; exact HP0)
        rw [HDL.out] at hvb hcb ⊢
        have D5 := Lib.hid (D4.out.below fb.2); have VB := Lib.hid hvb
        have VA5 := Lib.hid (fun j (hj : j < P) => (fb.2.cell (p := ⟨ga, j, none⟩) lga4).trans (VA4.out j hj))
        clear fb hvb hcb r1 D4 VA4 lga4
        have r2 := RS.out _ D5.out
        refine hK.out _ _ r2 (fun _ => ?_)
        clear hK K
        refine wpAnyH_take (i := 6) (v := ?_) rfl (by kernel_rfl) (by kernel_rfl) (by kernel_rfl) (fun _ _ _ h => h) (Or.inl ⟨by kernel_rfl, ?_⟩) r2 ?_
        rotate_left 1
        · (intro w hS; clear hS; go_simp; try (with_reducible rfl))
        refine wpAnyH_done (by kernel_rfl) ?_ _
        go_simp
        clear r2
        go_upto_region 14 with (fail)
        obtain ⟨wo, rfl⟩ : ∃ x : World, x = w5 := ⟨_, rfl⟩
        go_loopw [12] (fun i wr => ∃ m : Nat, m ≤ P ∧ i = .int .i64 m ∧ DCap w wr gT h ∧ (∀ j, j < P → wr.cell? ⟨ga, j, none⟩ = some (.int .i64 ((gt (digs k h) j : Nat) : Int))) ∧ (∀ j, j < P → wr.cell? ⟨gb, j, none⟩ = some (.int .i64 ((gt (digs k h) j : Nat) : Int)))) (fun i _ => P - (intOf i).toNat)
        case atStart => exact ⟨0, by omega, rfl, D5.out, VA5.out, VB.out⟩
        case round =>
          clear D5 VA5 VB
          obtain ⟨m, hm, rfl, dc, va, vb⟩ := hrel
          have D6 := Lib.hid dc
          clear dc
          by_cases hlt2 : m < P
          · have j1 : (m : Int) < (P : Int) := by omega
            have c1 := va m hlt2
            have c2 := vb m hlt2
            have VA := Lib.hid va; have VB := Lib.hid vb
            obtain ⟨x, hx⟩ : ∃ x, gt (digs k h) m = x := ⟨_, rfl⟩
            rw [hx] at c1 c2
            have t2 : ((x : Int) != (x : Int)) = false := by simp
            clear va vb hx
            go_wp2_with fail
            go_quiet (fail)
            go_wp2
            go_roundw
            case rel => exact ⟨m + 1, by omega, by go_num, D6.out.below (below_drewN (Below.refl _ _) _), VA.out, VB.out⟩
            case measure => simp [intOf]; omega
          · obtain rfl : m = P := by omega
            clear va vb
            go_wp2_with fail
            go_roundw
            case rel => exact ⟨k + 1, by omega, by go_num, D6.out⟩
            case measure => simp [intOf]; omega
      · obtain rfl : k = 4 := by omega
        go_wp2_with fail
        refine (told_t _ (HKI.out.kept D1.out.bel)).mono ?_
        rintro e w6 ⟨rfl, b6⟩
        have D6 := Lib.hid (D1.out.below b6)
        clear b6 D1
        go_wp2_with fail
        refine (CP.out _ (HKI.out.kept D6.out.bel)).mono ?_
        rintro e w7 ⟨rfl, b7⟩
        have D7 := Lib.hid (D6.out.below b7)
        clear b7 D6
        go_wp2_with fail
        refine (CH.out _).mono ?_
        rintro e w8 ⟨rfl, rfl⟩
        go_wp2_with fail
        go_ret
        exact ⟨by simp, D7.out.bel⟩
  · have p0 : p = 0 := by
      rcases CS.out with ⟨i', hi', hn', hp'⟩ | ⟨_, h'⟩
      · exact absurd hn' (hn i' hi')
      · exact h'
    have B1 := Lib.hid (B0.out.trans (b1.mono B0.out.size)); have H1 := Lib.hid (H0.out.below b1 H0.out.lt)
    clear b1 hn B0 H0
    subst p0
    go_wp2_with fail
    refine (CH.out _).mono ?_
    rintro e w2 ⟨rfl, rfl⟩
    go_upto_region 7 with (fail)
    have ba := (Below.refl (w1).heap.size w1).alloc (Nat.le_refl _) (.cells #[.int .i64 1, .int .i64 2, .int .i64 4, .int .i64 8] 3)
    refine world_is (fun X => DCap w X (w1).heap.size h) ⟨H1.out.below ba H1.out.lt, fun j hj => ?_, by simp, B1.out.trans (ba.mono B1.out.size)⟩ ?_
    · have hb := (Blk.new w1 3 (ints [1, 2, 4, 8])).cell j
      have : j = 0 ∨ j = 1 ∨ j = 2 ∨ j = 3 := by omega
      rcases this with rfl | rfl | rfl | rfl <;> exact hb
    rintro X dc
    obtain ⟨gT, hgT⟩ : ∃ g, (w1).heap.size = g := ⟨_, rfl⟩
    rw [hgT] at dc ⊢
    have D0 := Lib.hid dc
    clear dc ba hgT H1 B1
    go_loopw [8] (fun i wr => ∃ k : Nat, k ≤ 4 ∧ i = .int .i64 k ∧ DCap w wr gT h) (fun i _ => 4 - (intOf i).toNat)
    case atStart => exact ⟨0, by omega, rfl, D0.out⟩
    case round =>
      clear D0
      obtain ⟨k, hk, rfl, dc⟩ := hrel
      have D1 := Lib.hid dc
      clear dc
      by_cases hlt : k < 4
      · have i1 : (k : Int) < 4 := by omega
        have HP0 := kd_pos k
        have HP9 := kd_p k hlt
        have RS := Lib.hid (fun (X : World) (d : DCap w X gT h) => show X.cell? ⟨gT, k, none⟩ = some (.int .i64 ((kd k).w : Int)) ∧ X.rangeAt w.heap.size 0 (u8s h) from ⟨d.tab k hlt, range_of_blk d.hash⟩)
        have DG := Lib.hid (fun W hW R hy => digitsCall_t ((kd k).w : Int) h W HL.out HB.out hW R hy (fun _ hno _ => absurd rfl (hno k hlt)))
        have RG := Lib.hid (fun W => refdigits_t k hlt h W HL.out HB.out)
        have IJ := Lib.hid (fun i (hi : i < 4) (e : ((kd k).w : Int) = ((kd i).w : Int)) => kd_inj hlt hi (by omega))
        have HDL := Lib.hid (digs_length k h)
        obtain ⟨P, hP⟩ : ∃ P, (kd k).p = P := ⟨_, rfl⟩
        rw [hP] at HP0 HP9 HDL
        have HPP := Lib.hid hP
        clear hP
        obtain ⟨v, hv⟩ : ∃ v, (kd k).w = v := ⟨_, rfl⟩
        rw [hv] at RS DG RG IJ
        have HV := Lib.hid hv
        clear hv
        go_upto_region 9 with (fail)
        have D2 := Lib.hid (D1.out.below (Below.refl _ _).drew)
        have r1 := RS.out _ D2.out
        clear D1
        refine wp_region_held (S := fun X => X.cell? ⟨gT, k, none⟩ = some (.int .i64 (v : Int)) ∧ X.rangeAt w.heap.size 0 (u8s h)) (by kernel_rfl) ?_
        change wpAnyH _ _ _ _ _ _ _ _ wr.drew
        refine wpAnyH_take (i := 0) (v := ?_) rfl (by kernel_rfl) (by kernel_rfl) (by kernel_rfl) (fun _ _ _ h => h) (Or.inl ⟨by kernel_rfl, ?_⟩) r1 ?_
        rotate_left 1
        · (intro w hS; clear hS; go_simp; try (with_reducible rfl))
        refine wpAnyH_take (i := 1) (v := ?_) rfl (by kernel_rfl) (by kernel_rfl) (by kernel_rfl) (fun _ _ _ h => h) (Or.inl ⟨by kernel_rfl, ?_⟩) r1 ?_
        rotate_left 1
        · (intro w hS; clear hS; go_simp; try (with_reducible rfl))
        refine wpAnyH_take (i := 2) (v := ?_) rfl (by kernel_rfl) (by kernel_rfl) (by kernel_rfl) (fun _ _ _ h => h) (Or.inl ⟨by kernel_rfl, ?_⟩) r1 ?_
        rotate_left 1
        · (intro w hS; clear hS; go_simp; try (with_reducible rfl))
        refine wpAnyH_take (i := 3) (v := ?_) rfl (by kernel_rfl) (by kernel_rfl) (by kernel_rfl) (fun _ _ _ h => h) (Or.inl ⟨by kernel_rfl, ?_⟩) r1 ?_
        rotate_left 1
        · (intro w hS; have hs := hS.1; clear hS; go_simp; try (with_reducible rfl))
        refine wpAnyH_take (i := 4) (v := .agg (u8s h).toArray) rfl (by kernel_rfl) (by kernel_rfl) (by kernel_rfl) (fun _ _ _ h => h) (yieldsIf_load_mid (by kernel_rfl) 23 (.tmp 3) rfl w.heap.size 0 (by go_simp) (u8s h) _ (fun _ h => h.2) Tryd.underlying23 rfl (size32 _ HL.out)) r1 ?_
        refine wpAnyH_ready (rs := [5]) (by kernel_rfl) (by simp) ?_
        refine AllReadyH.cons rfl (fun K hK => ?_) AllReadyH.nil
        go_simp
        refine DG.out wr.drew (HKI.out.kept D2.out.bel) _ (fun i2 va w3 hi2 hn2 fa => ?_)
        have hk2 := IJ.out i2 hi2 hn2
        subst hk2
        obtain ⟨ga, ca, rfl, hca, hva, lga⟩ := own_cell fa.1 (by rw [HDL.out]; exact HP0)
        rw [HDL.out] at hva hca ⊢
        have D3 := Lib.hid (D2.out.below fa.2); have VA := Lib.hid hva
        clear fa hva hca hn2 hi2 r1 D2
        have r2 := RS.out _ D3.out
        refine hK.out _ _ r2 (fun _ => ?_)
        clear hK K
        refine wpAnyH_take (i := 6) (v := ?_) rfl (by kernel_rfl) (by kernel_rfl) (by kernel_rfl) (fun _ _ _ h => h) (Or.inl ⟨by kernel_rfl, ?_⟩) r2 ?_
        rotate_left 1
        · (intro w hS; clear hS; go_simp; try (with_reducible rfl))
        refine wpAnyH_take (i := 7) (v := ?_) rfl (by kernel_rfl) (by kernel_rfl) (by kernel_rfl) (fun _ _ _ h => h) (Or.inl ⟨by kernel_rfl, ?_⟩) r2 ?_
        rotate_left 1
        · (intro w hS; clear hS; go_simp; try (with_reducible rfl))
        refine wpAnyH_take (i := 8) (v := ?_) rfl (by kernel_rfl) (by kernel_rfl) (by kernel_rfl) (fun _ _ _ h => h) (Or.inl ⟨by kernel_rfl, ?_⟩) r2 ?_
        rotate_left 1
        · (intro w hS; clear hS; go_simp; try (with_reducible rfl))
        refine wpAnyH_take (i := 9) (v := ?_) rfl (by kernel_rfl) (by kernel_rfl) (by kernel_rfl) (fun _ _ _ h => h) (Or.inl ⟨by kernel_rfl, ?_⟩) r2 ?_
        rotate_left 1
        · (intro w hS; clear hS; go_simp; try (with_reducible rfl))
        refine wpAnyH_take (i := 10) (v := ?_) rfl (by kernel_rfl) (by kernel_rfl) (by kernel_rfl) (fun _ _ _ h => h) (Or.inl ⟨by kernel_rfl, ?_⟩) r2 ?_
        rotate_left 1
        · (intro w hS; clear hS; go_simp; try (with_reducible rfl))
        refine wpAnyH_done (by kernel_rfl) ?_ _
        go_simp
        clear r2
        go_upto_region 10 with (fail)
        have D4 := Lib.hid (D3.out.below (Below.refl _ _).drew)
        have VA4 := Lib.hid (show ∀ j, j < P → w3.drew.cell? ⟨ga, j, none⟩ = some (.int .i64 ((gt (digs k h) j : Nat) : Int)) from VA.out)
        have lga4 : ga < w3.drew.heap.size := lga
        have r1 := RS.out _ D4.out
        clear D3 VA lga
        refine wp_region_held (S := fun X => X.cell? ⟨gT, k, none⟩ = some (.int .i64 (v : Int)) ∧ X.rangeAt w.heap.size 0 (u8s h)) (by kernel_rfl) ?_
        change wpAnyH _ _ _ _ _ _ _ _ w3.drew
        refine wpAnyH_take (i := 0) (v := ?_) rfl (by kernel_rfl) (by kernel_rfl) (by kernel_rfl) (fun _ _ _ h => h) (Or.inl ⟨by kernel_rfl, ?_⟩) r1 ?_
        rotate_left 1
        · (intro w hS; clear hS; go_simp; try (with_reducible rfl))
        refine wpAnyH_take (i := 1) (v := ?_) rfl (by kernel_rfl) (by kernel_rfl) (by kernel_rfl) (fun _ _ _ h => h) (Or.inl ⟨by kernel_rfl, ?_⟩) r1 ?_
        rotate_left 1
        · (intro w hS; clear hS; go_simp; try (with_reducible rfl))
        refine wpAnyH_take (i := 2) (v := ?_) rfl (by kernel_rfl) (by kernel_rfl) (by kernel_rfl) (fun _ _ _ h => h) (Or.inl ⟨by kernel_rfl, ?_⟩) r1 ?_
        rotate_left 1
        · (intro w hS; clear hS; go_simp; try (with_reducible rfl))
        refine wpAnyH_take (i := 3) (v := ?_) rfl (by kernel_rfl) (by kernel_rfl) (by kernel_rfl) (fun _ _ _ h => h) (Or.inl ⟨by kernel_rfl, ?_⟩) r1 ?_
        rotate_left 1
        · (intro w hS; have hs := hS.1; clear hS; go_simp; try (with_reducible rfl))
        refine wpAnyH_take (i := 4) (v := .agg (u8s h).toArray) rfl (by kernel_rfl) (by kernel_rfl) (by kernel_rfl) (fun _ _ _ h => h) (yieldsIf_load_mid (by kernel_rfl) 23 (.tmp 3) rfl w.heap.size 0 (by go_simp) (u8s h) _ (fun _ h => h.2) Tryd.underlying23 rfl (size32 _ HL.out)) r1 ?_
        refine wpAnyH_ready (rs := [5]) (by kernel_rfl) (by simp) ?_
        refine AllReadyH.cons rfl (fun K hK => ?_) AllReadyH.nil
        go_simp
        refine (RG.out w3.drew).mono ?_
        rintro e w5 ⟨vb, rfl, fb⟩
        obtain ⟨gb, cb, rfl, hcb, hvb, lgb⟩ := own_cell fb.1 (by rw [HDL.out]; exact HP0)
        rw [HDL.out] at hvb hcb ⊢
        have D5 := Lib.hid (D4.out.below fb.2); have VB := Lib.hid hvb
        have VA5 := Lib.hid (fun j (hj : j < P) => (fb.2.cell (p := ⟨ga, j, none⟩) lga4).trans (VA4.out j hj))
        clear fb hvb hcb r1 D4 VA4 lga4
        have r2 := RS.out _ D5.out
        refine hK.out _ _ r2 (fun _ => ?_)
        clear hK K
        refine wpAnyH_take (i := 6) (v := ?_) rfl (by kernel_rfl) (by kernel_rfl) (by kernel_rfl) (fun _ _ _ h => h) (Or.inl ⟨by kernel_rfl, ?_⟩) r2 ?_
        rotate_left 1
        · (intro w hS; clear hS; go_simp; try (with_reducible rfl))
        refine wpAnyH_done (by kernel_rfl) ?_ _
        go_simp
        clear r2
        go_upto_region 14 with (fail)
        obtain ⟨wo, rfl⟩ : ∃ x : World, x = w5 := ⟨_, rfl⟩
        go_loopw [12] (fun i wr => ∃ m : Nat, m ≤ P ∧ i = .int .i64 m ∧ DCap w wr gT h ∧ (∀ j, j < P → wr.cell? ⟨ga, j, none⟩ = some (.int .i64 ((gt (digs k h) j : Nat) : Int))) ∧ (∀ j, j < P → wr.cell? ⟨gb, j, none⟩ = some (.int .i64 ((gt (digs k h) j : Nat) : Int)))) (fun i _ => P - (intOf i).toNat)
        case atStart => exact ⟨0, by omega, rfl, D5.out, VA5.out, VB.out⟩
        case round =>
          clear D5 VA5 VB
          obtain ⟨m, hm, rfl, dc, va, vb⟩ := hrel
          have D6 := Lib.hid dc
          clear dc
          by_cases hlt2 : m < P
          · have j1 : (m : Int) < (P : Int) := by omega
            have c1 := va m hlt2
            have c2 := vb m hlt2
            have VA := Lib.hid va; have VB := Lib.hid vb
            obtain ⟨x, hx⟩ : ∃ x, gt (digs k h) m = x := ⟨_, rfl⟩
            rw [hx] at c1 c2
            have t2 : ((x : Int) != (x : Int)) = false := by simp
            clear va vb hx
            go_wp2_with fail
            go_quiet (fail)
            go_wp2
            go_roundw
            case rel => exact ⟨m + 1, by omega, by go_num, D6.out.below (below_drewN (Below.refl _ _) _), VA.out, VB.out⟩
            case measure => simp [intOf]; omega
          · obtain rfl : m = P := by omega
            clear va vb
            go_wp2_with fail
            go_roundw
            case rel => exact ⟨k + 1, by omega, by go_num, D6.out⟩
            case measure => simp [intOf]; omega
      · obtain rfl : k = 4 := by omega
        go_wp2_with fail
        refine (told_t _ (HKI.out.kept D1.out.bel)).mono ?_
        rintro e w6 ⟨rfl, b6⟩
        have D6 := Lib.hid (D1.out.below b6)
        clear b6 D1
        go_wp2_with fail
        refine (CP.out _ (HKI.out.kept D6.out.bel)).mono ?_
        rintro e w7 ⟨rfl, b7⟩
        have D7 := Lib.hid (D6.out.below b7)
        clear b7 D6
        go_wp2_with fail
        refine (CH.out _).mono ?_
        rintro e w8 ⟨rfl, rfl⟩
        go_wp2_with fail
        go_ret
        exact ⟨by simp, D7.out.bel⟩
end Go.Proofs.YtahghfjjpbjemaaDoor
