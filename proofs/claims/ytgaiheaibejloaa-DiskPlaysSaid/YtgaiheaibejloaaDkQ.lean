/-
  THE REFERENCE OF CHAPTER 16: Crash.
-/
import Derived.Test.YtgaiheaibejloaaDkY
namespace Go.Proofs.Ytgaiheaibejloaa
open Go Go.RowKit Go.Maps Go.ChangeMaps Go.MapKept Sh

/-- What was written, behind Crash. -/
def crI (I W : Nat → List Nat) (D : Nat → Bool) (K : Nat → Bool) (t : Int) (q j : Nat) : List Nat :=
  if !D j || K j then I j else if (j : Int) = t then mix q (I j) (W j) else W j
theorem mix_sec {a b : List Nat} {q : Nat} (ha : Sec a) (hb : Sec b) (hq : q ≤ 64) : Sec (mix q a b) := by
  refine ⟨mix_length ha.1 hb.1 hq, sl_bytes (fun x hx => ?_)⟩
  have hall : ∀ l : List Nat, Bytes l → ∀ x ∈ l, x < 256 := fun l hl x hx => by
    obtain ⟨i, hi, rfl⟩ := List.getElem_of_mem hx
    have := hl i
    rwa [gt_of_lt hi] at this
  rcases List.mem_append.1 hx with h | h
  · exact hall a ha.2 x (List.mem_of_mem_take h)
  · exact hall b hb.2 x (List.mem_of_mem_drop h)
theorem crI_sec {I W : Nat → List Nat} (hI : ∀ j, Sec (I j)) (hW : ∀ j, Sec (W j)) (D K : Nat → Bool) (t : Int) {q : Nat} (hq : q ≤ 64) (j : Nat) : Sec (crI I W D K t q j) := by
  unfold crI
  split
  · exact hI j
  · split
    · exact mix_sec (hI j) (hW j) hq
    · exact hW j
theorem syF_sec {F G : Nat → List Nat} (hF : ∀ j, Sec (F j)) (hG : ∀ j, Sec (G j)) (i j : Nat) : Sec (syF F G i j) := by
  unfold syF
  split
  · exact hF j
  · exact hG j
theorem Kept.butNew {F : Nat → Prop} {a w w' : World} {x : Nat} (h : Kept F a w) (hb : But w.heap.size x w w') (hx : a.heap.size ≤ x) : Kept F a w' :=
  ⟨hb.os.trans h.os, hb.tape.trans h.tape, hb.output.trans h.output, Nat.le_trans h.size hb.size, fun i hi hf => (hb.block i (Nat.lt_of_lt_of_le hi h.size) (by omega)).trans (h.block i hi hf)⟩
section
variable {w w' : World} {rb rl k : Nat} {I W : Nat → List Nat} {D : Nat → Bool}
set_option maxRecDepth 100000 in
set_option maxHeartbeats 4000000 in
theorem rCrash_t (A : Option Addr) (q3 c : Nat) (L : Nat → Int) (t m : Int) (hA : InN w A q3 L rl) (hq : q3 ≤ 50) (h : RK w rb rl k I W D) : Calls Try.prog 17 #[.pointer (some ⟨rb, 0, none⟩), .slice A q3 c, .int .i64 t, .int .i64 m] w fun e w' => e = .returned (.tuple #[]) ∧ RK w' rb rl k (crI I W D (keepB L q3) t (clampN m)) (crI I W D (keepB L q3) t (clampN m)) (fun _ => false) ∧ Kept (fun b => b = rl) w w' := by
  have H0 := Lib.hid h; have HA := Lib.hid hA
  have jk := h.kk
  have k1 : (k : Int) ≤ 4096 := by omega
  have z3 : (q3 : Int) ≤ 50 := by omega
  obtain ⟨q, hqe⟩ : ∃ z, clampN m = z := ⟨_, rfl⟩
  have hq1 := clampN_cast m
  rw [hqe] at hq1
  have HQ := Lib.hid (show q ≤ 64 by rw [← hqe]; exact clampN_le m)
  have hq2 : max 0 (min m 64) = (q : Int) := by omega
  have SC := Lib.hid (crI_sec h.iS h.wS D (keepB L q3) t HQ.out)
  rw [hqe]
  clear h hA hqe hq1
  go_enter Try.func17, Try.ntmps17
  go_upto_region 1 with (fail)
  clear hq2
  go_wp2_with fail
  go_loopw [9] (fun s9 wr => ∃ i : Nat, i ≤ k ∧ s9 = .int .i64 (i : Int) ∧ RK wr rb rl k (syF (crI I W D (keepB L q3) t q) I i) W D ∧ Kept (fun b => b = rl) w wr) (fun s _ => k - (intOf s).toNat)
  case atStart => exact ⟨0, Nat.zero_le _, rfl, by rw [syF_zero]; exact H0.out, Kept.refl _ _⟩
  case round =>
    obtain ⟨i, hi, rfl, hr, hk⟩ := hrel
    have H1 := Lib.hid hr; have K1 := Lib.hid hk
    clear hr hk
    have c0 := H1.out.c0
    by_cases hlt : i < k
    · have i1 : (i : Int) < (k : Int) := by omega
      have cd := H1.out.dirty hlt
      obtain ⟨d, hd⟩ : ∃ z, D i = z := ⟨_, rfl⟩
      rw [hd] at cd
      have HDI := Lib.hid hd
      have HA1 := Lib.hid (HA.out.kept K1.out)
      clear hd
      go_wp2_with fail
      go_loopw [10, 11] (fun s10 s11 wr2 => ∃ j : Nat, j ≤ q3 ∧ s11 = .int .i64 (j : Int) ∧ s10 = .bool (!d || keepB L j i) ∧ wr2 = wr) (fun _ s _ => q3 - (intOf s).toNat)
      case atStart => exact ⟨0, Nat.zero_le _, rfl, by rw [keepB_zero, Bool.or_false], rfl⟩
      case round =>
        obtain ⟨j, hj, rfl, rfl, rfl⟩ := hrel
        by_cases hjq : j < q3
        · have jq : (j : Int) < (q3 : Int) := by omega
          obtain ⟨b, o, rfl, _, _, cv, _⟩ := HA1.out j hjq
          have HK2 := Lib.hid (keepB_succ L j i)
          obtain ⟨kb, hkb⟩ : ∃ z, (!d || keepB L j i) = z := ⟨_, rfl⟩
          have HKB := Lib.hid hkb
          rw [hkb]
          clear hkb
          cases kb with
          | true =>
            go_wp2_with fail
            go_roundw
            case rel => exact ⟨j + 1, hjq, by go_num, by rw [HK2.out, ← Bool.or_assoc, HKB.out]; rfl, trivial⟩
            case measure => simp [intOf]; omega
          | false =>
            by_cases hLi : L j = (i : Int)
            · have e8 : (L j == (i : Int)) = true := by rw [beq_iff_eq]; exact hLi
              have e9 := Lib.hid hLi
              clear hLi
              go_wp2_with fail
              go_roundw
              case rel => exact ⟨j + 1, hjq, by go_num, by rw [HK2.out, ← Bool.or_assoc, HKB.out, decide_eq_true e9.out]; rfl, trivial⟩
              case measure => simp [intOf]; omega
            · have e8 : (L j == (i : Int)) = false := by rw [beq_eq_false_iff_ne]; exact hLi
              have e9 := Lib.hid hLi
              clear hLi
              go_wp2_with fail
              go_roundw
              case rel => exact ⟨j + 1, hjq, by go_num, by rw [HK2.out, ← Bool.or_assoc, HKB.out, decide_eq_false e9.out]; rfl, trivial⟩
              case measure => simp [intOf]; omega
        · obtain rfl : j = q3 := by omega
          clear hjq
          obtain ⟨kb, hkb⟩ : ∃ z, (!d || keepB L j i) = z := ⟨_, rfl⟩
          have HKB := Lib.hid hkb
          rw [hkb]
          clear hkb
          cases kb with
          | true =>
            have D9 := Lib.hid (show RK wr rb rl k (syF (crI I W D (keepB L j) t q) I (i + 1)) W D from by
              have e : crI I W D (keepB L j) t q i = I i := by unfold crI; rw [HDI.out, HKB.out, if_pos rfl]
              refine H1.out.congr (fun j2 _ => ?_) (fun _ _ => rfl) (fun _ _ => rfl) (syF_sec SC.out H0.out.iS _) H0.out.wS
              rw [← syF_succ, e]
              by_cases e2 : j2 = i
              · subst e2; rw [upd_same, syF_at]
              · rw [upd_other _ _ e2])
            clear c0 cd
            go_wp2_with fail
            go_roundw
            case rel => exact ⟨i + 1, hlt, by go_num, D9.out, K1.out⟩
            case measure => simp [intOf]; omega
          | false =>
            have hcr : crI I W D (keepB L j) t q i = if (i : Int) = t then mix q (I i) (W i) else W i := by unfold crI; rw [HDI.out, HKB.out, if_neg (by simp)]
            have HCR := Lib.hid hcr
            clear hcr
            obtain ⟨Z, hb4, _⟩ := H1.out.cutW hlt
            have HB5 := Lib.hid hb4
            have LI := Lib.hid (H0.out.iS i)
            have L0 := Lib.hid (show i * 129 + 64 = (flatV (secC (syF (crI I W D (keepB L j) t q) I i) W D) i ++ u8s (syF (crI I W D (keepB L j) t q) I i i)).length by rw [List.length_append, H1.out.len, u8s_length, (H1.out.iS i).1])
            have LW := Lib.hid (H0.out.wS i)
            have F1 := Lib.hid (u8s_one (W i))
            clear hb4
            go_upto_region 11 with (first
              | ((with_reducible refine at_op (.load 53 (.tmp 57)) rfl ?_); refine load_part 53 (.tmp 57) rl (i * 129 + 64) 65 (flatV (secC (syF (crI I W D (keepB L j) t q) I i) W D) i ++ u8s (syF (crI I W D (keepB L j) t q) I i i)) (u8s (W i)) Z _ rfl rfl HB5.out L0.out Try.underlying53 rfl (by rw [u8s_length, LW.out.1]; exact arr_size) rfl ?_)
              | ((with_reducible refine at_op (.store 53 (.tmp 12) (.tmp 58)) rfl ?_); refine store_blk 53 (.tmp 12) (.tmp 58) _ 53 _ (u8s (W i)) rfl rfl (Blk.new _ _ _) (by rw [u8s_length, LW.out.1]; rfl) (by rw [u8s_length, LW.out.1]; exact arr_size) F1.out rfl rfl ?_; rw [World.setRow_alloc_new]))
            obtain ⟨Wa, hWa⟩ : ∃ z, wr.alloc (.cells (u8s (W i)).toArray 53) = z := ⟨_, rfl⟩
            have ba : Below wr.heap.size wr Wa := by rw [← hWa]; exact (Below.refl _ _).alloc (Nat.le_refl _) _
            have RA := Lib.hid (H1.out.below ba)
            have KA := Lib.hid (K1.out.trans (Kept.of_below ba))
            have PA := Lib.hid (show Blk Wa wr.heap.size 53 (u8s (W i)) by rw [← hWa]; exact Blk.new wr _ _)
            have gzn0 : wr.heap.size ≠ rl := by have := H1.out.r.lt; omega
            have gzo := K1.out.size
            rw [hWa]
            obtain ⟨gz, hgz⟩ : ∃ z, wr.heap.size = z := ⟨_, rfl⟩
            rw [hgz] at PA gzn0 gzo ⊢
            have gzn := gzn0
            clear hWa ba HB5 L0 F1 c0 cd H1 K1 hgz gzn0
            by_cases ht : (i : Int) = t
            · have hx := HCR.out
              rw [if_pos ht] at hx
              subst ht
              obtain ⟨V0, hV0⟩ : ∃ V, Wa.drew = V := ⟨_, rfl⟩
              have R0 := Lib.hid (show RK V0 rb rl k (syF (crI I W D (keepB L j) (i : Int) q) I i) W D by rw [← hV0]; exact RA.out.drew)
              have K0 := Lib.hid (show Kept (fun b => b = rl) w V0 by rw [← hV0]; exact KA.out.drew)
              have P0 := Lib.hid (show Blk V0 gz 53 ([] ++ (u8s ((W i).take q) ++ u8s ((W i).drop q))) by rw [← hV0, List.nil_append, ← u8s_app, List.take_append_drop]; exact PA.out.drew)
              have s0 : V0.cell? ⟨rb, 0, none⟩ = some (.slice (some ⟨rl, 0, none⟩) k k) := R0.out.c0
              have SH := sliceAt_high (P := Try.prog) Try.underlying53 byte_size gz 0 .i64 q HQ.out
              have SI := sliceAt_high (P := Try.prog) Try.underlying53 byte_size rl (i * 129) .i64 q HQ.out
              have hri := R0.out.rangeI hlt
              rw [syF_at] at hri
              have M1 := Lib.hid (show (u8s ((I i).take q)).length = q by rw [u8s_length, List.length_take, LI.out.1]; exact Nat.min_eq_left HQ.out)
              have M2 := Lib.hid (show (u8s ((W i).take q)).length = (u8s ((I i).take q)).length by rw [u8s_length, u8s_length, List.length_take, List.length_take, LI.out.1, LW.out.1])
              have M3 := Lib.hid (show (u8s ((I i).take q)).length = Nat.min q q by rw [M1.out]; exact (Nat.min_self q).symm)
              have CP := Lib.hid (show 0 < (u8s ((I i).take q)).length → (some ⟨gz, 0, none⟩ : Option Addr) = some ⟨gz, 0, none⟩ ∧ ∃ ad, (some ⟨rl, i * 129, none⟩ : Option Addr) = some ad ∧ ∀ i2 v, (u8s ((I i).take q))[i2]? = some v → V0.cell? (ad.add i2) = some v from fun _ => ⟨rfl, _, rfl, fun i2 v hv => by
                rw [Addr.add_mid]
                refine hri i2 v ?_
                have hi : i2 < q := by have := (List.getElem?_eq_some_iff.1 hv).1; rw [M1.out] at this; exact this
                rw [← hv]; simp [u8s, List.getElem?_take_of_lt hi]⟩)
              have U8 := Lib.hid (u8s_each ((I i).take q))
              clear hri RA KA PA
              go_upto_region 12 with (fail)
              refine wp_region_held (S := fun Y => Y.cell? ⟨rb, 0, none⟩ = some (.slice (some ⟨rl, 0, none⟩) k k)) (by kernel_rfl) ?_
              change wpAnyH _ _ _ _ _ _ _ _ Wa.drew
              rw [hV0]
              clear hV0
              refine wpAnyH_take (i := 0) (v := ?_) rfl (by kernel_rfl) (by kernel_rfl) (by kernel_rfl) (fun _ _ _ h => h) (Or.inl ⟨by kernel_rfl, ?_⟩) s0 ?_
              rotate_left 1
              · (intro w hS; clear hS; go_simp; try (with_reducible rfl))
              refine wpAnyH_take (i := 1) (v := ?_) rfl (by kernel_rfl) (by kernel_rfl) (by kernel_rfl) (fun _ _ _ h => h) (Or.inl ⟨by kernel_rfl, ?_⟩) s0 ?_
              rotate_left 1
              · (intro w hS; clear hS; go_simp; try (with_reducible rfl))
              refine wpAnyH_take (i := 2) (v := ?_) rfl (by kernel_rfl) (by kernel_rfl) (by kernel_rfl) (fun _ _ _ h => h) (Or.inl ⟨by kernel_rfl, ?_⟩) s0 ?_
              rotate_left 1
              · (intro w hS; clear hS; go_simp; try (with_reducible rfl))
              refine wpAnyH_take (i := 3) (v := ?_) rfl (by kernel_rfl) (by kernel_rfl) (by kernel_rfl) (fun _ _ _ h => h) (Or.inl ⟨by kernel_rfl, ?_⟩) s0 ?_
              rotate_left 1
              · (intro w hS; clear hS; go_simp; try (with_reducible rfl))
              refine wpAnyH_take (i := 4) (v := ?_) rfl (by kernel_rfl) (by kernel_rfl) (by kernel_rfl) (fun _ _ _ h => h) (Or.inl ⟨by kernel_rfl, ?_⟩) s0 ?_
              rotate_left 1
              · (intro w hS; clear hS; go_simp; try (with_reducible rfl))
              refine wpAnyH_take (i := 5) (v := ?_) rfl (by kernel_rfl) (by kernel_rfl) (by kernel_rfl) (fun _ _ _ h => h) (Or.inl ⟨by kernel_rfl, ?_⟩) s0 ?_
              rotate_left 1
              · (intro w hS; have hs := hS; clear hS; go_simp; try (with_reducible rfl))
              refine wpAnyH_take (i := 6) (v := ?_) rfl (by kernel_rfl) (by kernel_rfl) (by kernel_rfl) (fun _ _ _ h => h) (Or.inl ⟨by kernel_rfl, ?_⟩) s0 ?_
              rotate_left 1
              · (intro w hS; clear hS; go_simp; try (with_reducible rfl))
              refine wpAnyH_take (i := 7) (v := ?_) rfl (by kernel_rfl) (by kernel_rfl) (by kernel_rfl) (fun _ _ _ h => h) (Or.inl ⟨by kernel_rfl, ?_⟩) s0 ?_
              rotate_left 1
              · (intro w hS; clear hS; go_simp; try (with_reducible rfl))
              refine wpAnyH_take (i := 8) (v := ?_) rfl (by kernel_rfl) (by kernel_rfl) (by kernel_rfl) (fun _ _ _ h => h) (Or.inl ⟨by kernel_rfl, ?_⟩) s0 ?_
              rotate_left 1
              · (intro w hS; clear hS; go_simp; try (with_reducible rfl))
              refine wpAnyH_take (i := 9) (v := ?_) rfl (by kernel_rfl) (by kernel_rfl) (by kernel_rfl) (fun _ _ _ h => h) (Or.inl ⟨by kernel_rfl, ?_⟩) s0 ?_
              rotate_left 1
              · (intro w hS; clear hS; go_simp; try (with_reducible rfl))
              refine wpAnyH_take (i := 10) (v := ?_) rfl (by kernel_rfl) (by kernel_rfl) (by kernel_rfl) (fun _ _ _ h => h) (Or.inl ⟨by kernel_rfl, ?_⟩) s0 ?_
              rotate_left 1
              · (intro w hS; clear hS; go_simp; try (with_reducible rfl))
              go_simp
              refine wpAnyH_ready (rs := [11]) (by kernel_rfl) (by simp) ?_
              refine AllReadyH.cons rfl (fun K hK => ?_) AllReadyH.nil
              rw [if_pos (by kernel_rfl)]
              refine wcopy_partD (.tmp 63) (.tmp 72) 26 26 5 gz 0 q 64 q 64 q (some ⟨gz, 0, none⟩) (some ⟨rl, i * 129, none⟩) 53 [] (u8s ((W i).take q)) (u8s ((W i).drop q)) (u8s ((I i).take q)) rfl Try.underlying26 byte_size P0.out rfl M2.out M3.out (by go_simp) (by go_simp) CP.out U8.out M1.out ?_
              intro w7 hb7 hbt7 hs7
              rw [List.nil_append, ← u8s_app, show (I i).take q ++ (W i).drop q = mix q (I i) (W i) from rfl] at hb7
              have n1 : rb ≠ gz := R0.out.b.apart P0.out (by decide)
              have R7 := Lib.hid (show RK w7 rb rl k (syF (crI I W D (keepB L j) (i : Int) q) I i) W D from ⟨R0.out.b.but hbt7.out R0.out.b.lt n1, R0.out.r.but hbt7.out R0.out.r.lt (fun e => gzn e.symm), R0.out.iS, R0.out.wS, R0.out.kk⟩)
              have K7 := Lib.hid (K0.out.butNew hbt7.out gzo)
              obtain ⟨X, hXX⟩ : ∃ z, mix q (I i) (W i) = z := ⟨_, rfl⟩
              have hsx := mix_sec LI.out LW.out HQ.out
              rw [hXX] at hx hb7 hsx
              have HXE := Lib.hid hx; have SX := Lib.hid hsx
              have RR := R7; have KK := K7; have FX := hb7
              have C7 := Lib.hid R7.out.c0
              clear hx hXX HCR R0 K0 P0 s0 SH SI M1 M2 M3 CP U8 hb7 hbt7 hs7 R7 K7 hsx n1
              go_simp
              refine hK.out _ _ C7.out (fun _ => ?_)
              clear hK K
              refine wpAnyH_done (by kernel_rfl) ?_ _
              go_simp
              go_upto_region 13 with (fail)
              refine wp_region_held (S := fun Y => Y.cell? ⟨rb, 0, none⟩ = some (.slice (some ⟨rl, 0, none⟩) k k) ∧ Blk Y gz 53 (u8s X)) (by kernel_rfl) ?_
              change wpAnyH _ _ _ _ _ _ _ _ w7.drew
              obtain ⟨V, hV⟩ : ∃ V, w7.drew = V := ⟨_, rfl⟩
              have D3 := Lib.hid (show RK V rb rl k (syF (crI I W D (keepB L j) (i : Int) q) I i) W D by rw [← hV]; exact RR.out.drew)
              have K3 := Lib.hid (show Kept (fun b => b = rl) w V by rw [← hV]; exact KK.out.drew)
              have P3 := Lib.hid (show Blk V gz 53 (u8s X) by rw [← hV]; exact FX.out.drew)
              have s0 : V.cell? ⟨rb, 0, none⟩ = some (.slice (some ⟨rl, 0, none⟩) k k) ∧ Blk V gz 53 (u8s X) := ⟨D3.out.c0, P3.out⟩
              rw [hV]
              clear hV RR KK FX
              refine wpAnyH_take (i := 0) (v := ?_) rfl (by kernel_rfl) (by kernel_rfl) (by kernel_rfl) (fun _ _ _ h => h) (Or.inl ⟨by kernel_rfl, ?_⟩) s0 ?_
              rotate_left 1
              · (intro w hS; clear hS; go_simp; try (with_reducible rfl))
              refine wpAnyH_take (i := 1) (v := ?_) rfl (by kernel_rfl) (by kernel_rfl) (by kernel_rfl) (fun _ _ _ h => h) (Or.inl ⟨by kernel_rfl, ?_⟩) s0 ?_
              rotate_left 1
              · (intro w hS; clear hS; go_simp; try (with_reducible rfl))
              refine wpAnyH_take (i := 2) (v := ?_) rfl (by kernel_rfl) (by kernel_rfl) (by kernel_rfl) (fun _ _ _ h => h) (Or.inl ⟨by kernel_rfl, ?_⟩) s0 ?_
              rotate_left 1
              · (intro w hS; clear hS; go_simp; try (with_reducible rfl))
              refine wpAnyH_take (i := 3) (v := ?_) rfl (by kernel_rfl) (by kernel_rfl) (by kernel_rfl) (fun _ _ _ h => h) (Or.inl ⟨by kernel_rfl, ?_⟩) s0 ?_
              rotate_left 1
              · (intro w hS; have hs := hS.1; clear hS; go_simp; try (with_reducible rfl))
              refine wpAnyH_take (i := 4) (v := ?_) rfl (by kernel_rfl) (by kernel_rfl) (by kernel_rfl) (fun _ _ _ h => h) (Or.inl ⟨by kernel_rfl, ?_⟩) s0 ?_
              rotate_left 1
              · (intro w hS; clear hS; go_simp; try (with_reducible rfl))
              go_simp
              refine wpAnyH_take (i := 5) (v := .agg (u8s X).toArray) rfl (by kernel_rfl) (by kernel_rfl) (by kernel_rfl) (fun _ _ _ h => h) (yieldsIf_load_mid (by kernel_rfl) 53 (.tmp 12) rfl gz 0 (by go_simp) (u8s X) _ (fun _ h => h.2.row) Try.underlying53 rfl (by rw [u8s_length, SX.out.1]; exact arr_size)) s0 ?_
              refine wpAnyH_take (i := 6) (v := ?_) rfl (by kernel_rfl) (by kernel_rfl) (by kernel_rfl) (fun _ _ _ h => h) (Or.inl ⟨by kernel_rfl, ?_⟩) s0 ?_
              rotate_left 1
              · (intro w hS; clear hS; go_simp; try (with_reducible rfl))
              refine wpAnyH_take (i := 7) (v := ?_) rfl (by kernel_rfl) (by kernel_rfl) (by kernel_rfl) (fun _ _ _ h => h) (Or.inl ⟨by kernel_rfl, ?_⟩) s0 ?_
              rotate_left 1
              · (intro w hS; clear hS; go_simp; try (with_reducible rfl))
              obtain ⟨Z, hb4, hrow⟩ := D3.out.cutI hlt
              have HB4 := Lib.hid hb4; have HRW := Lib.hid (hrow X)
              have L0 := Lib.hid (show i * 129 = (flatV (secC (syF (crI I W D (keepB L j) (i : Int) q) I i) W D) i).length by rw [D3.out.len])
              have L5 := Lib.hid (show (u8s (syF (crI I W D (keepB L j) (i : Int) q) I i i)).length = (u8s X).length by rw [u8s_length, u8s_length, (D3.out.iS i).1, SX.out.1])
              have U9 := Lib.hid (u8s_one X)
              clear hb4 hrow
              go_simp
              refine wpAnyH_ready (rs := [8]) (by kernel_rfl) (by simp) ?_
              refine AllReadyH.cons rfl (fun K hK => ?_) AllReadyH.nil
              rw [if_pos (by kernel_rfl)]
              refine wstore_part 53 (.tmp 81) (.tmp 79) rl (i * 129) 65 (flatV (secC (syF (crI I W D (keepB L j) (i : Int) q) I i) W D) i) (u8s (syF (crI I W D (keepB L j) (i : Int) q) I i i)) Z (u8s X) rfl HB4.out L0.out L5.out (by rw [u8s_length, SX.out.1]; exact arr_size) U9.out (by go_simp) (by go_simp) ?_
              intro w9 hb9 hbt9 hs9
              have hsy := syF_succ (crI I W D (keepB L j) (i : Int) q) I i
              rw [HXE.out] at hsy
              rw [← HRW.out, hsy] at hb9
              have D9 := Lib.hid (show RK w9 rb rl k (syF (crI I W D (keepB L j) (i : Int) q) I (i + 1)) W D from ⟨D3.out.b.but hbt9.out D3.out.b.lt (fun e => D3.out.ne e.symm), hb9.out, syF_sec SC.out H0.out.iS _, D3.out.wS, D3.out.kk⟩)
              have K9 := Lib.hid (show Kept (fun b => b = rl) w w9 from K3.out.trans ⟨hbt9.out.os, hbt9.out.tape, hbt9.out.output, hbt9.out.size, fun i hi hf => hbt9.out.block i hi hf⟩)
              have s1 : w9.cell? ⟨rb, 0, none⟩ = some (.slice (some ⟨rl, 0, none⟩) k k) ∧ Blk w9 gz 53 (u8s X) := ⟨D9.out.c0, P3.out.but hbt9.out P3.out.lt gzn⟩
              clear HB4 HRW L0 L5 U9 hb9 hbt9 hs9 D3 K3 P3 s0 hsy
              refine hK.out _ _ s1 (fun _ => ?_)
              clear hK K
              refine wpAnyH_done (by kernel_rfl) ?_ _
              go_simp
              go_wp2_with fail
              go_roundw
              case rel => exact ⟨i + 1, hlt, by go_num, D9.out, K9.out⟩
              case measure => simp [intOf]; omega
            · have hx := HCR.out
              rw [if_neg ht] at hx
              have e8 : ((i : Int) == t) = false := by rw [beq_eq_false_iff_ne]; exact ht
              obtain ⟨X, hXX⟩ : ∃ z, W i = z := ⟨_, rfl⟩
              rw [hXX] at hx PA LW
              have HXE := Lib.hid hx; have SX := LW
              have RR := RA; have KK := KA; have FX := PA
              clear ht hx hXX HCR RA KA PA
              go_upto_region 13 with (fail)
              refine wp_region_held (S := fun Y => Y.cell? ⟨rb, 0, none⟩ = some (.slice (some ⟨rl, 0, none⟩) k k) ∧ Blk Y gz 53 (u8s X)) (by kernel_rfl) ?_
              change wpAnyH _ _ _ _ _ _ _ _ Wa.drew
              obtain ⟨V, hV⟩ : ∃ V, Wa.drew = V := ⟨_, rfl⟩
              have D3 := Lib.hid (show RK V rb rl k (syF (crI I W D (keepB L j) t q) I i) W D by rw [← hV]; exact RR.out.drew)
              have K3 := Lib.hid (show Kept (fun b => b = rl) w V by rw [← hV]; exact KK.out.drew)
              have P3 := Lib.hid (show Blk V gz 53 (u8s X) by rw [← hV]; exact FX.out.drew)
              have s0 : V.cell? ⟨rb, 0, none⟩ = some (.slice (some ⟨rl, 0, none⟩) k k) ∧ Blk V gz 53 (u8s X) := ⟨D3.out.c0, P3.out⟩
              rw [hV]
              clear hV RR KK FX
              refine wpAnyH_take (i := 0) (v := ?_) rfl (by kernel_rfl) (by kernel_rfl) (by kernel_rfl) (fun _ _ _ h => h) (Or.inl ⟨by kernel_rfl, ?_⟩) s0 ?_
              rotate_left 1
              · (intro w hS; clear hS; go_simp; try (with_reducible rfl))
              refine wpAnyH_take (i := 1) (v := ?_) rfl (by kernel_rfl) (by kernel_rfl) (by kernel_rfl) (fun _ _ _ h => h) (Or.inl ⟨by kernel_rfl, ?_⟩) s0 ?_
              rotate_left 1
              · (intro w hS; clear hS; go_simp; try (with_reducible rfl))
              refine wpAnyH_take (i := 2) (v := ?_) rfl (by kernel_rfl) (by kernel_rfl) (by kernel_rfl) (fun _ _ _ h => h) (Or.inl ⟨by kernel_rfl, ?_⟩) s0 ?_
              rotate_left 1
              · (intro w hS; clear hS; go_simp; try (with_reducible rfl))
              refine wpAnyH_take (i := 3) (v := ?_) rfl (by kernel_rfl) (by kernel_rfl) (by kernel_rfl) (fun _ _ _ h => h) (Or.inl ⟨by kernel_rfl, ?_⟩) s0 ?_
              rotate_left 1
              · (intro w hS; have hs := hS.1; clear hS; go_simp; try (with_reducible rfl))
              refine wpAnyH_take (i := 4) (v := ?_) rfl (by kernel_rfl) (by kernel_rfl) (by kernel_rfl) (fun _ _ _ h => h) (Or.inl ⟨by kernel_rfl, ?_⟩) s0 ?_
              rotate_left 1
              · (intro w hS; clear hS; go_simp; try (with_reducible rfl))
              go_simp
              refine wpAnyH_take (i := 5) (v := .agg (u8s X).toArray) rfl (by kernel_rfl) (by kernel_rfl) (by kernel_rfl) (fun _ _ _ h => h) (yieldsIf_load_mid (by kernel_rfl) 53 (.tmp 12) rfl gz 0 (by go_simp) (u8s X) _ (fun _ h => h.2.row) Try.underlying53 rfl (by rw [u8s_length, SX.out.1]; exact arr_size)) s0 ?_
              refine wpAnyH_take (i := 6) (v := ?_) rfl (by kernel_rfl) (by kernel_rfl) (by kernel_rfl) (fun _ _ _ h => h) (Or.inl ⟨by kernel_rfl, ?_⟩) s0 ?_
              rotate_left 1
              · (intro w hS; clear hS; go_simp; try (with_reducible rfl))
              refine wpAnyH_take (i := 7) (v := ?_) rfl (by kernel_rfl) (by kernel_rfl) (by kernel_rfl) (fun _ _ _ h => h) (Or.inl ⟨by kernel_rfl, ?_⟩) s0 ?_
              rotate_left 1
              · (intro w hS; clear hS; go_simp; try (with_reducible rfl))
              obtain ⟨Z, hb4, hrow⟩ := D3.out.cutI hlt
              have HB4 := Lib.hid hb4; have HRW := Lib.hid (hrow X)
              have L0 := Lib.hid (show i * 129 = (flatV (secC (syF (crI I W D (keepB L j) t q) I i) W D) i).length by rw [D3.out.len])
              have L5 := Lib.hid (show (u8s (syF (crI I W D (keepB L j) t q) I i i)).length = (u8s X).length by rw [u8s_length, u8s_length, (D3.out.iS i).1, SX.out.1])
              have U9 := Lib.hid (u8s_one X)
              clear hb4 hrow
              go_simp
              refine wpAnyH_ready (rs := [8]) (by kernel_rfl) (by simp) ?_
              refine AllReadyH.cons rfl (fun K hK => ?_) AllReadyH.nil
              rw [if_pos (by kernel_rfl)]
              refine wstore_part 53 (.tmp 81) (.tmp 79) rl (i * 129) 65 (flatV (secC (syF (crI I W D (keepB L j) t q) I i) W D) i) (u8s (syF (crI I W D (keepB L j) t q) I i i)) Z (u8s X) rfl HB4.out L0.out L5.out (by rw [u8s_length, SX.out.1]; exact arr_size) U9.out (by go_simp) (by go_simp) ?_
              intro w9 hb9 hbt9 hs9
              have hsy := syF_succ (crI I W D (keepB L j) t q) I i
              rw [HXE.out] at hsy
              rw [← HRW.out, hsy] at hb9
              have D9 := Lib.hid (show RK w9 rb rl k (syF (crI I W D (keepB L j) t q) I (i + 1)) W D from ⟨D3.out.b.but hbt9.out D3.out.b.lt (fun e => D3.out.ne e.symm), hb9.out, syF_sec SC.out H0.out.iS _, D3.out.wS, D3.out.kk⟩)
              have K9 := Lib.hid (show Kept (fun b => b = rl) w w9 from K3.out.trans ⟨hbt9.out.os, hbt9.out.tape, hbt9.out.output, hbt9.out.size, fun i hi hf => hbt9.out.block i hi hf⟩)
              have s1 : w9.cell? ⟨rb, 0, none⟩ = some (.slice (some ⟨rl, 0, none⟩) k k) ∧ Blk w9 gz 53 (u8s X) := ⟨D9.out.c0, P3.out.but hbt9.out P3.out.lt gzn⟩
              clear HB4 HRW L0 L5 U9 hb9 hbt9 hs9 D3 K3 P3 s0 hsy
              refine hK.out _ _ s1 (fun _ => ?_)
              clear hK K
              refine wpAnyH_done (by kernel_rfl) ?_ _
              go_simp
              go_wp2_with fail
              go_roundw
              case rel => exact ⟨i + 1, hlt, by go_num, D9.out, K9.out⟩
              case measure => simp [intOf]; omega
    · obtain rfl : i = k := by omega
      have D5 := Lib.hid (H1.out.congr (I' := crI I W D (keepB L q3) t q) (W' := W) (D' := D) (fun j hj => by unfold syF; rw [if_pos hj]) (fun _ _ => rfl) (fun _ _ => rfl) SC.out H0.out.wS)
      have SY := Lib.hid (rSync_t D5.out)
      clear hlt
      go_wp2_with (go_at_call 16; refine SY.out.mono ?_; rintro e w2 ⟨rfl, d2, k2⟩)
      have D6 := Lib.hid d2; have K6 := Lib.hid (K1.out.trans k2)
      clear d2 k2 SY D5
      go_end0
      exact ⟨rfl, D6.out, K6.out⟩
end
end Go.Proofs.Ytgaiheaibejloaa
