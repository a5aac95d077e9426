/-
  TupleMatch walked, where the field that is turned is a text.
-/
import Derived.Test.YtlaiblgnjppmnaaTpMz
namespace Go.Proofs.Ytlaiblgnjppmnaa
open Go Go.RowKit Sh

set_option maxRecDepth 100000 in
set_option maxHeartbeats 2000000 in
theorem tmatch_two (n c kk : Nat) (p : Option Addr) (G : Nat → Fld) (op wh : Int) (w : World) (hn : n ≤ 9223372036854775807) (hr : Rw w p n G) (hmb : mayV n G = true) (hkk : kk < n) (hke : wrap64 ((IntKind.u64.wrap wh).tmod (n : Int)) = (kk : Int)) (hk0 : (G kk).k = 2) :
    Calls Try.prog 6 #[.slice p n c, .int .i64 op, .int .i64 wh] w fun e w' => e = .returned (.bool true) ∧ Below w.heap.size w w' := by
  have MW := Lib.hid (May_t n c p G w hn hr)
  have HR := Lib.hid hr
  rw [hmb] at MW
  have MB := Lib.hid hmb
  clear hmb hr
  · skip
    have hfew := fewN_le (mayV_iff.1 MB.out).1
    have OKV := Lib.hid (mayV_iff.1 MB.out).2
    have HK0 := Lib.hid hk0
    clear hk0
    go_enter Try.func6, Try.ntmps6
    go_wp2_with fail
    refine MW.out.mono ?_
    rintro e w1 ⟨rfl, b1⟩
    have B1 := Lib.hid b1; have R1 := Lib.hid (HR.out.below b1)
    clear b1 MW
    have RA := Lib.hid (R1.out.below ((Below.refl w1.heap.size w1).alloc (Nat.le_refl _) (.cells #[] 38)))
    go_upto_region 5 with ((with_reducible refine at_op (.call { callee := .builtin .append, args := #[.tmp 16, .tmp 17], argTypes := #[22, 22] }) rfl ?_); go_must (refine append_flds (.tmp 16) (.tmp 17) rfl rfl w1.heap.size (.slice (some ⟨w1.heap.size, 0, none⟩) 0 0) 0 [] rfl (own_emptyF _ _ (Nat.le_refl _)) p n c rfl G (by omega) RA.out (by omega) (by simp) ?_); intro v1 w2 a1 a2 a3)
    have o2 : w2.ownsRow w1.heap.size 38 3 v1 n (rowC G n) := by have := a1.out; rwa [List.nil_append, Nat.zero_add] at this
    obtain ⟨g, c2, rest, rfl, hc2, hg, bg⟩ := own_blkF o2 (by omega)
    have bk : Below w1.heap.size w1 w2 := ((Below.refl w1.heap.size w1).alloc (Nat.le_refl _) (.cells #[] 38)).grown a2.out (by simp) (fun k e => by have := Option.some.inj e; simp at this; omega)
    have M2 := Lib.hid (show MC w w2 p n G g G rest from ⟨R1.out.below bk, bg, Nat.le_trans B1.out.size hg, B1.out.trans (bk.mono B1.out.size)⟩)
    have HC2 := Lib.hid hc2
    clear o2 hc2 hg bg bk a1 a2 a3 RA R1 B1
    go_loopw [8] (fun x wr => ∃ (i : Nat) (P : Nat → Fld), i ≤ n ∧ x = .int .i64 (i : Int) ∧ MC w wr p n G g P rest ∧ (∀ j, j < n → PJ (P j) (G j)) ∧ ∀ j, i ≤ j → P j = G j) (fun x _ => n - (intOf x).toNat)
    case atStart => exact ⟨0, G, by omega, rfl, M2.out, fun _ _ => .inl rfl, fun _ _ => rfl⟩
    case round =>
      clear M2
      obtain ⟨i, P, hi, rfl, mc, hpj, hpe⟩ := hrel
      have M3 := Lib.hid mc; have PP := Lib.hid hpj; have PE := Lib.hid hpe
      clear mc hpj hpe
      by_cases hlt : i < n
      · have i1 : (i : Int) < (n : Int) := by omega
        have i6 : (n : Int) ≤ 6 := by omega
        have n2 : (n : Int) ≤ (c2 : Int) := by have := HC2.out; omega
        have w1 : IntKind.i64.wrap (2 * (i : Int)) = 2 * (i : Int) := IntWalk.i64_in _ (by omega)
        have w2' : IntKind.u64.wrap (2 * (i : Int)) = 2 * (i : Int) := IntWalk.u64_in _ (by omega)
        go_upto_region 8 with (fail)
        obtain ⟨cc, hcc⟩ : ∃ cc, bits .and .i64 (op / 2 ^ (2 * i)) 3 = cc := ⟨_, rfl⟩
        rw [hcc]
        clear hcc w1 w2'
        obtain ⟨T, hT⟩ := rowC_split P i n hlt
        have hb := M3.out.b
        rw [← upd_same P i, hT (P i), List.append_assoc, List.append_assoc] at hb
        have HB := Lib.hid hb; have HT := Lib.hid hT
        have FI := Lib.hid (show i * 3 = (rowC P i).length from (rowC_length P i).symm)
        clear hb hT
        by_cases h1 : cc = 1
        · subst h1
          go_wp2_with (with_reducible refine at_op (.store 38 (.tmp 36) (.tmp 35)) rfl ?_; go_must (refine store_part 38 (.tmp 36) (.tmp 35) g (i * 3) 38 (rowC P i) (fv (P i)) (T ++ rest) (fv ⟨5, 0, eS⟩) rfl rfl HB.out FI.out rfl (fv_size _) (fv_one _) rfl rfl ?_); intro wz a1 a2 a3)
          have hbz : Blk wz g 38 (rowC (upd P i ⟨5, 0, eS⟩) n ++ rest) := by rw [HT.out, List.append_assoc, List.append_assoc]; exact a1.out
          have MZ := Lib.hid (M3.out.store HR.out hbz a2.out)
          refine ⟨⟨i + 1, upd P i ⟨5, 0, eS⟩, hlt, by go_num, MZ.out, fun j hj => ?_, fun j hj => ?_⟩, by simp [intOf]; omega⟩
          · by_cases e : j = i
            · subst e
              rw [upd_self]
              exact .inr (.inl rfl)
            · rw [upd_ne _ _ e]
              exact PP.out j hj
          · rw [upd_ne _ _ (by omega)]
            exact PE.out j (by omega)
        · have e1 : (cc == 1) = false := by rw [beq_eq_false_iff_ne]; exact h1
          by_cases h2 : cc = 2
          · subst h2
            have ck := M3.out.kind hlt
            rw [PE.out i (Nat.le_refl _)] at ck
            obtain ⟨kd, hkd⟩ : ∃ kd, (G i).k = kd := ⟨_, rfl⟩
            have hk12 := okV_kinds (OKV.out i hlt)
            rw [hkd] at ck hk12
            have HKD := Lib.hid hkd
            clear hkd h1
            rcases hk12 with rfl | rfl
            · skip
              go_wp2_with (with_reducible refine at_op (.store 38 (.tmp 49) (.tmp 48)) rfl ?_; go_must (refine store_part 38 (.tmp 49) (.tmp 48) g (i * 3) 38 (rowC P i) (fv (P i)) (T ++ rest) (fv ⟨3, 0, eS⟩) rfl rfl HB.out FI.out rfl (fv_size _) (fv_one _) rfl rfl ?_); intro wz a1 a2 a3)
              have hbz : Blk wz g 38 (rowC (upd P i ⟨3, 0, eS⟩) n ++ rest) := by rw [HT.out, List.append_assoc, List.append_assoc]; exact a1.out
              have MZ := Lib.hid (M3.out.store HR.out hbz a2.out)
              refine ⟨⟨i + 1, upd P i ⟨3, 0, eS⟩, hlt, by go_num, MZ.out, fun j hj => ?_, fun j hj => ?_⟩, by simp [intOf]; omega⟩
              · by_cases e : j = i
                · subst e
                  rw [upd_self]
                  exact .inr (.inr (by rw [HKD.out]; rfl))
                · rw [upd_ne _ _ e]
                  exact PP.out j hj
              · rw [upd_ne _ _ (by omega)]
                exact PE.out j (by omega)
            · skip
              go_wp2_with (with_reducible refine at_op (.store 38 (.tmp 49) (.tmp 48)) rfl ?_; go_must (refine store_part 38 (.tmp 49) (.tmp 48) g (i * 3) 38 (rowC P i) (fv (P i)) (T ++ rest) (fv ⟨4, 0, eS⟩) rfl rfl HB.out FI.out rfl (fv_size _) (fv_one _) rfl rfl ?_); intro wz a1 a2 a3)
              have hbz : Blk wz g 38 (rowC (upd P i ⟨4, 0, eS⟩) n ++ rest) := by rw [HT.out, List.append_assoc, List.append_assoc]; exact a1.out
              have MZ := Lib.hid (M3.out.store HR.out hbz a2.out)
              refine ⟨⟨i + 1, upd P i ⟨4, 0, eS⟩, hlt, by go_num, MZ.out, fun j hj => ?_, fun j hj => ?_⟩, by simp [intOf]; omega⟩
              · by_cases e : j = i
                · subst e
                  rw [upd_self]
                  exact .inr (.inr (by rw [HKD.out]; rfl))
                · rw [upd_ne _ _ e]
                  exact PP.out j hj
              · rw [upd_ne _ _ (by omega)]
                exact PE.out j (by omega)
          · have e2 : (cc == 2) = false := by rw [beq_eq_false_iff_ne]; exact h2
            clear h1 h2 HB HT FI
            go_wp2_with fail
            exact ⟨⟨i + 1, P, hlt, by go_num, M3.out, PP.out, fun j hj => PE.out j (by omega)⟩, by simp [intOf]; omega⟩
      · obtain rfl : i = n := by omega
        clear hlt hi
        have MP := M3
        clear M3 PE
        have RB := Lib.hid (MP.out.r.below ((Below.refl wr.heap.size wr).alloc (Nat.le_refl _) (.cells #[] 38)))
        go_upto_region 14 with ((with_reducible refine at_op (.call { callee := .builtin .append, args := #[.tmp 50, .tmp 51], argTypes := #[22, 22] }) rfl ?_); go_must (refine append_flds (.tmp 50) (.tmp 51) rfl rfl wr.heap.size (.slice (some ⟨wr.heap.size, 0, none⟩) 0 0) 0 [] rfl (own_emptyF _ _ (Nat.le_refl _)) p i c rfl G (by omega) RB.out (by omega) (by simp) ?_); intro v2 w3 a1 a2 a3; obtain ⟨gu, cu, ru, rfl, hcu, hgu, bu⟩ := own_blkF (own_zeroF a1.out) (by omega); have i3 : (i : Int) ≠ 0 := (by omega); have i4 : IntKind.u64.wrap (i : Int) = (i : Int) := IntWalk.u64_in _ (by omega))
        rw [hke]
        have bk : Below wr.heap.size wr w3 := ((Below.refl wr.heap.size wr).alloc (Nat.le_refl _) (.cells #[] 38)).grown a2.out (by simp) (fun k e => by have := Option.some.inj e; simp at this; omega)
        have D3 := Lib.hid (show MD w w3 p i G g P rest gu G ru from ⟨MP.out.below bk, bu, by have := MP.out.b.lt; omega, Nat.le_trans MP.out.bel.size hgu⟩)
        have HCU := Lib.hid hcu
        have ck := D3.out.kind hkk
        have cn := D3.out.num hkk
        have fz := D3.out.bu.frozen (kk * 3 + 1)
        clear bk bu hcu hgu a1 a2 a3 RB MP hke i3 i4
        obtain ⟨T, hT⟩ := rowC_split G kk i hkk
        have HT := Lib.hid hT
        have hb := D3.out.bu
        rw [← upd_same G kk, hT (G kk), List.append_assoc, List.append_assoc] at hb
        have HB := Lib.hid hb
        have FI := Lib.hid (show kk * 3 = (rowC G kk).length from (rowC_length G kk).symm)
        have k1 : (kk : Int) < (i : Int) := by omega
        have hk12 := HK0.out
        clear hb hT HK0
        have TK := Lib.hid (turn_may MB.out hkk); have MS := Lib.hid (match_self MB.out); have MO := Lib.hid (match_open MB.out PP.out)
        have MT := Lib.hid (match_turned MB.out hkk); have MU := Lib.hid (match_open_turned MB.out hkk PP.out)
        obtain ⟨f0, hf0⟩ : ∃ f, G kk = f := ⟨_, rfl⟩
        rw [hf0] at ck cn hk12
        have HF0 := Lib.hid hf0
        clear hf0
        obtain ⟨k0, n0, s0⟩ := f0
        · obtain rfl : k0 = 2 := hk12
          go_upto_region 17 with (with_reducible refine at_op (.store 38 (.tmp 79) (.tmp 78)) rfl ?_; go_must (refine store_part 38 (.tmp 79) (.tmp 78) gu (kk * 3) 38 (rowC G kk) (fv (G kk)) (T ++ ru) (fv ⟨1, 5, eS⟩) rfl rfl HB.out FI.out rfl (fv_size _) (fv_one _) rfl rfl ?_); intro wz a1 a2 a3)
          clear ck cn fz
          have hbz : Blk wz gu 38 (rowC (upd G kk (turnF (G kk))) i ++ ru) := by
            rw [HT.out, List.append_assoc, List.append_assoc, show turnF (G kk) = ⟨1, 5, eS⟩ by unfold turnF; rw [HF0.out]; rfl]
            exact a1.out
          have D4 := Lib.hid (D3.out.store HR.out hbz a2.out)
          clear hbz HB FI HT D3 a1 a2 a3
          obtain ⟨Y, hY⟩ : ∃ Y, wz = Y := ⟨_, rfl⟩
          rw [hY] at D4 ⊢
          clear hY
          dsimp only [Act.put]
          have RB := Lib.hid (D4.out.mc.r.below ((Below.refl Y.heap.size Y).alloc (Nat.le_refl _) (.cells #[] 38)))
          go_upto_region 18 with (first
            | ((with_reducible refine at_op (.call { callee := .builtin .append, args := #[.tmp 80, .tmp 81], argTypes := #[22, 22] }) rfl ?_); go_must (refine append_flds (.tmp 80) (.tmp 81) rfl rfl Y.heap.size (.slice (some ⟨Y.heap.size, 0, none⟩) 0 0) 0 [] rfl (own_emptyF _ _ (Nat.le_refl _)) p i c rfl G (by omega) RB.out (by omega) (by simp) ?_); intro v4 w5 a1 a2 a3; have O5 := Lib.hid (own_below (own_zeroF a1.out) ((Below.refl _ _).alloc (Nat.le_refl _) (.cells (rowC (fun _ => (⟨1, 0, eS⟩ : Fld)) 1).toArray 38))); have HB5 := Lib.hid (grown_size a2.out (.cells (rowC (fun _ => (⟨1, 0, eS⟩ : Fld)) 1).toArray 38)); have RW5 := Lib.hid (rw_of_blk (n := 1) (rest := []) (fun _ => (⟨1, 0, eS⟩ : Fld)) (by rw [List.append_nil]; exact Blk.new w5 38 (rowC (fun _ => (⟨1, 0, eS⟩ : Fld)) 1))))
            | ((with_reducible refine at_op (.call { callee := .builtin .append, args := #[.tmp 82, .tmp 84], argTypes := #[22, 22] }) rfl ?_); go_must (refine append_flds (.tmp 82) (.tmp 84) rfl rfl Y.heap.size v4 i (rowC G i) rfl O5.out (some ⟨w5.heap.size, 0, none⟩) 1 1 rfl (fun _ => (⟨1, 0, eS⟩ : Fld)) (by decide) RW5.out (by omega) HB5.out ?_); intro v6 w6 a4 a5 a6))
          have bk1 : Below Y.heap.size Y w5 := ((Below.refl Y.heap.size Y).alloc (Nat.le_refl _) (.cells #[] 38)).grown a2.out (by simp) (fun k e => by have := Option.some.inj e; simp at this; omega)
          have bk : Below Y.heap.size Y w6 := (bk1.alloc bk1.size _).grown a5.out HB5.out (fun k e => (O5.out.lt k e).1)
          have o6 := own_more a4.out
          obtain ⟨A6, c6, rfl, _⟩ := own_form o6
          have D6 := D4.out.below bk
          have E0 := Lib.hid (show MF w w6 p (some ⟨g, 0, none⟩) (some ⟨gu, 0, none⟩) A6 i (i + 1) G P (upd G kk (turnF (G kk))) (upd G i ⟨1, 0, eS⟩) from ⟨D6.mc.r, rw_of_blk P D6.mc.b, rw_of_blk _ D6.bu, rw_of_own o6, D6.mc.bel⟩)
          have MM := Lib.hid (match_more (n := i) (m := i + 1) (G := G) (H := upd G i ⟨1, 0, eS⟩) (by omega))
          obtain ⟨tb, tb0, hpp, _, _⟩ := E0.out.g kk hkk
          subst hpp
          obtain ⟨pk, hpk⟩ : ∃ k, (P kk).k = k := ⟨_, rfl⟩
          have PKE := Lib.hid hpk
          have GKE := Lib.hid (show (G kk).k = 2 by rw [HF0.out])
          rw [PKE.out, GKE.out] at MU
          clear bk1 bk o6 D6 D4 a1 a2 a3 a4 a5 a6 O5 HB5 RW5 RB hpk HF0
          have E1 := Lib.hid (E0.out.below (show Below w6.heap.size w6 w6.drew from (Below.refl _ _).drew))
          have rr : w6.drew.cell? ⟨g, kk * 3, none⟩ = some (.int .i64 (P kk).k) ∧ w6.drew.cell? ⟨tb, tb0 + kk * 3, none⟩ = some (.int .i64 (G kk).k) := ⟨by have h := E1.out.p.kind rfl hkk; rwa [Nat.zero_add] at h, E1.out.g.kind rfl hkk⟩
          rw [PKE.out, GKE.out] at rr
          refine wp_region_held (S := fun X => X.cell? ⟨g, kk * 3, none⟩ = some (.int .i64 pk) ∧ X.cell? ⟨tb, tb0 + kk * 3, none⟩ = some (.int .i64 2)) (by kernel_rfl) ?_
          change wpAnyH _ _ _ _ _ _ _ _ w6.drew
          have hi9 : i + 1 ≤ 9223372036854775807 := by omega
          have ki : (kk : Int) < (i : Int) := by omega
          clear E0 rr
          refine wpAnyH_ready (rs := [0]) (by kernel_rfl) (by simp) ?_
          refine AllReadyH.cons rfl (fun K hK => ?_) AllReadyH.nil
          go_simp
          refine (ttold_t _).mono ?_
          rintro e v ⟨rfl, b⟩
          skip
          have E2 := Lib.hid (E1.out.below b)
          have rr : v.cell? ⟨g, kk * 3, none⟩ = some (.int .i64 (P kk).k) ∧ v.cell? ⟨tb, tb0 + kk * 3, none⟩ = some (.int .i64 (G kk).k) := ⟨by have h := E2.out.p.kind rfl hkk; rwa [Nat.zero_add] at h, E2.out.g.kind rfl hkk⟩
          rw [PKE.out, GKE.out] at rr
          refine hK.out _ _ rr (fun _ => ?_)
          clear hK K b E1
          refine wpAnyH_take (i := 1) (v := ?_) rfl (by kernel_rfl) (by kernel_rfl) (by kernel_rfl) (fun _ _ _ h => h) (Or.inl ⟨by kernel_rfl, ?_⟩) rr ?_
          rotate_left 1
          · (intro w hS; clear hS; go_simp; try (with_reducible rfl))
          refine wpAnyH_take (i := 2) (v := ?_) rfl (by kernel_rfl) (by kernel_rfl) (by kernel_rfl) (fun _ _ _ h => h) (Or.inl ⟨by kernel_rfl, ?_⟩) rr ?_
          rotate_left 1
          · (intro w hS; clear hS; go_simp; try (with_reducible rfl))
          refine wpAnyH_take (i := 3) (v := ?_) rfl (by kernel_rfl) (by kernel_rfl) (by kernel_rfl) (fun _ _ _ h => h) (Or.inl ⟨by kernel_rfl, ?_⟩) rr ?_
          rotate_left 1
          · (intro w hS; clear hS; go_simp; try (with_reducible rfl))
          refine wpAnyH_ready (rs := [4]) (by kernel_rfl) (by simp) ?_
          refine AllReadyH.cons rfl (fun K hK => ?_) AllReadyH.nil
          go_simp
          refine (Match_t i c i c _ _ G G _ (by omega) (by omega) E2.out.g E2.out.g).mono ?_
          rintro e v ⟨rfl, b⟩
          rw [MS.out]
          have E3 := Lib.hid (E2.out.below b)
          have rr : v.cell? ⟨g, kk * 3, none⟩ = some (.int .i64 (P kk).k) ∧ v.cell? ⟨tb, tb0 + kk * 3, none⟩ = some (.int .i64 (G kk).k) := ⟨by have h := E3.out.p.kind rfl hkk; rwa [Nat.zero_add] at h, E3.out.g.kind rfl hkk⟩
          rw [PKE.out, GKE.out] at rr
          refine hK.out _ _ rr (fun _ => ?_)
          clear hK K b E2
          refine wpAnyH_take (i := 5) (v := ?_) rfl (by kernel_rfl) (by kernel_rfl) (by kernel_rfl) (fun _ _ _ h => h) (Or.inl ⟨by kernel_rfl, ?_⟩) rr ?_
          rotate_left 1
          · (intro w hS; clear hS; go_simp; try (with_reducible rfl))
          refine wpAnyH_take (i := 6) (v := ?_) rfl (by kernel_rfl) (by kernel_rfl) (by kernel_rfl) (fun _ _ _ h => h) (Or.inl ⟨by kernel_rfl, ?_⟩) rr ?_
          rotate_left 1
          · (intro w hS; clear hS; go_simp; try (with_reducible rfl))
          refine wpAnyH_take (i := 7) (v := ?_) rfl (by kernel_rfl) (by kernel_rfl) (by kernel_rfl) (fun _ _ _ h => h) (Or.inl ⟨by kernel_rfl, ?_⟩) rr ?_
          rotate_left 1
          · (intro w hS; clear hS; go_simp; try (with_reducible rfl))
          refine wpAnyH_take (i := 8) (v := ?_) rfl (by kernel_rfl) (by kernel_rfl) (by kernel_rfl) (fun _ _ _ h => h) (Or.inl ⟨by kernel_rfl, ?_⟩) rr ?_
          rotate_left 1
          · (intro w hS; clear hS; go_simp; try (with_reducible rfl))
          refine wpAnyH_ready (rs := [9]) (by kernel_rfl) (by simp) ?_
          refine AllReadyH.cons rfl (fun K hK => ?_) AllReadyH.nil
          go_simp
          refine (Match_t i c2 i c _ _ P G _ (by omega) (by omega) E3.out.p E3.out.g).mono ?_
          rintro e v ⟨rfl, b⟩
          rw [MO.out]
          have E4 := Lib.hid (E3.out.below b)
          have rr : v.cell? ⟨g, kk * 3, none⟩ = some (.int .i64 (P kk).k) ∧ v.cell? ⟨tb, tb0 + kk * 3, none⟩ = some (.int .i64 (G kk).k) := ⟨by have h := E4.out.p.kind rfl hkk; rwa [Nat.zero_add] at h, E4.out.g.kind rfl hkk⟩
          rw [PKE.out, GKE.out] at rr
          refine hK.out _ _ rr (fun _ => ?_)
          clear hK K b E3
          refine wpAnyH_take (i := 10) (v := ?_) rfl (by kernel_rfl) (by kernel_rfl) (by kernel_rfl) (fun _ _ _ h => h) (Or.inl ⟨by kernel_rfl, ?_⟩) rr ?_
          rotate_left 1
          · (intro w hS; clear hS; go_simp; try (with_reducible rfl))
          refine wpAnyH_take (i := 11) (v := ?_) rfl (by kernel_rfl) (by kernel_rfl) (by kernel_rfl) (fun _ _ _ h => h) (Or.inl ⟨by kernel_rfl, ?_⟩) rr ?_
          rotate_left 1
          · (intro w hS; clear hS; go_simp; try (with_reducible rfl))
          refine wpAnyH_take (i := 12) (v := ?_) rfl (by kernel_rfl) (by kernel_rfl) (by kernel_rfl) (fun _ _ _ h => h) (Or.inl ⟨by kernel_rfl, ?_⟩) rr ?_
          rotate_left 1
          · (intro w hS; clear hS; go_simp; try (with_reducible rfl))
          refine wpAnyH_take (i := 13) (v := ?_) rfl (by kernel_rfl) (by kernel_rfl) (by kernel_rfl) (fun _ _ _ h => h) (Or.inl ⟨by kernel_rfl, ?_⟩) rr ?_
          rotate_left 1
          · (intro w hS; clear hS; go_simp; try (with_reducible rfl))
          refine wpAnyH_ready (rs := [14]) (by kernel_rfl) (by simp) ?_
          refine AllReadyH.cons rfl (fun K hK => ?_) AllReadyH.nil
          go_simp
          refine (Match_t i c i cu _ _ G (upd G kk (turnF (G kk))) _ (by omega) (by omega) E4.out.g E4.out.u).mono ?_
          rintro e v ⟨rfl, b⟩
          rw [MT.out]
          have E5 := Lib.hid (E4.out.below b)
          have rr : v.cell? ⟨g, kk * 3, none⟩ = some (.int .i64 (P kk).k) ∧ v.cell? ⟨tb, tb0 + kk * 3, none⟩ = some (.int .i64 (G kk).k) := ⟨by have h := E5.out.p.kind rfl hkk; rwa [Nat.zero_add] at h, E5.out.g.kind rfl hkk⟩
          rw [PKE.out, GKE.out] at rr
          refine hK.out _ _ rr (fun _ => ?_)
          clear hK K b E4
          refine wpAnyH_take (i := 15) (v := ?_) rfl (by kernel_rfl) (by kernel_rfl) (by kernel_rfl) (fun _ _ _ h => h) (Or.inl ⟨by kernel_rfl, ?_⟩) rr ?_
          rotate_left 1
          · (intro w hS; clear hS; go_simp; try (with_reducible rfl))
          refine wpAnyH_take (i := 16) (v := ?_) rfl (by kernel_rfl) (by kernel_rfl) (by kernel_rfl) (fun _ _ _ h => h) (Or.inl ⟨by kernel_rfl, ?_⟩) rr ?_
          rotate_left 1
          · (intro w hS; clear hS; go_simp; try (with_reducible rfl))
          refine wpAnyH_take (i := 17) (v := ?_) rfl (by kernel_rfl) (by kernel_rfl) (by kernel_rfl) (fun _ _ _ h => h) (Or.inl ⟨by kernel_rfl, ?_⟩) rr ?_
          rotate_left 1
          · (intro w hS; clear hS; go_simp; try (with_reducible rfl))
          refine wpAnyH_take (i := 18) (v := ?_) rfl (by kernel_rfl) (by kernel_rfl) (by kernel_rfl) (fun _ _ _ h => h) (Or.inl ⟨by kernel_rfl, ?_⟩) rr ?_
          rotate_left 1
          · (intro w hS; clear hS; go_simp; try (with_reducible rfl))
          refine wpAnyH_ready (rs := [19]) (by kernel_rfl) (by simp) ?_
          refine AllReadyH.cons rfl (fun K hK => ?_) AllReadyH.nil
          go_simp
          refine (May_t i cu _ (upd G kk (turnF (G kk))) _ (by omega) E5.out.u).mono ?_
          rintro e v ⟨rfl, b⟩
          rw [TK.out]
          have E6 := Lib.hid (E5.out.below b)
          have rr : v.cell? ⟨g, kk * 3, none⟩ = some (.int .i64 (P kk).k) ∧ v.cell? ⟨tb, tb0 + kk * 3, none⟩ = some (.int .i64 (G kk).k) := ⟨by have h := E6.out.p.kind rfl hkk; rwa [Nat.zero_add] at h, E6.out.g.kind rfl hkk⟩
          rw [PKE.out, GKE.out] at rr
          refine hK.out _ _ rr (fun _ => ?_)
          clear hK K b E5
          by_cases h5 : pk = 5
          · subst h5
            have MUc := Lib.hid (MU.out.trans rfl : _ = true)
            clear MU MS MO MT TK
            refine wpAnyH_take (i := 20) (v := ?_) rfl (by kernel_rfl) (by kernel_rfl) (by kernel_rfl) (fun _ _ _ h => h) (Or.inl ⟨by kernel_rfl, ?_⟩) rr ?_
            rotate_left 1
            · (intro w hS; clear hS; go_simp; try (with_reducible rfl))
            refine wpAnyH_take (i := 21) (v := ?_) rfl (by kernel_rfl) (by kernel_rfl) (by kernel_rfl) (fun _ _ _ h => h) (Or.inl ⟨by kernel_rfl, ?_⟩) rr ?_
            rotate_left 1
            · (intro w hS; clear hS; go_simp; try (with_reducible rfl))
            refine wpAnyH_take (i := 22) (v := ?_) rfl (by kernel_rfl) (by kernel_rfl) (by kernel_rfl) (fun _ _ _ h => h) (Or.inl ⟨by kernel_rfl, ?_⟩) rr ?_
            rotate_left 1
            · (intro w hS; clear hS; go_simp; try (with_reducible rfl))
            refine wpAnyH_take (i := 23) (v := ?_) rfl (by kernel_rfl) (by kernel_rfl) (by kernel_rfl) (fun _ _ _ h => h) (Or.inl ⟨by kernel_rfl, ?_⟩) rr ?_
            rotate_left 1
            · (intro w hS; clear hS; go_simp; try (with_reducible rfl))
            refine wpAnyH_take (i := 25) (v := ?_) rfl (by kernel_rfl) (by kernel_rfl) (by kernel_rfl) (fun _ _ _ h => h) (Or.inl ⟨by kernel_rfl, ?_⟩) rr ?_
            rotate_left 1
            · (intro w hS; clear hS; go_simp; try (with_reducible rfl))
            refine wpAnyH_take (i := 26) (v := ?_) rfl (by kernel_rfl) (by kernel_rfl) (by kernel_rfl) (fun _ _ _ h => h) (Or.inl ⟨by kernel_rfl, ?_⟩) rr ?_
            rotate_left 1
            · (intro w hS; clear hS; go_simp; try (with_reducible rfl))
            refine wpAnyH_take (i := 27) (v := ?_) rfl (by kernel_rfl) (by kernel_rfl) (by kernel_rfl) (fun _ _ _ h => h) (Or.inl ⟨by kernel_rfl, ?_⟩) rr ?_
            rotate_left 1
            · (intro w hS; clear hS; go_simp; try (with_reducible rfl))
            refine wpAnyH_take (i := 28) (v := ?_) rfl (by kernel_rfl) (by kernel_rfl) (by kernel_rfl) (fun _ _ _ h => h) (Or.inl ⟨by kernel_rfl, ?_⟩) rr ?_
            rotate_left 1
            · (intro w hS; clear hS; go_simp; try (with_reducible rfl))
            refine wpAnyH_take (i := 29) (v := ?_) rfl (by kernel_rfl) (by kernel_rfl) (by kernel_rfl) (fun _ _ _ h => h) (Or.inl ⟨by kernel_rfl, ?_⟩) rr ?_
            rotate_left 1
            · (intro w hS; have hs := hS.1; clear hS; go_simp; try (with_reducible rfl))
            refine wpAnyH_take (i := 30) (v := ?_) rfl (by kernel_rfl) (by kernel_rfl) (by kernel_rfl) (fun _ _ _ h => h) (Or.inl ⟨by kernel_rfl, ?_⟩) rr ?_
            rotate_left 1
            · (intro w hS; clear hS; go_simp; try (with_reducible rfl))
            refine wpAnyH_ready (rs := [24]) (by kernel_rfl) (by simp) ?_
            refine AllReadyH.cons rfl (fun K hK => ?_) AllReadyH.nil
            go_simp
            refine (Match_t i c2 i cu _ _ P (upd G kk (turnF (G kk))) _ (by omega) (by omega) E6.out.p E6.out.u).mono ?_
            rintro e v ⟨rfl, b⟩
            rw [MUc.out]
            have E7 := Lib.hid (E6.out.below b)
            have rr : v.cell? ⟨g, kk * 3, none⟩ = some (.int .i64 (P kk).k) ∧ v.cell? ⟨tb, tb0 + kk * 3, none⟩ = some (.int .i64 (G kk).k) := ⟨by have h := E7.out.p.kind rfl hkk; rwa [Nat.zero_add] at h, E7.out.g.kind rfl hkk⟩
            rw [PKE.out, GKE.out] at rr
            refine hK.out _ _ rr (fun _ => ?_)
            clear hK K b E6
            refine wpAnyH_take (i := 31) (v := ?_) rfl (by kernel_rfl) (by kernel_rfl) (by kernel_rfl) (fun _ _ _ h => h) (Or.inl ⟨by kernel_rfl, ?_⟩) rr ?_
            rotate_left 1
            · (intro w hS; clear hS; go_simp; try (with_reducible rfl))
            refine wpAnyH_take (i := 32) (v := undef) rfl (by kernel_rfl) (by kernel_rfl) (by kernel_rfl) (fun _ _ _ h => h) (Or.inr ⟨by kernel_rfl, rfl⟩) rr ?_
            refine wpAnyH_take (i := 33) (v := undef) rfl (by kernel_rfl) (by kernel_rfl) (by kernel_rfl) (fun _ _ _ h => h) (Or.inr ⟨by kernel_rfl, rfl⟩) rr ?_
            refine wpAnyH_take (i := 34) (v := undef) rfl (by kernel_rfl) (by kernel_rfl) (by kernel_rfl) (fun _ _ _ h => h) (Or.inr ⟨by kernel_rfl, rfl⟩) rr ?_
            refine wpAnyH_take (i := 35) (v := undef) rfl (by kernel_rfl) (by kernel_rfl) (by kernel_rfl) (fun _ _ _ h => h) (Or.inr ⟨by kernel_rfl, rfl⟩) rr ?_
            refine wpAnyH_take (i := 36) (v := undef) rfl (by kernel_rfl) (by kernel_rfl) (by kernel_rfl) (fun _ _ _ h => h) (Or.inr ⟨by kernel_rfl, rfl⟩) rr ?_
            refine wpAnyH_take (i := 37) (v := undef) rfl (by kernel_rfl) (by kernel_rfl) (by kernel_rfl) (fun _ _ _ h => h) (Or.inr ⟨by kernel_rfl, rfl⟩) rr ?_
            refine wpAnyH_take (i := 38) (v := undef) rfl (by kernel_rfl) (by kernel_rfl) (by kernel_rfl) (fun _ _ _ h => h) (Or.inr ⟨by kernel_rfl, rfl⟩) rr ?_
            refine wpAnyH_take (i := 39) (v := undef) rfl (by kernel_rfl) (by kernel_rfl) (by kernel_rfl) (fun _ _ _ h => h) (Or.inr ⟨by kernel_rfl, rfl⟩) rr ?_
            refine wpAnyH_take (i := 40) (v := undef) rfl (by kernel_rfl) (by kernel_rfl) (by kernel_rfl) (fun _ _ _ h => h) (Or.inr ⟨by kernel_rfl, rfl⟩) rr ?_
            refine wpAnyH_take (i := 41) (v := undef) rfl (by kernel_rfl) (by kernel_rfl) (by kernel_rfl) (fun _ _ _ h => h) (Or.inr ⟨by kernel_rfl, rfl⟩) rr ?_
            refine wpAnyH_take (i := 42) (v := undef) rfl (by kernel_rfl) (by kernel_rfl) (by kernel_rfl) (fun _ _ _ h => h) (Or.inr ⟨by kernel_rfl, rfl⟩) rr ?_
            refine wpAnyH_take (i := 43) (v := undef) rfl (by kernel_rfl) (by kernel_rfl) (by kernel_rfl) (fun _ _ _ h => h) (Or.inr ⟨by kernel_rfl, rfl⟩) rr ?_
            refine wpAnyH_take (i := 44) (v := undef) rfl (by kernel_rfl) (by kernel_rfl) (by kernel_rfl) (fun _ _ _ h => h) (Or.inr ⟨by kernel_rfl, rfl⟩) rr ?_
            refine wpAnyH_take (i := 45) (v := undef) rfl (by kernel_rfl) (by kernel_rfl) (by kernel_rfl) (fun _ _ _ h => h) (Or.inr ⟨by kernel_rfl, rfl⟩) rr ?_
            refine wpAnyH_take (i := 46) (v := ?_) rfl (by kernel_rfl) (by kernel_rfl) (by kernel_rfl) (fun _ _ _ h => h) (Or.inl ⟨by kernel_rfl, ?_⟩) rr ?_
            rotate_left 1
            · (intro w hS; clear hS; go_simp; try (with_reducible rfl))
            refine wpAnyH_take (i := 47) (v := ?_) rfl (by kernel_rfl) (by kernel_rfl) (by kernel_rfl) (fun _ _ _ h => h) (Or.inl ⟨by kernel_rfl, ?_⟩) rr ?_
            rotate_left 1
            · (intro w hS; clear hS; go_simp; try (with_reducible rfl))
            refine wpAnyH_take (i := 48) (v := ?_) rfl (by kernel_rfl) (by kernel_rfl) (by kernel_rfl) (fun _ _ _ h => h) (Or.inl ⟨by kernel_rfl, ?_⟩) rr ?_
            rotate_left 1
            · (intro w hS; clear hS; go_simp; try (with_reducible rfl))
            refine wpAnyH_take (i := 49) (v := ?_) rfl (by kernel_rfl) (by kernel_rfl) (by kernel_rfl) (fun _ _ _ h => h) (Or.inl ⟨by kernel_rfl, ?_⟩) rr ?_
            rotate_left 1
            · (intro w hS; clear hS; go_simp; try (with_reducible rfl))
            refine wpAnyH_take (i := 50) (v := ?_) rfl (by kernel_rfl) (by kernel_rfl) (by kernel_rfl) (fun _ _ _ h => h) (Or.inl ⟨by kernel_rfl, ?_⟩) rr ?_
            rotate_left 1
            · (intro w hS; clear hS; go_simp; try (with_reducible rfl))
            refine wpAnyH_take (i := 51) (v := ?_) rfl (by kernel_rfl) (by kernel_rfl) (by kernel_rfl) (fun _ _ _ h => h) (Or.inl ⟨by kernel_rfl, ?_⟩) rr ?_
            rotate_left 1
            · (intro w hS; clear hS; go_simp; try (with_reducible rfl))
            refine wpAnyH_ready (rs := [52]) (by kernel_rfl) (by simp) ?_
            refine AllReadyH.cons rfl (fun K hK => ?_) AllReadyH.nil
            go_simp
            refine (Match_t i c (i + 1) c6 _ _ G (upd G i ⟨1, 0, eS⟩) _ (by omega) (by omega) E7.out.g E7.out.s).mono ?_
            rintro e v ⟨rfl, b⟩
            rw [MM.out]
            have E8 := Lib.hid (E7.out.below b)
            have rr : v.cell? ⟨g, kk * 3, none⟩ = some (.int .i64 (P kk).k) ∧ v.cell? ⟨tb, tb0 + kk * 3, none⟩ = some (.int .i64 (G kk).k) := ⟨by have h := E8.out.p.kind rfl hkk; rwa [Nat.zero_add] at h, E8.out.g.kind rfl hkk⟩
            rw [PKE.out, GKE.out] at rr
            refine hK.out _ _ rr (fun _ => ?_)
            clear hK K b E7
            refine wpAnyH_take (i := 53) (v := ?_) rfl (by kernel_rfl) (by kernel_rfl) (by kernel_rfl) (fun _ _ _ h => h) (Or.inl ⟨by kernel_rfl, ?_⟩) rr ?_
            rotate_left 1
            · (intro w hS; clear hS; go_simp; try (with_reducible rfl))
            refine wpAnyH_take (i := 54) (v := ?_) rfl (by kernel_rfl) (by kernel_rfl) (by kernel_rfl) (fun _ _ _ h => h) (Or.inl ⟨by kernel_rfl, ?_⟩) rr ?_
            rotate_left 1
            · (intro w hS; clear hS; go_simp; try (with_reducible rfl))
            refine wpAnyH_take (i := 55) (v := ?_) rfl (by kernel_rfl) (by kernel_rfl) (by kernel_rfl) (fun _ _ _ h => h) (Or.inl ⟨by kernel_rfl, ?_⟩) rr ?_
            rotate_left 1
            · (intro w hS; clear hS; go_simp; try (with_reducible rfl))
            refine wpAnyH_done (by kernel_rfl) ?_ _
            go_simp
            clear rr
            go_wp2_with fail
            go_ret
            exact ⟨rfl, E8.out.bel⟩
          · have e5 : (pk == 5) = false := by rw [beq_eq_false_iff_ne]; exact h5
            by_cases h3 : pk = 3
            · subst h3
              have MUc := Lib.hid (MU.out.trans rfl : _ = false)
              clear MU MS MO MT TK h5 e5
              refine wpAnyH_take (i := 20) (v := ?_) rfl (by kernel_rfl) (by kernel_rfl) (by kernel_rfl) (fun _ _ _ h => h) (Or.inl ⟨by kernel_rfl, ?_⟩) rr ?_
              rotate_left 1
              · (intro w hS; clear hS; go_simp; try (with_reducible rfl))
              refine wpAnyH_take (i := 21) (v := ?_) rfl (by kernel_rfl) (by kernel_rfl) (by kernel_rfl) (fun _ _ _ h => h) (Or.inl ⟨by kernel_rfl, ?_⟩) rr ?_
              rotate_left 1
              · (intro w hS; clear hS; go_simp; try (with_reducible rfl))
              refine wpAnyH_take (i := 22) (v := ?_) rfl (by kernel_rfl) (by kernel_rfl) (by kernel_rfl) (fun _ _ _ h => h) (Or.inl ⟨by kernel_rfl, ?_⟩) rr ?_
              rotate_left 1
              · (intro w hS; clear hS; go_simp; try (with_reducible rfl))
              refine wpAnyH_take (i := 23) (v := ?_) rfl (by kernel_rfl) (by kernel_rfl) (by kernel_rfl) (fun _ _ _ h => h) (Or.inl ⟨by kernel_rfl, ?_⟩) rr ?_
              rotate_left 1
              · (intro w hS; clear hS; go_simp; try (with_reducible rfl))
              refine wpAnyH_take (i := 25) (v := ?_) rfl (by kernel_rfl) (by kernel_rfl) (by kernel_rfl) (fun _ _ _ h => h) (Or.inl ⟨by kernel_rfl, ?_⟩) rr ?_
              rotate_left 1
              · (intro w hS; clear hS; go_simp; try (with_reducible rfl))
              refine wpAnyH_take (i := 26) (v := ?_) rfl (by kernel_rfl) (by kernel_rfl) (by kernel_rfl) (fun _ _ _ h => h) (Or.inl ⟨by kernel_rfl, ?_⟩) rr ?_
              rotate_left 1
              · (intro w hS; clear hS; go_simp; try (with_reducible rfl))
              refine wpAnyH_take (i := 27) (v := ?_) rfl (by kernel_rfl) (by kernel_rfl) (by kernel_rfl) (fun _ _ _ h => h) (Or.inl ⟨by kernel_rfl, ?_⟩) rr ?_
              rotate_left 1
              · (intro w hS; clear hS; go_simp; try (with_reducible rfl))
              refine wpAnyH_take (i := 28) (v := ?_) rfl (by kernel_rfl) (by kernel_rfl) (by kernel_rfl) (fun _ _ _ h => h) (Or.inl ⟨by kernel_rfl, ?_⟩) rr ?_
              rotate_left 1
              · (intro w hS; clear hS; go_simp; try (with_reducible rfl))
              refine wpAnyH_take (i := 29) (v := ?_) rfl (by kernel_rfl) (by kernel_rfl) (by kernel_rfl) (fun _ _ _ h => h) (Or.inl ⟨by kernel_rfl, ?_⟩) rr ?_
              rotate_left 1
              · (intro w hS; have hs := hS.1; clear hS; go_simp; try (with_reducible rfl))
              refine wpAnyH_take (i := 30) (v := ?_) rfl (by kernel_rfl) (by kernel_rfl) (by kernel_rfl) (fun _ _ _ h => h) (Or.inl ⟨by kernel_rfl, ?_⟩) rr ?_
              rotate_left 1
              · (intro w hS; clear hS; go_simp; try (with_reducible rfl))
              refine wpAnyH_ready (rs := [24]) (by kernel_rfl) (by simp) ?_
              refine AllReadyH.cons rfl (fun K hK => ?_) AllReadyH.nil
              go_simp
              refine (Match_t i c2 i cu _ _ P (upd G kk (turnF (G kk))) _ (by omega) (by omega) E6.out.p E6.out.u).mono ?_
              rintro e v ⟨rfl, b⟩
              rw [MUc.out]
              have E7 := Lib.hid (E6.out.below b)
              have rr : v.cell? ⟨g, kk * 3, none⟩ = some (.int .i64 (P kk).k) ∧ v.cell? ⟨tb, tb0 + kk * 3, none⟩ = some (.int .i64 (G kk).k) := ⟨by have h := E7.out.p.kind rfl hkk; rwa [Nat.zero_add] at h, E7.out.g.kind rfl hkk⟩
              rw [PKE.out, GKE.out] at rr
              refine hK.out _ _ rr (fun _ => ?_)
              clear hK K b E6
              refine wpAnyH_take (i := 31) (v := ?_) rfl (by kernel_rfl) (by kernel_rfl) (by kernel_rfl) (fun _ _ _ h => h) (Or.inl ⟨by kernel_rfl, ?_⟩) rr ?_
              rotate_left 1
              · (intro w hS; clear hS; go_simp; try (with_reducible rfl))
              refine wpAnyH_take (i := 32) (v := ?_) rfl (by kernel_rfl) (by kernel_rfl) (by kernel_rfl) (fun _ _ _ h => h) (Or.inl ⟨by kernel_rfl, ?_⟩) rr ?_
              rotate_left 1
              · (intro w hS; clear hS; go_simp; try (with_reducible rfl))
              refine wpAnyH_take (i := 33) (v := ?_) rfl (by kernel_rfl) (by kernel_rfl) (by kernel_rfl) (fun _ _ _ h => h) (Or.inl ⟨by kernel_rfl, ?_⟩) rr ?_
              rotate_left 1
              · (intro w hS; clear hS; go_simp; try (with_reducible rfl))
              refine wpAnyH_take (i := 34) (v := ?_) rfl (by kernel_rfl) (by kernel_rfl) (by kernel_rfl) (fun _ _ _ h => h) (Or.inl ⟨by kernel_rfl, ?_⟩) rr ?_
              rotate_left 1
              · (intro w hS; clear hS; go_simp; try (with_reducible rfl))
              refine wpAnyH_take (i := 35) (v := ?_) rfl (by kernel_rfl) (by kernel_rfl) (by kernel_rfl) (fun _ _ _ h => h) (Or.inl ⟨by kernel_rfl, ?_⟩) rr ?_
              rotate_left 1
              · (intro w hS; clear hS; go_simp; try (with_reducible rfl))
              refine wpAnyH_take (i := 36) (v := ?_) rfl (by kernel_rfl) (by kernel_rfl) (by kernel_rfl) (fun _ _ _ h => h) (Or.inl ⟨by kernel_rfl, ?_⟩) rr ?_
              rotate_left 1
              · (intro w hS; have hs := hS.1; clear hS; go_simp; try (with_reducible rfl))
              refine wpAnyH_take (i := 37) (v := ?_) rfl (by kernel_rfl) (by kernel_rfl) (by kernel_rfl) (fun _ _ _ h => h) (Or.inl ⟨by kernel_rfl, ?_⟩) rr ?_
              rotate_left 1
              · (intro w hS; clear hS; go_simp; try (with_reducible rfl))
              refine wpAnyH_take (i := 38) (v := ?_) rfl (by kernel_rfl) (by kernel_rfl) (by kernel_rfl) (fun _ _ _ h => h) (Or.inl ⟨by kernel_rfl, ?_⟩) rr ?_
              rotate_left 1
              · (intro w hS; clear hS; go_simp; try (with_reducible rfl))
              refine wpAnyH_take (i := 39) (v := ?_) rfl (by kernel_rfl) (by kernel_rfl) (by kernel_rfl) (fun _ _ _ h => h) (Or.inl ⟨by kernel_rfl, ?_⟩) rr ?_
              rotate_left 1
              · (intro w hS; clear hS; go_simp; try (with_reducible rfl))
              refine wpAnyH_take (i := 40) (v := ?_) rfl (by kernel_rfl) (by kernel_rfl) (by kernel_rfl) (fun _ _ _ h => h) (Or.inl ⟨by kernel_rfl, ?_⟩) rr ?_
              rotate_left 1
              · (intro w hS; clear hS; go_simp; try (with_reducible rfl))
              refine wpAnyH_take (i := 41) (v := ?_) rfl (by kernel_rfl) (by kernel_rfl) (by kernel_rfl) (fun _ _ _ h => h) (Or.inl ⟨by kernel_rfl, ?_⟩) rr ?_
              rotate_left 1
              · (intro w hS; clear hS; go_simp; try (with_reducible rfl))
              refine wpAnyH_take (i := 42) (v := ?_) rfl (by kernel_rfl) (by kernel_rfl) (by kernel_rfl) (fun _ _ _ h => h) (Or.inl ⟨by kernel_rfl, ?_⟩) rr ?_
              rotate_left 1
              · (intro w hS; clear hS; go_simp; try (with_reducible rfl))
              refine wpAnyH_take (i := 43) (v := ?_) rfl (by kernel_rfl) (by kernel_rfl) (by kernel_rfl) (fun _ _ _ h => h) (Or.inl ⟨by kernel_rfl, ?_⟩) rr ?_
              rotate_left 1
              · (intro w hS; have hs := hS.2; clear hS; go_simp; try (with_reducible rfl))
              refine wpAnyH_take (i := 44) (v := ?_) rfl (by kernel_rfl) (by kernel_rfl) (by kernel_rfl) (fun _ _ _ h => h) (Or.inl ⟨by kernel_rfl, ?_⟩) rr ?_
              rotate_left 1
              · (intro w hS; clear hS; go_simp; try (with_reducible rfl))
              refine wpAnyH_take (i := 45) (v := ?_) rfl (by kernel_rfl) (by kernel_rfl) (by kernel_rfl) (fun _ _ _ h => h) (Or.inl ⟨by kernel_rfl, ?_⟩) rr ?_
              rotate_left 1
              · (intro w hS; clear hS; go_simp; try (with_reducible rfl))
              refine wpAnyH_take (i := 46) (v := ?_) rfl (by kernel_rfl) (by kernel_rfl) (by kernel_rfl) (fun _ _ _ h => h) (Or.inl ⟨by kernel_rfl, ?_⟩) rr ?_
              rotate_left 1
              · (intro w hS; clear hS; go_simp; try (with_reducible rfl))
              refine wpAnyH_take (i := 47) (v := ?_) rfl (by kernel_rfl) (by kernel_rfl) (by kernel_rfl) (fun _ _ _ h => h) (Or.inl ⟨by kernel_rfl, ?_⟩) rr ?_
              rotate_left 1
              · (intro w hS; clear hS; go_simp; try (with_reducible rfl))
              refine wpAnyH_take (i := 48) (v := ?_) rfl (by kernel_rfl) (by kernel_rfl) (by kernel_rfl) (fun _ _ _ h => h) (Or.inl ⟨by kernel_rfl, ?_⟩) rr ?_
              rotate_left 1
              · (intro w hS; clear hS; go_simp; try (with_reducible rfl))
              refine wpAnyH_take (i := 49) (v := ?_) rfl (by kernel_rfl) (by kernel_rfl) (by kernel_rfl) (fun _ _ _ h => h) (Or.inl ⟨by kernel_rfl, ?_⟩) rr ?_
              rotate_left 1
              · (intro w hS; clear hS; go_simp; try (with_reducible rfl))
              refine wpAnyH_take (i := 50) (v := ?_) rfl (by kernel_rfl) (by kernel_rfl) (by kernel_rfl) (fun _ _ _ h => h) (Or.inl ⟨by kernel_rfl, ?_⟩) rr ?_
              rotate_left 1
              · (intro w hS; clear hS; go_simp; try (with_reducible rfl))
              refine wpAnyH_take (i := 51) (v := ?_) rfl (by kernel_rfl) (by kernel_rfl) (by kernel_rfl) (fun _ _ _ h => h) (Or.inl ⟨by kernel_rfl, ?_⟩) rr ?_
              rotate_left 1
              · (intro w hS; clear hS; go_simp; try (with_reducible rfl))
              refine wpAnyH_ready (rs := [52]) (by kernel_rfl) (by simp) ?_
              refine AllReadyH.cons rfl (fun K hK => ?_) AllReadyH.nil
              go_simp
              refine (Match_t i c (i + 1) c6 _ _ G (upd G i ⟨1, 0, eS⟩) _ (by omega) (by omega) E7.out.g E7.out.s).mono ?_
              rintro e v ⟨rfl, b⟩
              rw [MM.out]
              have E8 := Lib.hid (E7.out.below b)
              have rr : v.cell? ⟨g, kk * 3, none⟩ = some (.int .i64 (P kk).k) ∧ v.cell? ⟨tb, tb0 + kk * 3, none⟩ = some (.int .i64 (G kk).k) := ⟨by have h := E8.out.p.kind rfl hkk; rwa [Nat.zero_add] at h, E8.out.g.kind rfl hkk⟩
              rw [PKE.out, GKE.out] at rr
              refine hK.out _ _ rr (fun _ => ?_)
              clear hK K b E7
              refine wpAnyH_take (i := 53) (v := ?_) rfl (by kernel_rfl) (by kernel_rfl) (by kernel_rfl) (fun _ _ _ h => h) (Or.inl ⟨by kernel_rfl, ?_⟩) rr ?_
              rotate_left 1
              · (intro w hS; clear hS; go_simp; try (with_reducible rfl))
              refine wpAnyH_take (i := 54) (v := ?_) rfl (by kernel_rfl) (by kernel_rfl) (by kernel_rfl) (fun _ _ _ h => h) (Or.inl ⟨by kernel_rfl, ?_⟩) rr ?_
              rotate_left 1
              · (intro w hS; clear hS; go_simp; try (with_reducible rfl))
              refine wpAnyH_take (i := 55) (v := ?_) rfl (by kernel_rfl) (by kernel_rfl) (by kernel_rfl) (fun _ _ _ h => h) (Or.inl ⟨by kernel_rfl, ?_⟩) rr ?_
              rotate_left 1
              · (intro w hS; clear hS; go_simp; try (with_reducible rfl))
              refine wpAnyH_done (by kernel_rfl) ?_ _
              go_simp
              clear rr
              go_wp2_with fail
              go_ret
              exact ⟨rfl, E8.out.bel⟩
            · have e3 : (pk == 3) = false := by rw [beq_eq_false_iff_ne]; exact h3
              have MUc := Lib.hid (MU.out.trans (by rw [e5, e3]; rfl) : _ = false)
              clear MU MS MO MT TK h5 h3
              refine wpAnyH_take (i := 20) (v := ?_) rfl (by kernel_rfl) (by kernel_rfl) (by kernel_rfl) (fun _ _ _ h => h) (Or.inl ⟨by kernel_rfl, ?_⟩) rr ?_
              rotate_left 1
              · (intro w hS; clear hS; go_simp; try (with_reducible rfl))
              refine wpAnyH_take (i := 21) (v := ?_) rfl (by kernel_rfl) (by kernel_rfl) (by kernel_rfl) (fun _ _ _ h => h) (Or.inl ⟨by kernel_rfl, ?_⟩) rr ?_
              rotate_left 1
              · (intro w hS; clear hS; go_simp; try (with_reducible rfl))
              refine wpAnyH_take (i := 22) (v := ?_) rfl (by kernel_rfl) (by kernel_rfl) (by kernel_rfl) (fun _ _ _ h => h) (Or.inl ⟨by kernel_rfl, ?_⟩) rr ?_
              rotate_left 1
              · (intro w hS; clear hS; go_simp; try (with_reducible rfl))
              refine wpAnyH_take (i := 23) (v := ?_) rfl (by kernel_rfl) (by kernel_rfl) (by kernel_rfl) (fun _ _ _ h => h) (Or.inl ⟨by kernel_rfl, ?_⟩) rr ?_
              rotate_left 1
              · (intro w hS; clear hS; go_simp; try (with_reducible rfl))
              refine wpAnyH_take (i := 25) (v := ?_) rfl (by kernel_rfl) (by kernel_rfl) (by kernel_rfl) (fun _ _ _ h => h) (Or.inl ⟨by kernel_rfl, ?_⟩) rr ?_
              rotate_left 1
              · (intro w hS; clear hS; go_simp; try (with_reducible rfl))
              refine wpAnyH_take (i := 26) (v := ?_) rfl (by kernel_rfl) (by kernel_rfl) (by kernel_rfl) (fun _ _ _ h => h) (Or.inl ⟨by kernel_rfl, ?_⟩) rr ?_
              rotate_left 1
              · (intro w hS; clear hS; go_simp; try (with_reducible rfl))
              refine wpAnyH_take (i := 27) (v := ?_) rfl (by kernel_rfl) (by kernel_rfl) (by kernel_rfl) (fun _ _ _ h => h) (Or.inl ⟨by kernel_rfl, ?_⟩) rr ?_
              rotate_left 1
              · (intro w hS; clear hS; go_simp; try (with_reducible rfl))
              refine wpAnyH_take (i := 28) (v := ?_) rfl (by kernel_rfl) (by kernel_rfl) (by kernel_rfl) (fun _ _ _ h => h) (Or.inl ⟨by kernel_rfl, ?_⟩) rr ?_
              rotate_left 1
              · (intro w hS; clear hS; go_simp; try (with_reducible rfl))
              refine wpAnyH_take (i := 29) (v := ?_) rfl (by kernel_rfl) (by kernel_rfl) (by kernel_rfl) (fun _ _ _ h => h) (Or.inl ⟨by kernel_rfl, ?_⟩) rr ?_
              rotate_left 1
              · (intro w hS; have hs := hS.1; clear hS; go_simp; try (with_reducible rfl))
              refine wpAnyH_take (i := 30) (v := ?_) rfl (by kernel_rfl) (by kernel_rfl) (by kernel_rfl) (fun _ _ _ h => h) (Or.inl ⟨by kernel_rfl, ?_⟩) rr ?_
              rotate_left 1
              · (intro w hS; clear hS; go_simp; try (with_reducible rfl))
              refine wpAnyH_ready (rs := [24]) (by kernel_rfl) (by simp) ?_
              refine AllReadyH.cons rfl (fun K hK => ?_) AllReadyH.nil
              go_simp
              refine (Match_t i c2 i cu _ _ P (upd G kk (turnF (G kk))) _ (by omega) (by omega) E6.out.p E6.out.u).mono ?_
              rintro e v ⟨rfl, b⟩
              rw [MUc.out]
              have E7 := Lib.hid (E6.out.below b)
              have rr : v.cell? ⟨g, kk * 3, none⟩ = some (.int .i64 (P kk).k) ∧ v.cell? ⟨tb, tb0 + kk * 3, none⟩ = some (.int .i64 (G kk).k) := ⟨by have h := E7.out.p.kind rfl hkk; rwa [Nat.zero_add] at h, E7.out.g.kind rfl hkk⟩
              rw [PKE.out, GKE.out] at rr
              refine hK.out _ _ rr (fun _ => ?_)
              clear hK K b E6
              refine wpAnyH_take (i := 31) (v := ?_) rfl (by kernel_rfl) (by kernel_rfl) (by kernel_rfl) (fun _ _ _ h => h) (Or.inl ⟨by kernel_rfl, ?_⟩) rr ?_
              rotate_left 1
              · (intro w hS; clear hS; go_simp; try (with_reducible rfl))
              refine wpAnyH_take (i := 32) (v := ?_) rfl (by kernel_rfl) (by kernel_rfl) (by kernel_rfl) (fun _ _ _ h => h) (Or.inl ⟨by kernel_rfl, ?_⟩) rr ?_
              rotate_left 1
              · (intro w hS; clear hS; go_simp; try (with_reducible rfl))
              refine wpAnyH_take (i := 33) (v := ?_) rfl (by kernel_rfl) (by kernel_rfl) (by kernel_rfl) (fun _ _ _ h => h) (Or.inl ⟨by kernel_rfl, ?_⟩) rr ?_
              rotate_left 1
              · (intro w hS; clear hS; go_simp; try (with_reducible rfl))
              refine wpAnyH_take (i := 34) (v := ?_) rfl (by kernel_rfl) (by kernel_rfl) (by kernel_rfl) (fun _ _ _ h => h) (Or.inl ⟨by kernel_rfl, ?_⟩) rr ?_
              rotate_left 1
              · (intro w hS; clear hS; go_simp; try (with_reducible rfl))
              refine wpAnyH_take (i := 35) (v := ?_) rfl (by kernel_rfl) (by kernel_rfl) (by kernel_rfl) (fun _ _ _ h => h) (Or.inl ⟨by kernel_rfl, ?_⟩) rr ?_
              rotate_left 1
              · (intro w hS; clear hS; go_simp; try (with_reducible rfl))
              refine wpAnyH_take (i := 36) (v := ?_) rfl (by kernel_rfl) (by kernel_rfl) (by kernel_rfl) (fun _ _ _ h => h) (Or.inl ⟨by kernel_rfl, ?_⟩) rr ?_
              rotate_left 1
              · (intro w hS; have hs := hS.1; clear hS; go_simp; try (with_reducible rfl))
              refine wpAnyH_take (i := 37) (v := ?_) rfl (by kernel_rfl) (by kernel_rfl) (by kernel_rfl) (fun _ _ _ h => h) (Or.inl ⟨by kernel_rfl, ?_⟩) rr ?_
              rotate_left 1
              · (intro w hS; clear hS; go_simp; try (with_reducible rfl))
              refine wpAnyH_take (i := 38) (v := ?_) rfl (by kernel_rfl) (by kernel_rfl) (by kernel_rfl) (fun _ _ _ h => h) (Or.inl ⟨by kernel_rfl, ?_⟩) rr ?_
              rotate_left 1
              · (intro w hS; clear hS; go_simp; try (with_reducible rfl))
              refine wpAnyH_take (i := 39) (v := undef) rfl (by kernel_rfl) (by kernel_rfl) (by kernel_rfl) (fun _ _ _ h => h) (Or.inr ⟨by kernel_rfl, rfl⟩) rr ?_
              refine wpAnyH_take (i := 40) (v := undef) rfl (by kernel_rfl) (by kernel_rfl) (by kernel_rfl) (fun _ _ _ h => h) (Or.inr ⟨by kernel_rfl, rfl⟩) rr ?_
              refine wpAnyH_take (i := 41) (v := undef) rfl (by kernel_rfl) (by kernel_rfl) (by kernel_rfl) (fun _ _ _ h => h) (Or.inr ⟨by kernel_rfl, rfl⟩) rr ?_
              refine wpAnyH_take (i := 42) (v := undef) rfl (by kernel_rfl) (by kernel_rfl) (by kernel_rfl) (fun _ _ _ h => h) (Or.inr ⟨by kernel_rfl, rfl⟩) rr ?_
              refine wpAnyH_take (i := 43) (v := undef) rfl (by kernel_rfl) (by kernel_rfl) (by kernel_rfl) (fun _ _ _ h => h) (Or.inr ⟨by kernel_rfl, rfl⟩) rr ?_
              refine wpAnyH_take (i := 44) (v := undef) rfl (by kernel_rfl) (by kernel_rfl) (by kernel_rfl) (fun _ _ _ h => h) (Or.inr ⟨by kernel_rfl, rfl⟩) rr ?_
              refine wpAnyH_take (i := 45) (v := ?_) rfl (by kernel_rfl) (by kernel_rfl) (by kernel_rfl) (fun _ _ _ h => h) (Or.inl ⟨by kernel_rfl, ?_⟩) rr ?_
              rotate_left 1
              · (intro w hS; clear hS; go_simp; try (with_reducible rfl))
              refine wpAnyH_take (i := 46) (v := ?_) rfl (by kernel_rfl) (by kernel_rfl) (by kernel_rfl) (fun _ _ _ h => h) (Or.inl ⟨by kernel_rfl, ?_⟩) rr ?_
              rotate_left 1
              · (intro w hS; clear hS; go_simp; try (with_reducible rfl))
              refine wpAnyH_take (i := 47) (v := ?_) rfl (by kernel_rfl) (by kernel_rfl) (by kernel_rfl) (fun _ _ _ h => h) (Or.inl ⟨by kernel_rfl, ?_⟩) rr ?_
              rotate_left 1
              · (intro w hS; clear hS; go_simp; try (with_reducible rfl))
              refine wpAnyH_take (i := 48) (v := ?_) rfl (by kernel_rfl) (by kernel_rfl) (by kernel_rfl) (fun _ _ _ h => h) (Or.inl ⟨by kernel_rfl, ?_⟩) rr ?_
              rotate_left 1
              · (intro w hS; clear hS; go_simp; try (with_reducible rfl))
              refine wpAnyH_take (i := 49) (v := ?_) rfl (by kernel_rfl) (by kernel_rfl) (by kernel_rfl) (fun _ _ _ h => h) (Or.inl ⟨by kernel_rfl, ?_⟩) rr ?_
              rotate_left 1
              · (intro w hS; clear hS; go_simp; try (with_reducible rfl))
              refine wpAnyH_take (i := 50) (v := ?_) rfl (by kernel_rfl) (by kernel_rfl) (by kernel_rfl) (fun _ _ _ h => h) (Or.inl ⟨by kernel_rfl, ?_⟩) rr ?_
              rotate_left 1
              · (intro w hS; clear hS; go_simp; try (with_reducible rfl))
              refine wpAnyH_take (i := 51) (v := ?_) rfl (by kernel_rfl) (by kernel_rfl) (by kernel_rfl) (fun _ _ _ h => h) (Or.inl ⟨by kernel_rfl, ?_⟩) rr ?_
              rotate_left 1
              · (intro w hS; clear hS; go_simp; try (with_reducible rfl))
              refine wpAnyH_ready (rs := [52]) (by kernel_rfl) (by simp) ?_
              refine AllReadyH.cons rfl (fun K hK => ?_) AllReadyH.nil
              go_simp
              refine (Match_t i c (i + 1) c6 _ _ G (upd G i ⟨1, 0, eS⟩) _ (by omega) (by omega) E7.out.g E7.out.s).mono ?_
              rintro e v ⟨rfl, b⟩
              rw [MM.out]
              have E8 := Lib.hid (E7.out.below b)
              have rr : v.cell? ⟨g, kk * 3, none⟩ = some (.int .i64 (P kk).k) ∧ v.cell? ⟨tb, tb0 + kk * 3, none⟩ = some (.int .i64 (G kk).k) := ⟨by have h := E8.out.p.kind rfl hkk; rwa [Nat.zero_add] at h, E8.out.g.kind rfl hkk⟩
              rw [PKE.out, GKE.out] at rr
              refine hK.out _ _ rr (fun _ => ?_)
              clear hK K b E7
              refine wpAnyH_take (i := 53) (v := ?_) rfl (by kernel_rfl) (by kernel_rfl) (by kernel_rfl) (fun _ _ _ h => h) (Or.inl ⟨by kernel_rfl, ?_⟩) rr ?_
              rotate_left 1
              · (intro w hS; clear hS; go_simp; try (with_reducible rfl))
              refine wpAnyH_take (i := 54) (v := ?_) rfl (by kernel_rfl) (by kernel_rfl) (by kernel_rfl) (fun _ _ _ h => h) (Or.inl ⟨by kernel_rfl, ?_⟩) rr ?_
              rotate_left 1
              · (intro w hS; clear hS; go_simp; try (with_reducible rfl))
              refine wpAnyH_take (i := 55) (v := ?_) rfl (by kernel_rfl) (by kernel_rfl) (by kernel_rfl) (fun _ _ _ h => h) (Or.inl ⟨by kernel_rfl, ?_⟩) rr ?_
              rotate_left 1
              · (intro w hS; clear hS; go_simp; try (with_reducible rfl))
              refine wpAnyH_done (by kernel_rfl) ?_ _
              go_simp
              clear rr
              go_wp2_with fail
              go_ret
              exact ⟨rfl, E8.out.bel⟩
end Go.Proofs.Ytlaiblgnjppmnaa
