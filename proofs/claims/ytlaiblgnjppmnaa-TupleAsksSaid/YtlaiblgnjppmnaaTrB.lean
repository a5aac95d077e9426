/-
  THE REFERENCE OF CHAPTER 6: SameFields, Match.
-/
import Derived.Test.YtlaiblgnjppmnaaTrA
namespace Go.Proofs.Ytlaiblgnjppmnaa
open Go Go.RowKit Sh

theorem neq_fld (a b : Fld) (w : World) : (binOp .neq 38 (.agg (fv a).toArray) (.agg (fv b).toArray)).run Try.prog w = .ok (.bool (!sameF a b)) w := by
  rw [run_neq_struct, eqIn_fld 9998 a b w]
  rfl
set_option maxRecDepth 100000 in
theorem refsame_t (n c m c2 : Nat) (p q : Option Addr) (G H : Nat → Fld) (w : World) (hn : n ≤ 9223372036854775807) (hm : m ≤ 9223372036854775807) (hr : Rw w p n G) (hq : Rw w q m H) :
    Calls Try.prog 18 #[.slice p n c, .slice q m c2] w fun e w' => e = .returned (.bool (sameN n G m H)) ∧ Below w.heap.size w w' := by
  by_cases h : n = m
  · subst h
    rw [show sameN n G n H = allN (fun j => sameF (G j) (H j)) n by simp [sameN]]
    have HR := Lib.hid hr; have HQ := Lib.hid hq
    have AY := Lib.hid (fun h => (allN_iff (fun j => sameF (G j) (H j)) n).2 h); have AN := Lib.hid (fun j hj h => allN_no (B := fun j => sameF (G j) (H j)) (n := n) (j := j) hj h)
    obtain ⟨r, hR⟩ : ∃ r, allN (fun j => sameF (G j) (H j)) n = r := ⟨_, rfl⟩
    rw [hR] at AY AN ⊢
    clear hR hr hq
    go_enter Try.func18, Try.ntmps18
    go_upto_region 4 with (fail)
    go_loopw [5] (fun x wr => ∃ j : Nat, j ≤ n ∧ x = .int .i64 (j : Int) ∧ Below w.heap.size w wr ∧ ∀ i, i < j → sameF (G i) (H i) = true) (fun x _ => n - (intOf x).toNat)
    case atStart => exact ⟨0, by omega, rfl, Below.refl _ _, fun i hi => absurd hi (by omega)⟩
    case round =>
      obtain ⟨j, hj, rfl, bx, hb⟩ := hrel
      have HB := Lib.hid hb; have BX := Lib.hid bx
      clear hb bx
      by_cases hlt : j < n
      · obtain ⟨b, o, rfl, rg⟩ := (HR.out.below (BX.out.trans ((Below.refl _ _).drew))).read hlt
        obtain ⟨b2, o2, rfl, rg2⟩ := (HQ.out.below (BX.out.trans ((Below.refl _ _).drew))).read hlt
        have j1 : (j : Int) < (n : Int) := by omega
        have NQ := neq_fld (G j) (H j)
        have FG := Lib.hid (fv_size (G j)); have FH := Lib.hid (fv_size (H j))
        have AN1 := Lib.hid (AN.out j hlt)
        have HN := Lib.hid (fun (h : sameF (G j) (H j) = true) (i : Nat) (hi : i < j + 1) => show sameF (G i) (H i) = true by
          rcases Nat.lt_or_ge i j with h1 | h1
          · exact HB.out i h1
          · obtain rfl : i = j := by omega
            exact h)
        obtain ⟨sb, hsb⟩ : ∃ b, sameF (G j) (H j) = b := ⟨_, rfl⟩
        rw [hsb] at NQ AN1 HN
        clear hsb HB
        go_upto_region 6 with (fail)
        refine wp_region_held (S := fun X => X.rangeAt b (o + j * 3) (fv (G j)) ∧ X.rangeAt b2 (o2 + j * 3) (fv (H j))) (by kernel_rfl) ?_
        change wpAnyH _ _ _ _ _ _ _ _ wr.drew
        have rr : wr.drew.rangeAt b (o + j * 3) (fv (G j)) ∧ wr.drew.rangeAt b2 (o2 + j * 3) (fv (H j)) := ⟨rg, rg2⟩
        refine wpAnyH_take (i := 0) (v := ?_) rfl (by kernel_rfl) (by kernel_rfl) (by kernel_rfl) (fun _ _ _ h => h) (Or.inl ⟨by kernel_rfl, ?_⟩) rr ?_
        rotate_left 1
        · (intro w hS; clear hS; go_simp; try (with_reducible rfl))
        refine wpAnyH_take (i := 1) (v := ?_) rfl (by kernel_rfl) (by kernel_rfl) (by kernel_rfl) (fun _ _ _ h => h) (Or.inl ⟨by kernel_rfl, ?_⟩) rr ?_
        rotate_left 1
        · (intro w hS; clear hS; go_simp; try (with_reducible rfl))
        refine wpAnyH_take (i := 2) (v := ?_) rfl (by kernel_rfl) (by kernel_rfl) (by kernel_rfl) (fun _ _ _ h => h) (Or.inl ⟨by kernel_rfl, ?_⟩) rr ?_
        rotate_left 1
        · (intro w hS; clear hS; go_simp; try (with_reducible rfl))
        refine wpAnyH_take (i := 3) (v := .agg (fv (G j)).toArray) rfl (by kernel_rfl) (by kernel_rfl) (by kernel_rfl) (fun _ _ _ h => h) (yieldsIf_load_mid (by kernel_rfl) 38 (.tmp 19) rfl b (o + j * 3) (by go_simp) (fv (G j)) _ (fun _ h => h.1) Try.underlying38 rfl (FG.out)) rr ?_
        refine wpAnyH_take (i := 4) (v := ?_) rfl (by kernel_rfl) (by kernel_rfl) (by kernel_rfl) (fun _ _ _ h => h) (Or.inl ⟨by kernel_rfl, ?_⟩) rr ?_
        rotate_left 1
        · (intro w hS; clear hS; go_simp; try (with_reducible rfl))
        refine wpAnyH_take (i := 5) (v := ?_) rfl (by kernel_rfl) (by kernel_rfl) (by kernel_rfl) (fun _ _ _ h => h) (Or.inl ⟨by kernel_rfl, ?_⟩) rr ?_
        rotate_left 1
        · (intro w hS; clear hS; go_simp; try (with_reducible rfl))
        refine wpAnyH_take (i := 6) (v := ?_) rfl (by kernel_rfl) (by kernel_rfl) (by kernel_rfl) (fun _ _ _ h => h) (Or.inl ⟨by kernel_rfl, ?_⟩) rr ?_
        rotate_left 1
        · (intro w hS; clear hS; go_simp; try (with_reducible rfl))
        refine wpAnyH_take (i := 7) (v := .agg (fv (H j)).toArray) rfl (by kernel_rfl) (by kernel_rfl) (by kernel_rfl) (fun _ _ _ h => h) (yieldsIf_load_mid (by kernel_rfl) 38 (.tmp 23) rfl b2 (o2 + j * 3) (by go_simp) (fv (H j)) _ (fun _ h => h.2) Try.underlying38 rfl (FH.out)) rr ?_
        refine wpAnyH_take (i := 8) (v := ?_) rfl (by kernel_rfl) (by kernel_rfl) (by kernel_rfl) (fun _ _ _ h => h) (Or.inl ⟨by kernel_rfl, ?_⟩) rr ?_
        rotate_left 1
        · (intro w hS; clear hS; go_simp; try (with_reducible rfl))
        refine wpAnyH_done (by kernel_rfl) ?_ _
        go_simp
        have BY := Lib.hid (BX.out.trans ((Below.refl wr.heap.size wr).drew.mono BX.out.size))
        clear rr rg rg2 NQ FG FH BX
        cases sb with
        | true =>
          have HN2 := Lib.hid (HN.out rfl)
          clear HN AN1
          go_wp2_with fail
          exact ⟨⟨j + 1, hlt, by go_num, BY.out, HN2.out⟩, by simp [intOf]; omega⟩
        | false =>
          have hR := AN1.out rfl
          subst hR
          clear HN AN1
          go_wp2_with fail
          go_ret
          exact ⟨rfl, BY.out⟩
      · obtain rfl : j = n := by omega
        have hR := AY.out HB.out
        subst hR
        clear hlt
        go_wp2_with fail
        go_ret
        exact ⟨rfl, BX.out⟩
  · rw [show sameN n G m H = false by simp [sameN, h]]
    have e1 : ((n : Int) != (m : Int)) = true := by rw [bne_iff_ne]; omega
    clear h hr hq
    go_enter Try.func18, Try.ntmps18
    go_wp2_with fail
    go_ret
    exact ⟨rfl, Below.refl _ _⟩
set_option maxRecDepth 100000 in
set_option maxHeartbeats 400000 in
theorem refmatch_t (n c m c2 : Nat) (p q : Option Addr) (G H : Nat → Fld) (w : World) (hn : n ≤ 9223372036854775807) (hm : m ≤ 9223372036854775807) (hr : Rw w p n G) (hq : Rw w q m H) :
    Calls Try.prog 22 #[.slice p n c, .slice q m c2] w fun e w' => e = .returned (.bool (matchN n G m H)) ∧ Below w.heap.size w w' := by
  have HR := Lib.hid hr; have HQ := Lib.hid hq
  have MP := Lib.hid (refmayP_t n c p G w hn hr)
  have MV := Lib.hid (fun W (h : Below w.heap.size w W) => refmayV_t m c2 q H W hm (hq.below h))
  have AY := Lib.hid (fun h => (allN_iff (fun j => takesB (G j) (H j)) n).2 h); have AN := Lib.hid (fun j hj h => allN_no (B := fun j => takesB (G j) (H j)) (n := n) (j := j) hj h)
  obtain ⟨r, hR⟩ : ∃ r, allN (fun j => takesB (G j) (H j)) n = r := ⟨_, rfl⟩
  have hM : matchN n G m H = (mayP n G && (mayV m H && (decide (n = m) && r))) := by rw [← hR]; rfl
  rw [hM]
  rw [hR] at AY AN
  obtain ⟨a, hA⟩ : ∃ r, mayP n G = r := ⟨_, rfl⟩
  obtain ⟨d, hB⟩ : ∃ r, mayV m H = r := ⟨_, rfl⟩
  rw [hA] at MP ⊢
  rw [hB] at MV ⊢
  clear hR hM hA hB hr hq
  cases a with
  | false =>
    go_enter Try.func22, Try.ntmps22
    go_wp2_with fail
    refine MP.out.mono ?_
    rintro e w2 ⟨rfl, b2⟩
    go_wp2_with fail
    go_ret
    exact ⟨by simp, b2⟩
  | true =>
    go_enter Try.func22, Try.ntmps22
    go_wp2_with fail
    refine MP.out.mono ?_
    rintro e w2 ⟨rfl, b2⟩
    have B2 := Lib.hid b2
    clear b2 MP
    go_wp2_with fail
    refine (MV.out _ B2.out).mono ?_
    rintro e w3 ⟨rfl, b3⟩
    have B3 := Lib.hid (B2.out.trans (b3.mono B2.out.size))
    clear b3 B2 MV
    cases d with
    | false =>
      go_wp2_with fail
      go_ret
      exact ⟨by simp, B3.out⟩
    | true =>
      by_cases h : n = m
      · subst h
        go_upto_region 4 with (fail)
        go_loopw [5, 6] (fun x _ wr => ∃ j : Nat, j ≤ n ∧ x = .int .i64 (j : Int) ∧ Below w.heap.size w wr ∧ ∀ i, i < j → takesB (G i) (H i) = true) (fun x _ _ => n - (intOf x).toNat)
        case atStart => exact ⟨0, by omega, rfl, B3.out, fun i hi => absurd hi (by omega)⟩
        case round =>
          clear B3
          obtain ⟨j, hj, rfl, bx, hb⟩ := hrel
          have HB := Lib.hid hb; have BX := Lib.hid bx
          clear hb bx
          by_cases hlt : j < n
          · obtain ⟨b, o, rfl, rg⟩ := (HR.out.below BX.out).read hlt
            obtain ⟨b2, o2, rfl, rg2⟩ := (HQ.out.below BX.out).read hlt
            have ck : wr.cell? ⟨b, o + j * 3, none⟩ = some (.int .i64 (G j).k) := rg 0 _ rfl
            have ct : wr.cell? ⟨b2, o2 + j * 3, none⟩ = some (.int .i64 (H j).k) := rg2 0 _ rfl
            have RG := Lib.hid rg; have RH := Lib.hid rg2
            have j1 : (j : Int) < (n : Int) := by omega
            have EQ := eql_fld (G j) (H j)
            have FG := Lib.hid (fv_size (G j)); have FH := Lib.hid (fv_size (H j))
            have AN1 := Lib.hid (AN.out j hlt)
            have HN := Lib.hid (fun (h : takesB (G j) (H j) = true) (i : Nat) (hi : i < j + 1) => show takesB (G i) (H i) = true by
              rcases Nat.lt_or_ge i j with h1 | h1
              · exact HB.out i h1
              · obtain rfl : i = j := by omega
                exact h)
            have hT : takesB (G j) (H j) = if (G j).k = 3 then (H j).k == 1 else if (G j).k = 4 then (H j).k == 2 else if (G j).k = 5 then true else sameF (G j) (H j) := rfl
            rw [hT] at AN1 HN
            obtain ⟨k, hk⟩ : ∃ k, (G j).k = k := ⟨_, rfl⟩
            obtain ⟨k2, hk2⟩ : ∃ k, (H j).k = k := ⟨_, rfl⟩
            obtain ⟨sb, hsb⟩ : ∃ b, sameF (G j) (H j) = b := ⟨_, rfl⟩
            rw [hsb] at EQ
            rw [hk, hk2, hsb] at AN1 HN
            rw [hk] at ck
            rw [hk2] at ct
            clear hT hk hk2 hsb HB rg rg2
            by_cases h3 : k = 3
            · subst h3
              rw [if_pos rfl] at AN1 HN
              clear EQ
              cases eb : (k2 == 1) with
              | true =>
                have HN2 := Lib.hid (HN.out eb)
                clear HN AN1
                go_wp2_with fail
                exact ⟨⟨j + 1, hlt, by go_num, BX.out, HN2.out⟩, by simp [intOf]; omega⟩
              | false =>
                have hR := AN1.out eb
                subst hR
                clear HN AN1
                go_wp2_with fail
                go_ret
                exact ⟨rfl, BX.out⟩
            · have e3 : (k == 3) = false := by rw [beq_eq_false_iff_ne]; exact h3
              rw [if_neg h3] at AN1 HN
              by_cases h4 : k = 4
              · subst h4
                rw [if_pos rfl] at AN1 HN
                clear EQ h3
                cases eb : (k2 == 2) with
                | true =>
                  have HN2 := Lib.hid (HN.out eb)
                  clear HN AN1
                  go_wp2_with fail
                  exact ⟨⟨j + 1, hlt, by go_num, BX.out, HN2.out⟩, by simp [intOf]; omega⟩
                | false =>
                  have hR := AN1.out eb
                  subst hR
                  clear HN AN1
                  go_wp2_with fail
                  go_ret
                  exact ⟨rfl, BX.out⟩
              · have e4 : (k == 4) = false := by rw [beq_eq_false_iff_ne]; exact h4
                rw [if_neg h4] at AN1 HN
                by_cases h5 : k = 5
                · subst h5
                  rw [if_pos rfl] at AN1 HN
                  have HN2 := Lib.hid (HN.out rfl)
                  clear EQ h3 h4 HN AN1
                  go_wp2_with fail
                  exact ⟨⟨j + 1, hlt, by go_num, BX.out, HN2.out⟩, by simp [intOf]; omega⟩
                · have e5 : (k == 5) = false := by rw [beq_eq_false_iff_ne]; exact h5
                  rw [if_neg h5] at AN1 HN
                  clear h3 h4 h5
                  go_upto_region 8 with (fail)
                  refine wp_region_held (S := fun X => X.rangeAt b (o + j * 3) (fv (G j)) ∧ X.rangeAt b2 (o2 + j * 3) (fv (H j))) (by kernel_rfl) ?_
                  change wpAnyH _ _ _ _ _ _ _ _ wr.drew
                  have rr : wr.drew.rangeAt b (o + j * 3) (fv (G j)) ∧ wr.drew.rangeAt b2 (o2 + j * 3) (fv (H j)) := ⟨RG.out, RH.out⟩
                  refine wpAnyH_take (i := 0) (v := ?_) rfl (by kernel_rfl) (by kernel_rfl) (by kernel_rfl) (fun _ _ _ h => h) (Or.inl ⟨by kernel_rfl, ?_⟩) rr ?_
                  rotate_left 1
                  · (intro w hS; clear hS; go_simp; try (with_reducible rfl))
                  refine wpAnyH_take (i := 1) (v := ?_) rfl (by kernel_rfl) (by kernel_rfl) (by kernel_rfl) (fun _ _ _ h => h) (Or.inl ⟨by kernel_rfl, ?_⟩) rr ?_
                  rotate_left 1
                  · (intro w hS; clear hS; go_simp; try (with_reducible rfl))
                  refine wpAnyH_take (i := 2) (v := ?_) rfl (by kernel_rfl) (by kernel_rfl) (by kernel_rfl) (fun _ _ _ h => h) (Or.inl ⟨by kernel_rfl, ?_⟩) rr ?_
                  rotate_left 1
                  · (intro w hS; clear hS; go_simp; try (with_reducible rfl))
                  refine wpAnyH_take (i := 3) (v := .agg (fv (G j)).toArray) rfl (by kernel_rfl) (by kernel_rfl) (by kernel_rfl) (fun _ _ _ h => h) (yieldsIf_load_mid (by kernel_rfl) 38 (.tmp 35) rfl b (o + j * 3) (by go_simp) (fv (G j)) _ (fun _ h => h.1) Try.underlying38 rfl (FG.out)) rr ?_
                  refine wpAnyH_take (i := 4) (v := ?_) rfl (by kernel_rfl) (by kernel_rfl) (by kernel_rfl) (fun _ _ _ h => h) (Or.inl ⟨by kernel_rfl, ?_⟩) rr ?_
                  rotate_left 1
                  · (intro w hS; clear hS; go_simp; try (with_reducible rfl))
                  refine wpAnyH_take (i := 5) (v := ?_) rfl (by kernel_rfl) (by kernel_rfl) (by kernel_rfl) (fun _ _ _ h => h) (Or.inl ⟨by kernel_rfl, ?_⟩) rr ?_
                  rotate_left 1
                  · (intro w hS; clear hS; go_simp; try (with_reducible rfl))
                  refine wpAnyH_take (i := 6) (v := ?_) rfl (by kernel_rfl) (by kernel_rfl) (by kernel_rfl) (fun _ _ _ h => h) (Or.inl ⟨by kernel_rfl, ?_⟩) rr ?_
                  rotate_left 1
                  · (intro w hS; clear hS; go_simp; try (with_reducible rfl))
                  refine wpAnyH_take (i := 7) (v := .agg (fv (H j)).toArray) rfl (by kernel_rfl) (by kernel_rfl) (by kernel_rfl) (fun _ _ _ h => h) (yieldsIf_load_mid (by kernel_rfl) 38 (.tmp 39) rfl b2 (o2 + j * 3) (by go_simp) (fv (H j)) _ (fun _ h => h.2) Try.underlying38 rfl (FH.out)) rr ?_
                  refine wpAnyH_take (i := 8) (v := ?_) rfl (by kernel_rfl) (by kernel_rfl) (by kernel_rfl) (fun _ _ _ h => h) (Or.inl ⟨by kernel_rfl, ?_⟩) rr ?_
                  rotate_left 1
                  · (intro w hS; clear hS; go_simp; try (with_reducible rfl))
                  refine wpAnyH_take (i := 9) (v := ?_) rfl (by kernel_rfl) (by kernel_rfl) (by kernel_rfl) (fun _ _ _ h => h) (Or.inl ⟨by kernel_rfl, ?_⟩) rr ?_
                  rotate_left 1
                  · (intro w hS; clear hS; go_simp; try (with_reducible rfl))
                  refine wpAnyH_done (by kernel_rfl) ?_ _
                  go_simp
                  have BY := Lib.hid (BX.out.trans ((Below.refl wr.heap.size wr).drew.mono BX.out.size))
                  clear rr EQ FG FH BX ck ct RG RH
                  have BX := BY
                  cases sb with
                  | true =>
                    have HN2 := Lib.hid (HN.out rfl)
                    clear HN AN1
                    go_wp2_with fail
                    exact ⟨⟨j + 1, hlt, by go_num, BX.out, HN2.out⟩, by simp [intOf]; omega⟩
                  | false =>
                    have hR := AN1.out rfl
                    subst hR
                    clear HN AN1
                    go_wp2_with fail
                    go_ret
                    exact ⟨rfl, BX.out⟩
          · obtain rfl : j = n := by omega
            have hR := AY.out HB.out
            subst hR
            clear hlt
            go_wp2_with fail
            go_ret
            exact ⟨by simp, BX.out⟩
      · have e1 : ((n : Int) != (m : Int)) = true := by rw [bne_iff_ne]; omega
        clear AY AN
        go_wp2_with fail
        go_ret
        exact ⟨by simp [h], B3.out⟩
end Go.Proofs.Ytlaiblgnjppmnaa
