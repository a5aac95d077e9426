/-
  THE REFERENCE OF CHAPTER 6: SameFields, Match.
-/
import Derived.Test.YtigbnjgmdgkgjaaDoorTrA
namespace Go.Proofs.YtigbnjgmdgkgjaaDoor
open Go Go.RowKit Sh

theorem neq_fld (a b : Fld) (w : World) : (binOp .neq 40 (.agg (fv a).toArray) (.agg (fv b).toArray)).run Tryd.prog w = .ok (.bool (!sameF a b)) w := by
  rw [run_neq_struct, eqIn_fld 9998 a b w]
  rfl
set_option maxRecDepth 100000 in
theorem refsame_t (n c m c2 : Nat) (p q : Option Addr) (G H : Nat → Fld) (w : World) (hn : n ≤ 9223372036854775807) (hm : m ≤ 9223372036854775807) (hr : Rw w p n G) (hq : Rw w q m H) :
    Calls Tryd.prog 43 #[.slice p n c, .slice q m c2] w fun e w' => e = .returned (.bool (sameN n G m H)) ∧ Below w.heap.size w w' := by
  by_cases h : n = m
  · subst h
    rw [show sameN n G n H = allN (fun j => sameF (G j) (H j)) n by simp [sameN]]
    have HR := Lib.hid hr; have HQ := Lib.hid hq
    have AY := Lib.hid (fun h => (allN_iff (fun j => sameF (G j) (H j)) n).2 h); have AN := Lib.hid (fun j hj h => allN_no (B := fun j => sameF (G j) (H j)) (n := n) (j := j) hj h)
    obtain ⟨r, hR⟩ : ∃ r, allN (fun j => sameF (G j) (H j)) n = r := ⟨_, rfl⟩
    rw [hR] at AY AN ⊢
    clear hR hr hq
    go_enter Tryd.func43, Tryd.ntmps43
    go_upto_region 4 with (fail)
    go_loopw [5] (fun x wr => ∃ j : Nat, j ≤ n ∧ x = .int .i64 (j : Int) ∧ Below w.heap.size w wr ∧ ∀ i, i < j → sameF (G i) (H i) = true) (fun x _ => n - (intOf x).toNat)
    case atStart => exact ⟨0, by omega, rfl, Below.refl _ _, fun i hi => absurd hi (by omega)⟩
    case round =>
      obtain ⟨j, hj, rfl, bx, hb⟩ := hrel
      have HB := Lib.hid hb; have BX := Lib.hid bx
      clear hb bx
      by_cases hlt : j < n
      · obtain ⟨b, o, rfl, rg⟩ := (HR.out.below (BX.out.trans ((Below.refl _ _).drew))).read hlt
        obtain ⟨b2, o2, rfl, rg2⟩ := (HQ.out.below (BX.out.trans ((Below.refl _ _).drew))).read hlt
        have j1 : (j : Int) < (n : Int) := by omega
        have NQ := neq_fld (G j) (H j)
        have FG := Lib.hid (fv_size (G j)); have FH := Lib.hid (fv_size (H j))
        have AN1 := Lib.hid (AN.out j hlt)
        have HN := Lib.hid (fun (h : sameF (G j) (H j) = true) (i : Nat) (hi : i < j + 1) => show sameF (G i) (H i) = true by
          rcases Nat.lt_or_ge i j with h1 | h1
          · exact HB.out i h1
          · obtain rfl : i = j := by omega
            exact h)
        obtain ⟨sb, hsb⟩ : ∃ b, sameF (G j) (H j) = b := ⟨_, rfl⟩
        rw [hsb] at NQ AN1 HN
        clear hsb HB
        go_upto_region 6 with (fail)
        refine wp_region_held (S := fun X => X.rangeAt b (o + j * 3) (fv (G j)) ∧ X.rangeAt b2 (o2 + j * 3) (fv (H j))) (by kernel_rfl) ?_
        change wpAnyH _ _ _ _ _ _ _ _ wr.drew
        have rr : wr.drew.rangeAt b (o + j * 3) (fv (G j)) ∧ wr.drew.rangeAt b2 (o2 + j * 3) (fv (H j)) := ⟨rg, rg2⟩
        refine wpAnyH_take (i := 0) (v := ?_) rfl (by kernel_rfl) (by kernel_rfl) (by kernel_rfl) (fun _ _ _ h => h) (Or.inl ⟨by kernel_rfl, ?_⟩) rr ?_
        rotate_left 1
        · (intro w hS; clear hS; go_simp; try (with_reducible rfl))
        refine wpAnyH_take (i := 1) (v := ?_) rfl (by kernel_rfl) (by kernel_rfl) (by kernel_rfl) (fun _ _ _ h => h) (Or.inl ⟨by kernel_rfl, ?_⟩) rr ?_
        rotate_left 1
        · (intro w hS; clear hS; go_simp; try (with_reducible rfl))
        refine wpAnyH_take (i := 2) (v := ?_) rfl (by kernel_rfl) (by kernel_rfl) (by kernel_rfl) (fun _ _ _ h => h) (Or.inl ⟨by kernel_rfl, ?_⟩) rr ?_
        rotate_left 1
        · (intro w hS; clear hS; go_simp; try (with_reducible rfl))
        refine wpAnyH_take (i := 3) (v := .agg (fv (G j)).toArray) rfl (by kernel_rfl) (by kernel_rfl) (by kernel_rfl) (fun _ _ _ h => h) (yieldsIf_load_mid (by kernel_rfl) 40 (.tmp 19) rfl b (o + j * 3) (by go_simp) (fv (G j)) _ (fun _ h => h.1) Tryd.underlying40 rfl (FG.out)) rr ?_
        refine wpAnyH_take (i := 4) (v := ?_) rfl (by kernel_rfl) (by kernel_rfl) (by kernel_rfl) (fun _ _ _ h => h) (Or.inl ⟨by kernel_rfl, ?_⟩) rr ?_
        rotate_left 1
        · (intro w hS; clear hS; go_simp; try (with_reducible rfl))
        refine wpAnyH_take (i := 5) (v := ?_) rfl (by kernel_rfl) (by kernel_rfl) (by kernel_rfl) (fun _ _ _ h => h) (Or.inl ⟨by kernel_rfl, ?_⟩) rr ?_
        rotate_left 1
        · (intro w hS; clear hS; go_simp; try (with_reducible rfl))
        refine wpAnyH_take (i := 6) (v := ?_) rfl (by kernel_rfl) (by kernel_rfl) (by kernel_rfl) (fun _ _ _ h => h) (Or.inl ⟨by kernel_rfl, ?_⟩) rr ?_
        rotate_left 1
        · (intro w hS; clear hS; go_simp; try (with_reducible rfl))
        refine wpAnyH_take (i := 7) (v := .agg (fv (H j)).toArray) rfl (by kernel_rfl) (by kernel_rfl) (by kernel_rfl) (fun _ _ _ h => h) (yieldsIf_load_mid (by kernel_rfl) 40 (.tmp 23) rfl b2 (o2 + j * 3) (by go_simp) (fv (H j)) _ (fun _ h => h.2) Tryd.underlying40 rfl (FH.out)) rr ?_
        refine wpAnyH_take (i := 8) (v := ?_) rfl (by kernel_rfl) (by kernel_rfl) (by kernel_rfl) (fun _ _ _ h => h) (Or.inl ⟨by kernel_rfl, ?_⟩) rr ?_
        rotate_left 1
        · (intro w hS; clear hS; go_simp; try (with_reducible rfl))
        refine wpAnyH_done (by kernel_rfl) ?_ _
        go_simp
        have BY := Lib.hid (BX.out.trans ((Below.refl wr.heap.size wr).drew.mono BX.out.size))
        clear rr rg rg2 NQ FG FH BX
        cases sb with
        | true =>
          have HN2 := Lib.hid (HN.out rfl)
          clear HN AN1
          go_wp2_with fail
          exact ⟨⟨j + 1, hlt, by go_num, BY.out, HN2.out⟩, by simp [intOf]; omega⟩
        | false =>
          have hR := AN1.out rfl
          subst hR
          clear HN AN1
          go_wp2_with fail
          go_ret
          exact ⟨rfl, BY.out⟩
      · obtain rfl : j = n := by omega
        have hR := AY.out HB.out
        subst hR
        clear hlt
        go_wp2_with fail
        go_ret
        exact ⟨rfl, BX.out⟩
  · rw [show sameN n G m H = false by simp [sameN, h]]
    have e1 : ((n : Int) != (m : Int)) = true := by rw [bne_iff_ne]; omega
    clear h hr hq
    go_enter Tryd.func43, Tryd.ntmps43
    go_wp2_with fail
    go_ret
    exact ⟨rfl, Below.refl _ _⟩
end Go.Proofs.YtigbnjgmdgkgjaaDoor
