/-
  THE REFERENCE of chapters 6 and 7, as layer 8 wants it.
  THE REFERENCE: Own, Find, last.
  THE REFERENCE: last, MaySpace.
  THE REFERENCE: SameReply, SameReplies, SameSpace.
  THE REFERENCE: SameSpace.
  FEW: a space that is few is small.
-/
import Derived.Test.YtphgognhjdbdjaaGreatDoorSpPq
import Derived.Test.YtphgognhjdbdjaaGreatDoorSpFq
import Derived.Test.YtphgognhjdbdjaaGreatDoorSpXq
import Derived.Test.YtphgognhjdbdjaaGreatDoorSpDq
import Derived.Test.YtphgognhjdbdjaaGreatDoorSpHq
namespace Go.Proofs.YtphgognhjdbdjaaGreatDoor
open Go Go.RowKit Sh


/-- May it be, of kinds up to 'most'? -/
def okM (most : Int) (f : Fld) : Bool := !(decide (f.k < 1) || decide (most < f.k) || (f.k != 1 && f.n != 0) || (f.k != 2 && !f.s.toList.isEmpty) || decide (40 < (f.s.size : Int)))
theorem size_empty {s : ByteArray} (h : s.toList.isEmpty = true) : s.size = 0 := by rw [eS_of s h]; rfl
theorem okM_V (f : Fld) : okM 2 f = okV f := by
  obtain ⟨k, n, s⟩ := f
  unfold okM okV
  cases he : s.toList.isEmpty with
  | true =>
    have hs := size_empty he
    rw [Bool.eq_iff_iff]
    simp [hs]
    omega
  | false =>
    rw [Bool.eq_iff_iff]
    simp
    omega
theorem okM_P (f : Fld) : okM 5 f = okP f := by
  obtain ⟨k, n, s⟩ := f
  unfold okM okP okV
  cases he : s.toList.isEmpty with
  | true =>
    have hs := size_empty he
    rw [Bool.eq_iff_iff]
    simp [hs]
    by_cases h3 : k = 3 ∨ k = 4 ∨ k = 5
    · rw [if_pos h3]; omega
    · rw [if_neg h3]; omega
  | false =>
    rw [Bool.eq_iff_iff]
    simp
    omega
set_option maxRecDepth 100000 in
set_option maxHeartbeats 1000000 in
theorem reffields_t (most : Int) (n c : Nat) (p : Option Addr) (G : Nat → Fld) (w : World) (hn : n ≤ 9223372036854775807) (hr : Rw w p n G) :
    Calls Tryz.prog 130 #[.slice p n c, .int .i64 most] w fun e w' => e = .returned (.bool (fewN n && allN (fun j => okM most (G j)) n)) ∧ Below w.heap.size w w' := by
  have HR := Lib.hid hr
  have AY := Lib.hid (fun h => (allN_iff (fun j => okM most (G j)) n).2 h); have AN := Lib.hid (fun j hj h => allN_no (B := fun j => okM most (G j)) (n := n) (j := j) hj h)
  obtain ⟨r, hR⟩ : ∃ r, allN (fun j => okM most (G j)) n = r := ⟨_, rfl⟩
  rw [hR] at AY AN ⊢
  clear hR hr
  by_cases h1 : 1 ≤ n
  · by_cases h6 : n ≤ 6
    · rw [show fewN n = true by simp [fewN, h1, h6], Bool.true_and]
      have i1 : (1 : Int) ≤ (n : Int) := by omega
      have i6 : (n : Int) ≤ 6 := by omega
      clear h1 h6
      go_enter Tryz.func130, Tryz.ntmps130
      go_upto_region 4 with (fail)
      go_loopw [5] (fun x wr => ∃ j : Nat, j ≤ n ∧ x = .int .i64 (j : Int) ∧ Below w.heap.size w wr ∧ ∀ i, i < j → okM most (G i) = true) (fun x _ => n - (intOf x).toNat)
      case atStart => exact ⟨0, by omega, rfl, Below.refl _ _, fun i hi => absurd hi (by omega)⟩
      case round =>
        obtain ⟨j, hj, rfl, bx, hb⟩ := hrel
        have HB := Lib.hid hb; have BX := Lib.hid bx
        clear hb bx
        by_cases hlt : j < n
        · obtain ⟨b, o, rfl, rg⟩ := (HR.out.below BX.out).read hlt
          have j1 : (j : Int) < (n : Int) := by omega
          have AN1 := Lib.hid (AN.out j hlt)
          have HN := Lib.hid (fun (h : okM most (G j) = true) (i : Nat) (hi : i < j + 1) => show okM most (G i) = true by
            rcases Nat.lt_or_ge i j with h1 | h1
            · exact HB.out i h1
            · obtain rfl : i = j := by omega
              exact h)
          obtain ⟨f, hf⟩ : ∃ f, G j = f := ⟨_, rfl⟩
          rw [hf] at rg AN1 HN
          obtain ⟨k, m, s⟩ := f
          have RG := Lib.hid rg
          have BZ := Lib.hid (Blk.new wr 172 [.int .i64 0, .int .i64 0, .string { data := #[] }])
          have b1 := BZ.out.setRow (fv ⟨k, m, s⟩)
          obtain ⟨c0, c1, c2⟩ := fv_cells b1
          have BY := Lib.hid (below_setRow (BX.out.alloc BX.out.size (.cells #[.int .i64 0, .int .i64 0, .string { data := #[] }] 172)) BX.out.size (fv ⟨k, m, s⟩).toArray)
          clear rg hf HB b1
          cases e1 : decide (k < 1) with
          | true =>
            have hR := AN1.out (by unfold okM; simp only [e1]; rfl)
            subst hR
            clear AN1 HN BX
            go_wp2_with (first
  | (with_reducible refine at_op (.load 172 (.tmp 23)) rfl ?_; go_must (refine wpList_load_mid rfl 172 (.tmp 23) rfl b (o + j * 3) rfl (fv ⟨k, m, s⟩) _ RG.out Tryz.underlying172 rfl (fv_size _) ?_))
  | (with_reducible refine at_op (.store 172 (.tmp 6) (.tmp 24)) rfl ?_; go_must (refine store_blk 172 (.tmp 6) (.tmp 24) wr.heap.size 172 [.int .i64 0, .int .i64 0, .string { data := #[] }] (fv ⟨k, m, s⟩) rfl rfl BZ.out rfl (fv_size _) (fv_one _) rfl rfl ?_)))
            go_ret
            exact ⟨rfl, BY.out⟩
          | false =>
          cases e2 : decide (most < k) with
          | true =>
            have hR := AN1.out (by unfold okM; simp only [e1, e2]; rfl)
            subst hR
            clear AN1 HN BX
            go_wp2_with (first
  | (with_reducible refine at_op (.load 172 (.tmp 23)) rfl ?_; go_must (refine wpList_load_mid rfl 172 (.tmp 23) rfl b (o + j * 3) rfl (fv ⟨k, m, s⟩) _ RG.out Tryz.underlying172 rfl (fv_size _) ?_))
  | (with_reducible refine at_op (.store 172 (.tmp 6) (.tmp 24)) rfl ?_; go_must (refine store_blk 172 (.tmp 6) (.tmp 24) wr.heap.size 172 [.int .i64 0, .int .i64 0, .string { data := #[] }] (fv ⟨k, m, s⟩) rfl rfl BZ.out rfl (fv_size _) (fv_one _) rfl rfl ?_)))
            go_ret
            exact ⟨rfl, BY.out⟩
          | false =>
          cases e3 : (k != 1) with
          | false =>
            cases e5 : (k != 2) with
            | false =>
              cases e7 : decide (40 < (s.size : Int)) with
              | true =>
                have hR := AN1.out (by unfold okM; simp only [e1, e2, e3, e5, e7]; rfl)
                subst hR
                clear AN1 HN BX
                go_wp2_with (first
  | (with_reducible refine at_op (.load 172 (.tmp 23)) rfl ?_; go_must (refine wpList_load_mid rfl 172 (.tmp 23) rfl b (o + j * 3) rfl (fv ⟨k, m, s⟩) _ RG.out Tryz.underlying172 rfl (fv_size _) ?_))
  | (with_reducible refine at_op (.store 172 (.tmp 6) (.tmp 24)) rfl ?_; go_must (refine store_blk 172 (.tmp 6) (.tmp 24) wr.heap.size 172 [.int .i64 0, .int .i64 0, .string { data := #[] }] (fv ⟨k, m, s⟩) rfl rfl BZ.out rfl (fv_size _) (fv_one _) rfl rfl ?_)))
                go_ret
                exact ⟨rfl, BY.out⟩
              | false =>
                have HN2 := Lib.hid (HN.out (by unfold okM; simp only [e1, e2, e3, e5, e7]; rfl))
                clear HN AN1
                go_wp2_with (first
  | (with_reducible refine at_op (.load 172 (.tmp 23)) rfl ?_; go_must (refine wpList_load_mid rfl 172 (.tmp 23) rfl b (o + j * 3) rfl (fv ⟨k, m, s⟩) _ RG.out Tryz.underlying172 rfl (fv_size _) ?_))
  | (with_reducible refine at_op (.store 172 (.tmp 6) (.tmp 24)) rfl ?_; go_must (refine store_blk 172 (.tmp 6) (.tmp 24) wr.heap.size 172 [.int .i64 0, .int .i64 0, .string { data := #[] }] (fv ⟨k, m, s⟩) rfl rfl BZ.out rfl (fv_size _) (fv_one _) rfl rfl ?_)))
                exact ⟨⟨j + 1, hlt, by go_num, BY.out, HN2.out⟩, by simp [intOf]; omega⟩
            | true =>
            cases e6 : s.toList.isEmpty with
            | false =>
              have hR := AN1.out (by unfold okM; simp only [e1, e2, e3, e5, e6]; rfl)
              subst hR
              clear AN1 HN BX
              go_wp2_with (first
  | (with_reducible refine at_op (.load 172 (.tmp 23)) rfl ?_; go_must (refine wpList_load_mid rfl 172 (.tmp 23) rfl b (o + j * 3) rfl (fv ⟨k, m, s⟩) _ RG.out Tryz.underlying172 rfl (fv_size _) ?_))
  | (with_reducible refine at_op (.store 172 (.tmp 6) (.tmp 24)) rfl ?_; go_must (refine store_blk 172 (.tmp 6) (.tmp 24) wr.heap.size 172 [.int .i64 0, .int .i64 0, .string { data := #[] }] (fv ⟨k, m, s⟩) rfl rfl BZ.out rfl (fv_size _) (fv_one _) rfl rfl ?_)))
              go_ret
              exact ⟨rfl, BY.out⟩
            | true =>
              cases e7 : decide (40 < (s.size : Int)) with
              | true =>
                have hR := AN1.out (by unfold okM; simp only [e1, e2, e3, e5, e6, e7]; rfl)
                subst hR
                clear AN1 HN BX
                go_wp2_with (first
  | (with_reducible refine at_op (.load 172 (.tmp 23)) rfl ?_; go_must (refine wpList_load_mid rfl 172 (.tmp 23) rfl b (o + j * 3) rfl (fv ⟨k, m, s⟩) _ RG.out Tryz.underlying172 rfl (fv_size _) ?_))
  | (with_reducible refine at_op (.store 172 (.tmp 6) (.tmp 24)) rfl ?_; go_must (refine store_blk 172 (.tmp 6) (.tmp 24) wr.heap.size 172 [.int .i64 0, .int .i64 0, .string { data := #[] }] (fv ⟨k, m, s⟩) rfl rfl BZ.out rfl (fv_size _) (fv_one _) rfl rfl ?_)))
                go_ret
                exact ⟨rfl, BY.out⟩
              | false =>
                have HN2 := Lib.hid (HN.out (by unfold okM; simp only [e1, e2, e3, e5, e6, e7]; rfl))
                clear HN AN1
                go_wp2_with (first
  | (with_reducible refine at_op (.load 172 (.tmp 23)) rfl ?_; go_must (refine wpList_load_mid rfl 172 (.tmp 23) rfl b (o + j * 3) rfl (fv ⟨k, m, s⟩) _ RG.out Tryz.underlying172 rfl (fv_size _) ?_))
  | (with_reducible refine at_op (.store 172 (.tmp 6) (.tmp 24)) rfl ?_; go_must (refine store_blk 172 (.tmp 6) (.tmp 24) wr.heap.size 172 [.int .i64 0, .int .i64 0, .string { data := #[] }] (fv ⟨k, m, s⟩) rfl rfl BZ.out rfl (fv_size _) (fv_one _) rfl rfl ?_)))
                exact ⟨⟨j + 1, hlt, by go_num, BY.out, HN2.out⟩, by simp [intOf]; omega⟩
          | true =>
          cases e4 : (m != 0) with
          | true =>
            have hR := AN1.out (by unfold okM; simp only [e1, e2, e3, e4]; rfl)
            subst hR
            clear AN1 HN BX
            go_wp2_with (first
  | (with_reducible refine at_op (.load 172 (.tmp 23)) rfl ?_; go_must (refine wpList_load_mid rfl 172 (.tmp 23) rfl b (o + j * 3) rfl (fv ⟨k, m, s⟩) _ RG.out Tryz.underlying172 rfl (fv_size _) ?_))
  | (with_reducible refine at_op (.store 172 (.tmp 6) (.tmp 24)) rfl ?_; go_must (refine store_blk 172 (.tmp 6) (.tmp 24) wr.heap.size 172 [.int .i64 0, .int .i64 0, .string { data := #[] }] (fv ⟨k, m, s⟩) rfl rfl BZ.out rfl (fv_size _) (fv_one _) rfl rfl ?_)))
            go_ret
            exact ⟨rfl, BY.out⟩
          | false =>
            cases e5 : (k != 2) with
            | false =>
              cases e7 : decide (40 < (s.size : Int)) with
              | true =>
                have hR := AN1.out (by unfold okM; simp only [e1, e2, e3, e4, e5, e7]; rfl)
                subst hR
                clear AN1 HN BX
                go_wp2_with (first
  | (with_reducible refine at_op (.load 172 (.tmp 23)) rfl ?_; go_must (refine wpList_load_mid rfl 172 (.tmp 23) rfl b (o + j * 3) rfl (fv ⟨k, m, s⟩) _ RG.out Tryz.underlying172 rfl (fv_size _) ?_))
  | (with_reducible refine at_op (.store 172 (.tmp 6) (.tmp 24)) rfl ?_; go_must (refine store_blk 172 (.tmp 6) (.tmp 24) wr.heap.size 172 [.int .i64 0, .int .i64 0, .string { data := #[] }] (fv ⟨k, m, s⟩) rfl rfl BZ.out rfl (fv_size _) (fv_one _) rfl rfl ?_)))
                go_ret
                exact ⟨rfl, BY.out⟩
              | false =>
                have HN2 := Lib.hid (HN.out (by unfold okM; simp only [e1, e2, e3, e4, e5, e7]; rfl))
                clear HN AN1
                go_wp2_with (first
  | (with_reducible refine at_op (.load 172 (.tmp 23)) rfl ?_; go_must (refine wpList_load_mid rfl 172 (.tmp 23) rfl b (o + j * 3) rfl (fv ⟨k, m, s⟩) _ RG.out Tryz.underlying172 rfl (fv_size _) ?_))
  | (with_reducible refine at_op (.store 172 (.tmp 6) (.tmp 24)) rfl ?_; go_must (refine store_blk 172 (.tmp 6) (.tmp 24) wr.heap.size 172 [.int .i64 0, .int .i64 0, .string { data := #[] }] (fv ⟨k, m, s⟩) rfl rfl BZ.out rfl (fv_size _) (fv_one _) rfl rfl ?_)))
                exact ⟨⟨j + 1, hlt, by go_num, BY.out, HN2.out⟩, by simp [intOf]; omega⟩
            | true =>
            cases e6 : s.toList.isEmpty with
            | false =>
              have hR := AN1.out (by unfold okM; simp only [e1, e2, e3, e4, e5, e6]; rfl)
              subst hR
              clear AN1 HN BX
              go_wp2_with (first
  | (with_reducible refine at_op (.load 172 (.tmp 23)) rfl ?_; go_must (refine wpList_load_mid rfl 172 (.tmp 23) rfl b (o + j * 3) rfl (fv ⟨k, m, s⟩) _ RG.out Tryz.underlying172 rfl (fv_size _) ?_))
  | (with_reducible refine at_op (.store 172 (.tmp 6) (.tmp 24)) rfl ?_; go_must (refine store_blk 172 (.tmp 6) (.tmp 24) wr.heap.size 172 [.int .i64 0, .int .i64 0, .string { data := #[] }] (fv ⟨k, m, s⟩) rfl rfl BZ.out rfl (fv_size _) (fv_one _) rfl rfl ?_)))
              go_ret
              exact ⟨rfl, BY.out⟩
            | true =>
              cases e7 : decide (40 < (s.size : Int)) with
              | true =>
                have hR := AN1.out (by unfold okM; simp only [e1, e2, e3, e4, e5, e6, e7]; rfl)
                subst hR
                clear AN1 HN BX
                go_wp2_with (first
  | (with_reducible refine at_op (.load 172 (.tmp 23)) rfl ?_; go_must (refine wpList_load_mid rfl 172 (.tmp 23) rfl b (o + j * 3) rfl (fv ⟨k, m, s⟩) _ RG.out Tryz.underlying172 rfl (fv_size _) ?_))
  | (with_reducible refine at_op (.store 172 (.tmp 6) (.tmp 24)) rfl ?_; go_must (refine store_blk 172 (.tmp 6) (.tmp 24) wr.heap.size 172 [.int .i64 0, .int .i64 0, .string { data := #[] }] (fv ⟨k, m, s⟩) rfl rfl BZ.out rfl (fv_size _) (fv_one _) rfl rfl ?_)))
                go_ret
                exact ⟨rfl, BY.out⟩
              | false =>
                have HN2 := Lib.hid (HN.out (by unfold okM; simp only [e1, e2, e3, e4, e5, e6, e7]; rfl))
                clear HN AN1
                go_wp2_with (first
  | (with_reducible refine at_op (.load 172 (.tmp 23)) rfl ?_; go_must (refine wpList_load_mid rfl 172 (.tmp 23) rfl b (o + j * 3) rfl (fv ⟨k, m, s⟩) _ RG.out Tryz.underlying172 rfl (fv_size _) ?_))
  | (with_reducible refine at_op (.store 172 (.tmp 6) (.tmp 24)) rfl ?_; go_must (refine store_blk 172 (.tmp 6) (.tmp 24) wr.heap.size 172 [.int .i64 0, .int .i64 0, .string { data := #[] }] (fv ⟨k, m, s⟩) rfl rfl BZ.out rfl (fv_size _) (fv_one _) rfl rfl ?_)))
                exact ⟨⟨j + 1, hlt, by go_num, BY.out, HN2.out⟩, by simp [intOf]; omega⟩
        · obtain rfl : j = n := by omega
          have hR := AY.out HB.out
          subst hR
          clear hlt
          go_wp2_with fail
          go_ret
          exact ⟨rfl, BX.out⟩
    · rw [show fewN n = false by simp [fewN, h6]]
      have i1 : (1 : Int) ≤ (n : Int) := by omega
      have i6 : (6 : Int) < (n : Int) := by omega
      clear h1 h6 AY AN HR
      go_enter Tryz.func130, Tryz.ntmps130
      go_wp2_with fail
      go_ret
      exact ⟨rfl, Below.refl _ _⟩
  · rw [show fewN n = false by simp [fewN]; omega]
    obtain rfl : n = 0 := by omega
    clear h1 AY AN HR
    go_enter Tryz.func130, Tryz.ntmps130
    go_wp2_with fail
    go_ret
    exact ⟨rfl, Below.refl _ _⟩
theorem refmayV_t (n c : Nat) (p : Option Addr) (G : Nat → Fld) (w : World) (hn : n ≤ 9223372036854775807) (hr : Rw w p n G) :
    Calls Tryz.prog 59 #[.slice p n c] w fun e w' => e = .returned (.bool (mayV n G)) ∧ Below w.heap.size w w' := by
  have MT := Lib.hid (reffields_t 2 n c p G w hn hr)
  rw [show (fewN n && allN (fun j => okM 2 (G j)) n) = mayV n G by unfold mayV; rw [allN_congr n (fun j _ => okM_V (G j))]] at MT
  clear hr
  go_enter Tryz.func59, Tryz.ntmps59
  go_wp2_with fail
  refine MT.out.mono ?_
  rintro e w2 ⟨rfl, b2⟩
  go_wp2_with fail
  go_ret
  exact ⟨rfl, b2⟩
theorem refmayP_t (n c : Nat) (p : Option Addr) (G : Nat → Fld) (w : World) (hn : n ≤ 9223372036854775807) (hr : Rw w p n G) :
    Calls Tryz.prog 61 #[.slice p n c] w fun e w' => e = .returned (.bool (mayP n G)) ∧ Below w.heap.size w w' := by
  have MT := Lib.hid (reffields_t 5 n c p G w hn hr)
  rw [show (fewN n && allN (fun j => okM 5 (G j)) n) = mayP n G by unfold mayP; rw [allN_congr n (fun j _ => okM_P (G j))]] at MT
  clear hr
  go_enter Tryz.func61, Tryz.ntmps61
  go_wp2_with fail
  refine MT.out.mono ?_
  rintro e w2 ⟨rfl, b2⟩
  go_wp2_with fail
  go_ret
  exact ⟨rfl, b2⟩


theorem neq_fld (a b : Fld) (w : World) : (binOp .neq 172 (.agg (fv a).toArray) (.agg (fv b).toArray)).run Tryz.prog w = .ok (.bool (!sameF a b)) w := by
  rw [run_neq_struct, eqIn_fld 9998 a b w]
  rfl
set_option maxRecDepth 100000 in
theorem refsame_t (n c m c2 : Nat) (p q : Option Addr) (G H : Nat → Fld) (w : World) (hn : n ≤ 9223372036854775807) (hm : m ≤ 9223372036854775807) (hr : Rw w p n G) (hq : Rw w q m H) :
    Calls Tryz.prog 88 #[.slice p n c, .slice q m c2] w fun e w' => e = .returned (.bool (sameN n G m H)) ∧ Below w.heap.size w w' := by
  by_cases h : n = m
  · subst h
    rw [show sameN n G n H = allN (fun j => sameF (G j) (H j)) n by simp [sameN]]
    have HR := Lib.hid hr; have HQ := Lib.hid hq
    have AY := Lib.hid (fun h => (allN_iff (fun j => sameF (G j) (H j)) n).2 h); have AN := Lib.hid (fun j hj h => allN_no (B := fun j => sameF (G j) (H j)) (n := n) (j := j) hj h)
    obtain ⟨r, hR⟩ : ∃ r, allN (fun j => sameF (G j) (H j)) n = r := ⟨_, rfl⟩
    rw [hR] at AY AN ⊢
    clear hR hr hq
    go_enter Tryz.func88, Tryz.ntmps88
    go_upto_region 4 with (fail)
    go_loopw [5] (fun x wr => ∃ j : Nat, j ≤ n ∧ x = .int .i64 (j : Int) ∧ Below w.heap.size w wr ∧ ∀ i, i < j → sameF (G i) (H i) = true) (fun x _ => n - (intOf x).toNat)
    case atStart => exact ⟨0, by omega, rfl, Below.refl _ _, fun i hi => absurd hi (by omega)⟩
    case round =>
      obtain ⟨j, hj, rfl, bx, hb⟩ := hrel
      have HB := Lib.hid hb; have BX := Lib.hid bx
      clear hb bx
      by_cases hlt : j < n
      · obtain ⟨b, o, rfl, rg⟩ := (HR.out.below (BX.out.trans ((Below.refl _ _).drew))).read hlt
        obtain ⟨b2, o2, rfl, rg2⟩ := (HQ.out.below (BX.out.trans ((Below.refl _ _).drew))).read hlt
        have j1 : (j : Int) < (n : Int) := by omega
        have NQ := neq_fld (G j) (H j)
        have FG := Lib.hid (fv_size (G j)); have FH := Lib.hid (fv_size (H j))
        have AN1 := Lib.hid (AN.out j hlt)
        have HN := Lib.hid (fun (h : sameF (G j) (H j) = true) (i : Nat) (hi : i < j + 1) => show sameF (G i) (H i) = true by
          rcases Nat.lt_or_ge i j with h1 | h1
          · exact HB.out i h1
          · obtain rfl : i = j := by omega
            exact h)
        obtain ⟨sb, hsb⟩ : ∃ b, sameF (G j) (H j) = b := ⟨_, rfl⟩
        rw [hsb] at NQ AN1 HN
        clear hsb HB
        go_upto_region 6 with (fail)
        refine wp_region_held (S := fun X => X.rangeAt b (o + j * 3) (fv (G j)) ∧ X.rangeAt b2 (o2 + j * 3) (fv (H j))) (by kernel_rfl) ?_
        change wpAnyH _ _ _ _ _ _ _ _ wr.drew
        have rr : wr.drew.rangeAt b (o + j * 3) (fv (G j)) ∧ wr.drew.rangeAt b2 (o2 + j * 3) (fv (H j)) := ⟨rg, rg2⟩
        refine wpAnyH_take (i := 0) (v := ?_) rfl (by kernel_rfl) (by kernel_rfl) (by kernel_rfl) (fun _ _ _ h => h) (Or.inl ⟨by kernel_rfl, ?_⟩) rr ?_
        rotate_left 1
        · (intro w hS; clear hS; go_simp; try (with_reducible rfl))
        refine wpAnyH_take (i := 1) (v := ?_) rfl (by kernel_rfl) (by kernel_rfl) (by kernel_rfl) (fun _ _ _ h => h) (Or.inl ⟨by kernel_rfl, ?_⟩) rr ?_
        rotate_left 1
        · (intro w hS; clear hS; go_simp; try (with_reducible rfl))
        refine wpAnyH_take (i := 2) (v := ?_) rfl (by kernel_rfl) (by kernel_rfl) (by kernel_rfl) (fun _ _ _ h => h) (Or.inl ⟨by kernel_rfl, ?_⟩) rr ?_
        rotate_left 1
        · (intro w hS; clear hS; go_simp; try (with_reducible rfl))
        refine wpAnyH_take (i := 3) (v := .agg (fv (G j)).toArray) rfl (by kernel_rfl) (by kernel_rfl) (by kernel_rfl) (fun _ _ _ h => h) (yieldsIf_load_mid (by kernel_rfl) 172 (.tmp 19) rfl b (o + j * 3) (by go_simp) (fv (G j)) _ (fun _ h => h.1) Tryz.underlying172 rfl (FG.out)) rr ?_
        refine wpAnyH_take (i := 4) (v := ?_) rfl (by kernel_rfl) (by kernel_rfl) (by kernel_rfl) (fun _ _ _ h => h) (Or.inl ⟨by kernel_rfl, ?_⟩) rr ?_
        rotate_left 1
        · (intro w hS; clear hS; go_simp; try (with_reducible rfl))
        refine wpAnyH_take (i := 5) (v := ?_) rfl (by kernel_rfl) (by kernel_rfl) (by kernel_rfl) (fun _ _ _ h => h) (Or.inl ⟨by kernel_rfl, ?_⟩) rr ?_
        rotate_left 1
        · (intro w hS; clear hS; go_simp; try (with_reducible rfl))
        refine wpAnyH_take (i := 6) (v := ?_) rfl (by kernel_rfl) (by kernel_rfl) (by kernel_rfl) (fun _ _ _ h => h) (Or.inl ⟨by kernel_rfl, ?_⟩) rr ?_
        rotate_left 1
        · (intro w hS; clear hS; go_simp; try (with_reducible rfl))
        refine wpAnyH_take (i := 7) (v := .agg (fv (H j)).toArray) rfl (by kernel_rfl) (by kernel_rfl) (by kernel_rfl) (fun _ _ _ h => h) (yieldsIf_load_mid (by kernel_rfl) 172 (.tmp 23) rfl b2 (o2 + j * 3) (by go_simp) (fv (H j)) _ (fun _ h => h.2) Tryz.underlying172 rfl (FH.out)) rr ?_
        refine wpAnyH_take (i := 8) (v := ?_) rfl (by kernel_rfl) (by kernel_rfl) (by kernel_rfl) (fun _ _ _ h => h) (Or.inl ⟨by kernel_rfl, ?_⟩) rr ?_
        rotate_left 1
        · (intro w hS; clear hS; go_simp; try (with_reducible rfl))
        refine wpAnyH_done (by kernel_rfl) ?_ _
        go_simp
        have BY := Lib.hid (BX.out.trans ((Below.refl wr.heap.size wr).drew.mono BX.out.size))
        clear rr rg rg2 NQ FG FH BX
        cases sb with
        | true =>
          have HN2 := Lib.hid (HN.out rfl)
          clear HN AN1
          go_wp2_with fail
          exact ⟨⟨j + 1, hlt, by go_num, BY.out, HN2.out⟩, by simp [intOf]; omega⟩
        | false =>
          have hR := AN1.out rfl
          subst hR
          clear HN AN1
          go_wp2_with fail
          go_ret
          exact ⟨rfl, BY.out⟩
      · obtain rfl : j = n := by omega
        have hR := AY.out HB.out
        subst hR
        clear hlt
        go_wp2_with fail
        go_ret
        exact ⟨rfl, BX.out⟩
  · rw [show sameN n G m H = false by simp [sameN, h]]
    have e1 : ((n : Int) != (m : Int)) = true := by rw [bne_iff_ne]; omega
    clear h hr hq
    go_enter Tryz.func88, Tryz.ntmps88
    go_wp2_with fail
    go_ret
    exact ⟨rfl, Below.refl _ _⟩
/-- A request at hand, boxed. -/
structure OM (w0 W : World) (x : Rv) (xs : List Value) : Prop where
  box : Blk W w0.heap.size 64 xs
  rx : RvW W x
  bel : Below w0.heap.size w0 W
theorem OM.below {w0 W W' : World} {x : Rv} {xs : List Value} (h : OM w0 W x xs) (hb : Below W.heap.size W W') : OM w0 W' x xs := ⟨h.box.below hb h.box.lt, h.rx.below hb, h.bel.trans (hb.mono h.bel.size)⟩
end Go.Proofs.YtphgognhjdbdjaaGreatDoor
namespace Go.Proofs.YtphgognhjdbdjaaGreatDoor
open Go Go.RowKit Sh

set_option maxRecDepth 100000 in
theorem refOwn_t (x : Spv) (c : Int) (w : World) (hx : SpW w x) :
    Calls Tryz.prog 60 #[.agg (sv x).toArray, .int .i64 c] w fun e w' => e = .returned (.int .i64 (ownN c x.sp.its : Nat)) ∧ Below w.heap.size w w' := by
  have S0 := Lib.hid (SB.new hx)
  have HN := Lib.hid hx.n
  show Calls _ _ _ _ fun e w' => e = .returned (.int .i64 (ownN c (x.its.map (·.i)) : Nat)) ∧ _
  clear hx
  go_enter Tryz.func60, Tryz.ntmps60
  go_upto_region 1 with (fail)
  change Code.wp _ _ _ _ (w.alloc (.cells (sv x).toArray 29))
  obtain ⟨V, hV⟩ : ∃ V, w.alloc (.cells (sv x).toArray 29) = V := ⟨_, rfl⟩
  rw [hV] at S0 ⊢
  clear hV
  obtain ⟨_, c1, _, _, _⟩ := sv_cells S0.out.a
  have HI := Lib.hid S0.out.rx.its
  obtain ⟨ip, hip⟩ : ∃ p, x.ip = p := ⟨_, rfl⟩
  obtain ⟨n, hn⟩ : ∃ n, x.its.length = n := ⟨_, rfl⟩
  rw [hip, hn] at c1
  rw [hip] at HI
  rw [hn] at HN
  have HL := Lib.hid hn
  have nB : (n : Int) ≤ 9223372036854775807 := by have := HN.out; omega
  clear hip hn
  go_upto_region 3 with (fail)
  go_loopw [5, 6] (fun s t wr => ∃ j cn : Nat, j ≤ n ∧ s = .int .i64 (cn : Int) ∧ t = .int .i64 (j : Int) ∧ cn = ownN c ((x.its.take j).map (·.i)) ∧ V = wr) (fun _ t _ => n - (intOf t).toNat)
  case atStart => exact ⟨0, 0, by omega, rfl, rfl, rfl, rfl⟩
  case round =>
    obtain ⟨j, cn, hj, rfl, rfl, hcn, rfl⟩ := hrel
    by_cases hlt : j < n
    · obtain ⟨y, hy⟩ : ∃ y, x.its[j]? = some y := ⟨_, List.getElem?_eq_getElem (by rw [HL.out]; exact hlt)⟩
      obtain ⟨b, o, rfl, hbl, rg⟩ := HI.out j y hy
      have y0 : V.cell? ⟨b, o + j * 3, none⟩ = some (.int .i64 y.i.own) := rg 0 _ rfl
      have j1 : (j : Int) < (n : Int) := by omega
      have hs : ownN c ((x.its.take (j + 1)).map (·.i)) = cn + if y.i.own == c then 1 else 0 := by rw [take_snoc hy, List.map_append, hcn]; exact ownN_snoc _ _ _
      have cb : cn ≤ j := by
        rw [hcn]
        exact Nat.le_trans (ownN_le _ _) (by rw [List.length_map, List.length_take]; omega)
      have cnB : (cn : Int) < 9223372036854775807 := by omega
      obtain ⟨z, hz⟩ : ∃ z, y.i.own = z := ⟨_, rfl⟩
      rw [hz] at y0 hs
      clear hcn rg hy hbl cb
      cases he : (z == c) with
      | true =>
        rw [he, if_pos rfl] at hs
        have HS := Lib.hid hs
        clear hs
        go_wp2_with fail
        go_roundw
        case rel => exact ⟨j + 1, cn + 1, hlt, by go_num, by go_num, HS.out.symm, trivial⟩
        case measure => simp [intOf]; omega
      | false =>
        rw [he, if_neg (by decide)] at hs
        have HS := Lib.hid hs
        clear hs
        go_wp2_with fail
        go_roundw
        case rel => exact ⟨j + 1, cn, hlt, rfl, by go_num, HS.out.symm, trivial⟩
        case measure => simp [intOf]; omega
    · obtain rfl : j = n := by omega
      have hr : cn = ownN c (x.its.map (·.i)) := by rw [hcn, List.take_of_length_le (by rw [HL.out]; exact Nat.le_refl _)]
      have HR := Lib.hid hr
      clear hlt hcn hr
      go_wp2_with fail
      go_ret
      exact ⟨by rw [HR.out]; rfl, S0.out.bel⟩
end Go.Proofs.YtphgognhjdbdjaaGreatDoor
namespace Go.Proofs.YtphgognhjdbdjaaGreatDoor
open Go Go.RowKit Sh

set_option maxRecDepth 100000 in
theorem reflast_t (x : Rpv) (c : Int) (w : World) (h : TR w x.p x.r.t) : Calls Tryz.prog 62 #[.agg (pv x).toArray, .int .i64 c] w fun e w' => e = .returned (.bool ((x.r.cl == c) && rpB x.r)) ∧ Below w.heap.size w w' := by
  obtain ⟨⟨cl, sq, kd, t, lt⟩, p, cc⟩ := x
  have B0 := Lib.hid (Blk.new w 26 (pv ⟨⟨cl, sq, kd, t, lt⟩, p, cc⟩))
  have BW := Lib.hid ((Below.refl w.heap.size w).alloc (Nat.le_refl _) (.cells (pv ⟨⟨cl, sq, kd, t, lt⟩, p, cc⟩).toArray 26))
  have MT := Lib.hid (refmayV_t t.length cc p (gl t) _ h.n (h.below BW.out).t)
  have hf : rpB ⟨cl, sq, kd, t, lt⟩ = if sq = 0 then (kd == 0) && (decide (t.length = 0) && !lt) else if sq < 0 ∨ 1073741824 < sq then false else if kd = 2 then vT t else decide (1 ≤ kd) && (decide (kd ≤ 6) && (decide (t.length = 0) && !lt)) := by unfold rpB; simp only [isEmpty_dec]
  obtain ⟨c0, c1, c2, c3, c4⟩ := pv_cells B0.out
  dsimp only at c0 c1 c2 c3 c4
  show Calls _ _ _ _ fun e w' => e = .returned (.bool ((cl == c) && rpB ⟨cl, sq, kd, t, lt⟩)) ∧ Below w.heap.size w w'
  rw [hf]
  change Hid (Calls _ _ _ _ fun e w' => e = .returned (.bool (vT t)) ∧ _) at MT
  obtain ⟨vb, hvb⟩ : ∃ b, vT t = b := ⟨_, rfl⟩
  rw [hvb] at MT ⊢
  obtain ⟨n, hn⟩ : ∃ n, t.length = n := ⟨_, rfl⟩
  rw [hn] at MT c3 ⊢
  obtain ⟨xs, hx⟩ : ∃ l, pv ⟨⟨cl, sq, kd, t, lt⟩, p, cc⟩ = l := ⟨_, rfl⟩
  rw [hx] at B0 BW MT c0 c1 c2 c3 c4 ⊢
  clear hf hvb hn hx h B0
  cases hc : (cl == c) with
  | false =>
    rw [Bool.false_and]
    have e9 : (cl != c) = true := by rw [bne, hc]; rfl
    clear MT
    go_enter Tryz.func62, Tryz.ntmps62
    go_wp2_with fail
    go_ret
    exact ⟨rfl, BW.out⟩
  | true =>
  rw [Bool.true_and]
  have e9 : (cl != c) = false := by rw [bne, hc]; rfl
  clear hc
  by_cases s0 : sq = 0
  · subst s0
    rw [if_pos rfl]
    clear MT
    by_cases k0 : kd = 0
    · subst k0
      by_cases n0 : n = 0
      · subst n0
        go_enter Tryz.func62, Tryz.ntmps62
        go_wp2_with fail
        go_ret
        exact ⟨by simp, BW.out⟩
      · have e1 : ((n : Int) == 0) = false := by rw [beq_eq_false_iff_ne]; omega
        go_enter Tryz.func62, Tryz.ntmps62
        go_wp2_with fail
        go_ret
        exact ⟨by simp [n0], BW.out⟩
    · have e1 : (kd == 0) = false := by rw [beq_eq_false_iff_ne]; exact k0
      go_enter Tryz.func62, Tryz.ntmps62
      go_wp2_with fail
      go_ret
      exact ⟨by simp [e1], BW.out⟩
  · have e0 : (sq == 0) = false := by rw [beq_eq_false_iff_ne]; exact s0
    rw [if_neg s0]
    by_cases s1 : sq < 0
    · rw [if_pos (.inl s1)]
      clear MT
      go_enter Tryz.func62, Tryz.ntmps62
      go_wp2_with fail
      go_ret
      exact ⟨rfl, BW.out⟩
    · by_cases s2 : 1073741824 < sq
      · rw [if_pos (.inr s2)]
        clear MT
        have s3 : 0 ≤ sq := by omega
        go_enter Tryz.func62, Tryz.ntmps62
        go_wp2_with fail
        go_ret
        exact ⟨rfl, BW.out⟩
      · rw [if_neg (by omega)]
        have s3 : 0 ≤ sq := by omega
        have s4 : sq ≤ 1073741824 := by omega
        clear s1 s2
        by_cases k2 : kd = 2
        · subst k2
          rw [if_pos rfl]
          go_enter Tryz.func62, Tryz.ntmps62
          go_wp2_with fail
          refine MT.out.mono ?_
          rintro e w2 ⟨rfl, b2⟩
          go_wp2_with fail
          go_ret
          exact ⟨rfl, BW.out.trans (b2.mono BW.out.size)⟩
        · rw [if_neg k2]
          have e2 : (kd == 2) = false := by rw [beq_eq_false_iff_ne]; exact k2
          clear MT
          by_cases k1 : 1 ≤ kd
          · by_cases k6 : kd ≤ 6
            · rw [decide_eq_true k1, decide_eq_true k6, Bool.true_and, Bool.true_and]
              by_cases n0 : n = 0
              · subst n0
                go_enter Tryz.func62, Tryz.ntmps62
                go_wp2_with fail
                go_ret
                exact ⟨by simp, BW.out⟩
              · have e1 : ((n : Int) == 0) = false := by rw [beq_eq_false_iff_ne]; omega
                go_enter Tryz.func62, Tryz.ntmps62
                go_wp2_with fail
                go_ret
                exact ⟨by simp [n0], BW.out⟩
            · rw [decide_eq_true k1, decide_eq_false k6, Bool.true_and, Bool.false_and]
              have k7 : 6 < kd := by omega
              go_enter Tryz.func62, Tryz.ntmps62
              go_wp2_with fail
              go_ret
              exact ⟨rfl, BW.out⟩
          · rw [decide_eq_false k1, Bool.false_and]
            have k7 : kd < 1 := by omega
            go_enter Tryz.func62, Tryz.ntmps62
            go_wp2_with fail
            go_ret
            exact ⟨rfl, BW.out⟩
/-- What may not be. -/
theorem may_no {s : Sp} (h : ¬ MayS s) : spMay s = false := by
  cases e : spMay s with
  | false => rfl
  | true => exact absurd (mayS_iff.1 e) h
theorem MayS.of {s : Sp} (h0 : 0 ≤ s.now) (h1 : s.now ≤ 1099511627776) (h2 : 0 ≤ s.rd) (h3 : s.rd ≤ 15) (h4 : 0 ≤ s.wr) (h5 : s.wr ≤ 15) (h6 : s.its.length ≤ 64) (h7 : s.wts.length ≤ 16)
    (hi : ∀ y ∈ s.its, itB s.now y = true ∧ ownN y.own s.its ≤ 24) (hw : ∀ y ∈ s.wts, wtB y = true) (hl : ∀ (j : Nat) (y : Rp), s.last[j]? = some y → y.cl = (j : Int) ∧ rpB y = true) : MayS s :=
  ⟨h0, h1, by unfold alB; rw [decide_eq_true h2, decide_eq_true h3]; rfl, by unfold alB; rw [decide_eq_true h4, decide_eq_true h5]; rfl, h6, fun y hy => (hi y hy).1, few_own.1 (List.all_eq_true.2 fun y hy => decide_eq_true (hi y hy).2), h7, hw, hl⟩
theorem sv_cut {x : Spv} {j : Nat} {y : Rpv} (hy : x.last[j]? = some y) : ∃ A C, sv x = A ++ (pv y ++ C) ∧ A.length = 5 + j * 5 := by
  have hj : j < x.last.length := (List.getElem?_eq_some_iff.1 hy).1
  have e : x.last = x.last.take j ++ y :: x.last.drop (j + 1) := by
    have h1 : x.last[j] = y := (List.getElem?_eq_some_iff.1 hy).2
    rw [← h1, ← List.drop_eq_getElem_cons hj, List.take_append_drop]
  refine ⟨svA x ++ (x.last.take j).flatMap pv, (x.last.drop (j + 1)).flatMap pv, ?_, ?_⟩
  · rw [sv_split, List.append_nil]
    conv => lhs; rw [e]
    rw [List.flatMap_append, List.flatMap_cons]
    simp only [List.append_assoc]
  · rw [List.length_append, flat_length pv_len, List.length_take, Nat.min_eq_left (by omega)]
    rfl
theorem alB_h {z : Int} (h : alB z = true) : 0 ≤ z ∧ z ≤ 15 := by simpa [alB] using h
set_option maxRecDepth 100000 in
set_option maxHeartbeats 4000000 in
theorem refMaySpace_t (x : Spv) (w : World) (hx : SpW w x) :
    Calls Tryz.prog 13 #[.agg (sv x).toArray] w fun e w' => e = .returned (.bool (spMay x.sp)) ∧ Below w.heap.size w w' := by
  have S0 := Lib.hid (SB.new hx)
  have NO := Lib.hid (fun h => may_no (s := x.sp) h); have YES := Lib.hid (fun h => mayS_iff (s := x.sp).2 h)
  obtain ⟨r, hr⟩ : ∃ r, spMay x.sp = r := ⟨_, rfl⟩
  rw [hr] at NO YES ⊢
  have HN := Lib.hid (And.intro hx.n hx.m)
  obtain ⟨n, hn⟩ : ∃ n, x.its.length = n := ⟨_, rfl⟩
  obtain ⟨m, hm⟩ : ∃ n, x.wts.length = n := ⟨_, rfl⟩
  have HI := Lib.hid hn; have HW := Lib.hid hm
  clear hr hx hn hm
  by_cases h1 : x.now < 0
  · skip
    have hR := NO.out fun h => by have h1 := h.n0; have h2 := h.n1; have h3 := alB_h h.rd; have h4 := alB_h h.wr; have h5 := h.il; have h6 := h.wl; have h7 := HI.out; have h8 := HW.out; simp only [Spv.sp] at h1 h2 h3 h4 h5 h6; rw [List.length_map] at h5 h6; omega
    subst hR
    clear NO YES
    go_enter Tryz.func13, Tryz.ntmps13
    go_upto_region 1 with (fail)
    change Code.wp _ _ _ _ (w.alloc (.cells (sv x).toArray 29))
    obtain ⟨V, hV⟩ : ∃ V, w.alloc (.cells (sv x).toArray 29) = V := ⟨_, rfl⟩
    rw [hV] at S0 ⊢
    clear hV
    obtain ⟨c0, c1, c2, c3, c4⟩ := sv_cells S0.out.a
    rw [HI.out] at c1
    rw [HW.out] at c2
    go_wp2_with fail
    go_ret
    exact ⟨rfl, S0.out.bel⟩
  by_cases h2 : 1099511627776 < x.now
  · have g1 : 0 ≤ x.now := by omega
    have hR := NO.out fun h => by have h1 := h.n0; have h2 := h.n1; have h3 := alB_h h.rd; have h4 := alB_h h.wr; have h5 := h.il; have h6 := h.wl; have h7 := HI.out; have h8 := HW.out; simp only [Spv.sp] at h1 h2 h3 h4 h5 h6; rw [List.length_map] at h5 h6; omega
    subst hR
    clear NO YES
    go_enter Tryz.func13, Tryz.ntmps13
    go_upto_region 1 with (fail)
    change Code.wp _ _ _ _ (w.alloc (.cells (sv x).toArray 29))
    obtain ⟨V, hV⟩ : ∃ V, w.alloc (.cells (sv x).toArray 29) = V := ⟨_, rfl⟩
    rw [hV] at S0 ⊢
    clear hV
    obtain ⟨c0, c1, c2, c3, c4⟩ := sv_cells S0.out.a
    rw [HI.out] at c1
    rw [HW.out] at c2
    go_wp2_with fail
    go_ret
    exact ⟨rfl, S0.out.bel⟩
  by_cases h3 : (64 : Int) < (n : Int)
  · have g1 : 0 ≤ x.now := by omega
    have g2 : x.now ≤ 1099511627776 := by omega
    have hR := NO.out fun h => by have h1 := h.n0; have h2 := h.n1; have h3 := alB_h h.rd; have h4 := alB_h h.wr; have h5 := h.il; have h6 := h.wl; have h7 := HI.out; have h8 := HW.out; simp only [Spv.sp] at h1 h2 h3 h4 h5 h6; rw [List.length_map] at h5 h6; omega
    subst hR
    clear NO YES
    go_enter Tryz.func13, Tryz.ntmps13
    go_upto_region 1 with (fail)
    change Code.wp _ _ _ _ (w.alloc (.cells (sv x).toArray 29))
    obtain ⟨V, hV⟩ : ∃ V, w.alloc (.cells (sv x).toArray 29) = V := ⟨_, rfl⟩
    rw [hV] at S0 ⊢
    clear hV
    obtain ⟨c0, c1, c2, c3, c4⟩ := sv_cells S0.out.a
    rw [HI.out] at c1
    rw [HW.out] at c2
    go_wp2_with fail
    go_ret
    exact ⟨rfl, S0.out.bel⟩
  by_cases h4 : (16 : Int) < (m : Int)
  · have g1 : 0 ≤ x.now := by omega
    have g2 : x.now ≤ 1099511627776 := by omega
    have g3 : (n : Int) ≤ 64 := by omega
    have hR := NO.out fun h => by have h1 := h.n0; have h2 := h.n1; have h3 := alB_h h.rd; have h4 := alB_h h.wr; have h5 := h.il; have h6 := h.wl; have h7 := HI.out; have h8 := HW.out; simp only [Spv.sp] at h1 h2 h3 h4 h5 h6; rw [List.length_map] at h5 h6; omega
    subst hR
    clear NO YES
    go_enter Tryz.func13, Tryz.ntmps13
    go_upto_region 1 with (fail)
    change Code.wp _ _ _ _ (w.alloc (.cells (sv x).toArray 29))
    obtain ⟨V, hV⟩ : ∃ V, w.alloc (.cells (sv x).toArray 29) = V := ⟨_, rfl⟩
    rw [hV] at S0 ⊢
    clear hV
    obtain ⟨c0, c1, c2, c3, c4⟩ := sv_cells S0.out.a
    rw [HI.out] at c1
    rw [HW.out] at c2
    go_wp2_with fail
    go_ret
    exact ⟨rfl, S0.out.bel⟩
  by_cases h5 : x.rd < 0
  · have g1 : 0 ≤ x.now := by omega
    have g2 : x.now ≤ 1099511627776 := by omega
    have g3 : (n : Int) ≤ 64 := by omega
    have g4 : (m : Int) ≤ 16 := by omega
    have hR := NO.out fun h => by have h1 := h.n0; have h2 := h.n1; have h3 := alB_h h.rd; have h4 := alB_h h.wr; have h5 := h.il; have h6 := h.wl; have h7 := HI.out; have h8 := HW.out; simp only [Spv.sp] at h1 h2 h3 h4 h5 h6; rw [List.length_map] at h5 h6; omega
    subst hR
    clear NO YES
    go_enter Tryz.func13, Tryz.ntmps13
    go_upto_region 1 with (fail)
    change Code.wp _ _ _ _ (w.alloc (.cells (sv x).toArray 29))
    obtain ⟨V, hV⟩ : ∃ V, w.alloc (.cells (sv x).toArray 29) = V := ⟨_, rfl⟩
    rw [hV] at S0 ⊢
    clear hV
    obtain ⟨c0, c1, c2, c3, c4⟩ := sv_cells S0.out.a
    rw [HI.out] at c1
    rw [HW.out] at c2
    go_wp2_with fail
    go_ret
    exact ⟨rfl, S0.out.bel⟩
  by_cases h6 : 15 < x.rd
  · have g1 : 0 ≤ x.now := by omega
    have g2 : x.now ≤ 1099511627776 := by omega
    have g3 : (n : Int) ≤ 64 := by omega
    have g4 : (m : Int) ≤ 16 := by omega
    have g5 : 0 ≤ x.rd := by omega
    have hR := NO.out fun h => by have h1 := h.n0; have h2 := h.n1; have h3 := alB_h h.rd; have h4 := alB_h h.wr; have h5 := h.il; have h6 := h.wl; have h7 := HI.out; have h8 := HW.out; simp only [Spv.sp] at h1 h2 h3 h4 h5 h6; rw [List.length_map] at h5 h6; omega
    subst hR
    clear NO YES
    go_enter Tryz.func13, Tryz.ntmps13
    go_upto_region 1 with (fail)
    change Code.wp _ _ _ _ (w.alloc (.cells (sv x).toArray 29))
    obtain ⟨V, hV⟩ : ∃ V, w.alloc (.cells (sv x).toArray 29) = V := ⟨_, rfl⟩
    rw [hV] at S0 ⊢
    clear hV
    obtain ⟨c0, c1, c2, c3, c4⟩ := sv_cells S0.out.a
    rw [HI.out] at c1
    rw [HW.out] at c2
    go_wp2_with fail
    go_ret
    exact ⟨rfl, S0.out.bel⟩
  by_cases h7 : x.wr < 0
  · have g1 : 0 ≤ x.now := by omega
    have g2 : x.now ≤ 1099511627776 := by omega
    have g3 : (n : Int) ≤ 64 := by omega
    have g4 : (m : Int) ≤ 16 := by omega
    have g5 : 0 ≤ x.rd := by omega
    have g6 : x.rd ≤ 15 := by omega
    have hR := NO.out fun h => by have h1 := h.n0; have h2 := h.n1; have h3 := alB_h h.rd; have h4 := alB_h h.wr; have h5 := h.il; have h6 := h.wl; have h7 := HI.out; have h8 := HW.out; simp only [Spv.sp] at h1 h2 h3 h4 h5 h6; rw [List.length_map] at h5 h6; omega
    subst hR
    clear NO YES
    go_enter Tryz.func13, Tryz.ntmps13
    go_upto_region 1 with (fail)
    change Code.wp _ _ _ _ (w.alloc (.cells (sv x).toArray 29))
    obtain ⟨V, hV⟩ : ∃ V, w.alloc (.cells (sv x).toArray 29) = V := ⟨_, rfl⟩
    rw [hV] at S0 ⊢
    clear hV
    obtain ⟨c0, c1, c2, c3, c4⟩ := sv_cells S0.out.a
    rw [HI.out] at c1
    rw [HW.out] at c2
    go_wp2_with fail
    go_ret
    exact ⟨rfl, S0.out.bel⟩
  by_cases h8 : 15 < x.wr
  · have g1 : 0 ≤ x.now := by omega
    have g2 : x.now ≤ 1099511627776 := by omega
    have g3 : (n : Int) ≤ 64 := by omega
    have g4 : (m : Int) ≤ 16 := by omega
    have g5 : 0 ≤ x.rd := by omega
    have g6 : x.rd ≤ 15 := by omega
    have g7 : 0 ≤ x.wr := by omega
    have hR := NO.out fun h => by have h1 := h.n0; have h2 := h.n1; have h3 := alB_h h.rd; have h4 := alB_h h.wr; have h5 := h.il; have h6 := h.wl; have h7 := HI.out; have h8 := HW.out; simp only [Spv.sp] at h1 h2 h3 h4 h5 h6; rw [List.length_map] at h5 h6; omega
    subst hR
    clear NO YES
    go_enter Tryz.func13, Tryz.ntmps13
    go_upto_region 1 with (fail)
    change Code.wp _ _ _ _ (w.alloc (.cells (sv x).toArray 29))
    obtain ⟨V, hV⟩ : ∃ V, w.alloc (.cells (sv x).toArray 29) = V := ⟨_, rfl⟩
    rw [hV] at S0 ⊢
    clear hV
    obtain ⟨c0, c1, c2, c3, c4⟩ := sv_cells S0.out.a
    rw [HI.out] at c1
    rw [HW.out] at c2
    go_wp2_with fail
    go_ret
    exact ⟨rfl, S0.out.bel⟩
  have g1 : 0 ≤ x.now := by omega
  have g2 : x.now ≤ 1099511627776 := by omega
  have g3 : (n : Int) ≤ 64 := by omega
  have g4 : (m : Int) ≤ 16 := by omega
  have g5 : 0 ≤ x.rd := by omega
  have g6 : x.rd ≤ 15 := by omega
  have g7 : 0 ≤ x.wr := by omega
  have g8 : x.wr ≤ 15 := by omega
  have GG := Lib.hid (And.intro (And.intro g1 g2) (And.intro (And.intro g5 g6) (And.intro g7 g8)))
  have k1 : decide (x.now < 0) = false := decide_eq_false h1
  have k2 : decide (1099511627776 < x.now) = false := decide_eq_false h2
  have k3 : decide ((64 : Int) < (n : Int)) = false := decide_eq_false h3
  have k4 : decide ((16 : Int) < (m : Int)) = false := decide_eq_false h4
  have k5 : decide (x.rd < 0) = false := decide_eq_false h5
  have k6 : decide (15 < x.rd) = false := decide_eq_false h6
  have k7 : decide (x.wr < 0) = false := decide_eq_false h7
  have k8 : decide (15 < x.wr) = false := decide_eq_false h8
  clear g1 g2 g5 g6 g7 g8
  clear h1 h2 h3 h4 h5 h6 h7 h8
  go_enter Tryz.func13, Tryz.ntmps13
  go_upto_region 1 with (fail)
  change Code.wp _ _ _ _ (w.alloc (.cells (sv x).toArray 29))
  obtain ⟨V, hV⟩ : ∃ V, w.alloc (.cells (sv x).toArray 29) = V := ⟨_, rfl⟩
  rw [hV] at S0 ⊢
  clear hV
  obtain ⟨c0, c1, c2, c3, c4⟩ := sv_cells S0.out.a
  rw [HI.out] at c1
  rw [HW.out] at c2
  go_upto_region 4 with (fail)
  clear c0 c1 c2 c3 c4 k1 k2 k3 k4 k5 k6 k7 k8
  obtain ⟨ip, hip⟩ : ∃ p, x.ip = p := ⟨_, rfl⟩
  obtain ⟨wp, hwp⟩ : ∃ p, x.wp = p := ⟨_, rfl⟩
  have HIP := Lib.hid hip; have HWP := Lib.hid hwp
  clear hip hwp
  go_loopw [3] (fun t wr => ∃ j : Nat, j ≤ n ∧ t = .int .i64 (j : Int) ∧ SB w wr x ∧ ∀ (i : Nat) (y : Itv), i < j → x.its[i]? = some y → itB x.sp.now y.i = true ∧ ownN y.i.own x.sp.its ≤ 24) (fun t _ => n - (intOf t).toNat)
  case atStart => exact ⟨0, by omega, rfl, S0.out, fun i y hi => absurd hi (by omega)⟩
  case round =>
    clear S0
    obtain ⟨j, hj, rfl, s0, hb⟩ := hrel
    have S0 := Lib.hid s0; have HB := Lib.hid hb
    clear s0 hb
    have c1 := (sv_cells S0.out.a).2.1
    rw [HIP.out, HI.out] at c1
    by_cases hlt : j < n
    · obtain ⟨y, hy⟩ : ∃ y, x.its[j]? = some y := ⟨_, List.getElem?_eq_getElem (by rw [HI.out]; exact hlt)⟩
      obtain ⟨b, o, hpe, hbl, rg⟩ := S0.out.rx.its j y hy
      obtain rfl : ip = some ⟨b, o, none⟩ := HIP.out.symm.trans hpe
      have RG := Lib.hid rg
      have j1 : (j : Int) < (n : Int) := by omega
      have FS := Lib.hid (iv_size y); have F1 := Lib.hid (iv_oneA y)
      have A0 := Lib.hid (Blk.new wr 91 [.int .i64 0, .int .i64 0, .slice none 0 0])
      have A1 := Lib.hid (A0.out.setRow (iv y))
      have W1 := Lib.hid (below_setRow ((Below.refl wr.heap.size wr).alloc (Nat.le_refl _) (.cells #[.int .i64 0, .int .i64 0, .slice none 0 0] 91)) (Nat.le_refl _) (iv y).toArray)
      have HY := Lib.hid hy
      have YH := Lib.hid (fun h : MayS x.sp => And.intro (h.it y.i (List.mem_map_of_mem (List.mem_of_getElem? hy))) (h.io y.i.own))
      have YT := Lib.hid (S0.out.rx.it y (List.mem_of_getElem? hy))
      clear rg hpe hbl hy
      go_upto_region 7 with (first
        | ((with_reducible refine at_op (.load 91 (.tmp 58)) rfl ?_); go_must (refine wpList_load_mid rfl 91 (.tmp 58) rfl b (o + j * 3) rfl (iv y) _ RG.out Tryz.underlying91 rfl FS.out ?_))
        | ((with_reducible refine store_blk 91 (.tmp 4) (.tmp 59) wr.heap.size 91 [.int .i64 0, .int .i64 0, .slice none 0 0] (iv y) rfl rfl ?_ ?_ ?_ ?_ ?_ ?_ ?_); exact A0.out; exact rfl; exact FS.out; exact F1.out; exact rfl; exact rfl))
      obtain ⟨V2, hV⟩ : ∃ V, (wr.alloc (.cells #[.int .i64 0, .int .i64 0, .slice none 0 0] 91)).setRow wr.heap.size (iv y).toArray = V := ⟨_, rfl⟩
      rw [hV] at A1 W1 ⊢
      have S2 := Lib.hid (S0.out.below W1.out)
      have YT2 := Lib.hid (YT.out.below W1.out)
      have MT := Lib.hid (show Calls _ _ _ _ fun e w' => e = .returned (.bool (vT y.i.t)) ∧ _ from refmayV_t y.i.t.length y.c y.p (gl y.i.t) V2 YT2.out.n YT2.out.t)
      have HIT := Lib.hid (show itB x.sp.now y.i = (clB y.i.own && (lastB y.i.un x.sp.now && vT y.i.t)) from rfl)
      clear hV A0 RG S0 YT YT2 W1 F1 FS c1
      obtain ⟨d0, d1, d2⟩ := iv_cells A1.out
      obtain ⟨c0, c1, c2, c3, c4⟩ := sv_cells S2.out.a
      obtain ⟨vb, hvb⟩ : ∃ z, vT y.i.t = z := ⟨_, rfl⟩
      rw [hvb] at MT HIT
      clear hvb
      obtain ⟨ow, how⟩ : ∃ z, y.i.own = z := ⟨_, rfl⟩
      have HOW := Lib.hid how
      rw [how] at d0 HIT
      obtain ⟨un, hun⟩ : ∃ z, y.i.un = z := ⟨_, rfl⟩
      rw [hun] at d1 HIT
      clear how hun
      by_cases o1 : ow < 0
      · have hR := NO.out fun h => by have h1 := (YH.out h).1; rw [HIT.out] at h1; simp [clB] at h1; omega
        subst hR
        clear NO YES
        go_wp2_with fail
        go_ret
        exact ⟨rfl, S2.out.bel⟩
      have o2 : 0 ≤ ow := by omega
      by_cases o3 : 4 ≤ ow
      · have hR := NO.out fun h => by have h1 := (YH.out h).1; rw [HIT.out] at h1; simp [clB] at h1; omega
        subst hR
        clear NO YES
        go_wp2_with fail
        go_ret
        exact ⟨rfl, S2.out.bel⟩
      have o4 : ow < 4 := by omega
      have hcl : clB ow = true := by simp [clB, o2, o4]
      rw [hcl, Bool.true_and] at HIT
      have q1 : decide (ow < 0) = false := decide_eq_false o1
      have q2 : decide (4 ≤ ow) = false := decide_eq_false o3
      clear o1 o2 o3 o4 hcl
      by_cases u0 : un = 0
      · subst u0
        rw [show lastB 0 x.sp.now = true from rfl, Bool.true_and] at HIT
        go_wp2_with fail
        refine MT.out.mono ?_
        rintro e w3 ⟨rfl, b3⟩
        have S3 := Lib.hid (S2.out.below b3); have A3 := Lib.hid (A1.out.below b3 A1.out.lt)
        have BXS := Lib.hid S3.out.a; have FXS := Lib.hid (sv_size x S3.out.rx.l4)
        clear b3 MT c0 c1 c2 c3 c4 d0 d1 d2 S2 A1
        cases vb with
        | false =>
          have hR := NO.out fun h => by have h1 := (YH.out h).1; rw [HIT.out] at h1; simp at h1
          subst hR
          clear NO YES
          go_wp2_with fail
          go_ret
          exact ⟨rfl, S3.out.bel⟩
        | true =>
          have OW := Lib.hid (refOwn_t x ow w3 S3.out.rx)
          obtain ⟨d0, d1, d2⟩ := iv_cells A3.out
          rw [HOW.out] at d0
          obtain ⟨cn, hcn⟩ : ∃ z, ownN ow x.sp.its = z := ⟨_, rfl⟩
          rw [hcn] at OW
          have HCN := Lib.hid hcn
          clear hcn
          go_wp2_with ((with_reducible refine load_blk_gdO 92 29 (.tmp 1) w.heap.size 29 (sv x) _ ?_ ?_ rfl ?_ Tryz.underlying29 ?_ ?_ ?_ ?_); exact rfl; kernel_rfl; exact BXS.out; exact rfl; exact FXS.out; exact rfl)
          refine OW.out.mono ?_
          rintro e w4 ⟨rfl, b4⟩
          have S4 := Lib.hid (S3.out.below b4)
          clear b4 OW S3 A3 d0 d1 d2 BXS FXS
          by_cases hcn : cn ≤ 24
          · have hc2 : decide (24 < (cn : Int)) = false := decide_eq_false (by omega)
            have HB2 := Lib.hid (show ∀ (i : Nat) (y : Itv), i < j + 1 → x.its[i]? = some y → itB x.sp.now y.i = true ∧ ownN y.i.own x.sp.its ≤ 24 from fun i y hi hy => by
              rcases Nat.lt_or_ge i j with h | h
              · exact HB.out i y h hy
              · obtain rfl : i = j := by omega
                rw [HY.out] at hy
                obtain rfl := Option.some.inj hy
                refine ⟨by rw [HIT.out], ?_⟩
                rw [HOW.out, HCN.out]
                exact hcn)
            go_wp2_with fail
            go_roundw
            case rel => exact ⟨j + 1, hlt, by go_num, S4.out, HB2.out⟩
            case measure => simp [intOf]; omega
          · have hc2 : (24 : Int) < (cn : Int) := by omega
            have hR := NO.out fun h => by have h1 := (YH.out h).2; rw [HOW.out, HCN.out] at h1; omega
            subst hR
            clear NO YES
            go_wp2_with fail
            go_ret
            exact ⟨rfl, S4.out.bel⟩
      have u1 : (un != 0) = true := by simpa using u0
      by_cases u2 : un ≤ x.now
      · have hR := NO.out fun h => by
          have h1 := (YH.out h).1
          rw [HIT.out, Bool.and_eq_true] at h1
          have h2 := h1.1
          have h3 : x.sp.now = x.now := rfl
          simp [lastB] at h2
          omega
        subst hR
        clear NO YES
        go_wp2_with fail
        go_ret
        exact ⟨rfl, S2.out.bel⟩
      have u3 : x.now < un := by omega
      by_cases u4 : 2199023255552 < un
      · have hR := NO.out fun h => by
          have h1 := (YH.out h).1
          rw [HIT.out, Bool.and_eq_true] at h1
          have h2 := h1.1
          simp [lastB] at h2
          omega
        subst hR
        clear NO YES
        go_wp2_with fail
        go_ret
        exact ⟨rfl, S2.out.bel⟩
      have u5 : un ≤ 2199023255552 := by omega
      have hla : lastB un x.sp.now = true := by have h3 : x.sp.now = x.now := rfl; simp [lastB, h3, u3, u5]
      rw [hla, Bool.true_and] at HIT
      have q3 : decide (un ≤ x.now) = false := decide_eq_false u2
      have q4 : decide (2199023255552 < un) = false := decide_eq_false u4
      clear u0 u2 u3 u4 u5 hla
      go_wp2_with fail
      refine MT.out.mono ?_
      rintro e w3 ⟨rfl, b3⟩
      have S3 := Lib.hid (S2.out.below b3); have A3 := Lib.hid (A1.out.below b3 A1.out.lt)
      have BXS := Lib.hid S3.out.a; have FXS := Lib.hid (sv_size x S3.out.rx.l4)
      clear b3 MT c0 c1 c2 c3 c4 d0 d1 d2 S2 A1
      cases vb with
      | false =>
        have hR := NO.out fun h => by have h1 := (YH.out h).1; rw [HIT.out] at h1; simp at h1
        subst hR
        clear NO YES
        go_wp2_with fail
        go_ret
        exact ⟨rfl, S3.out.bel⟩
      | true =>
        have OW := Lib.hid (refOwn_t x ow w3 S3.out.rx)
        obtain ⟨d0, d1, d2⟩ := iv_cells A3.out
        rw [HOW.out] at d0
        obtain ⟨cn, hcn⟩ : ∃ z, ownN ow x.sp.its = z := ⟨_, rfl⟩
        rw [hcn] at OW
        have HCN := Lib.hid hcn
        clear hcn
        go_wp2_with ((with_reducible refine load_blk_gdO 92 29 (.tmp 1) w.heap.size 29 (sv x) _ ?_ ?_ rfl ?_ Tryz.underlying29 ?_ ?_ ?_ ?_); exact rfl; kernel_rfl; exact BXS.out; exact rfl; exact FXS.out; exact rfl)
        refine OW.out.mono ?_
        rintro e w4 ⟨rfl, b4⟩
        have S4 := Lib.hid (S3.out.below b4)
        clear b4 OW S3 A3 d0 d1 d2 BXS FXS
        by_cases hcn : cn ≤ 24
        · have hc2 : decide (24 < (cn : Int)) = false := decide_eq_false (by omega)
          have HB2 := Lib.hid (show ∀ (i : Nat) (y : Itv), i < j + 1 → x.its[i]? = some y → itB x.sp.now y.i = true ∧ ownN y.i.own x.sp.its ≤ 24 from fun i y hi hy => by
            rcases Nat.lt_or_ge i j with h | h
            · exact HB.out i y h hy
            · obtain rfl : i = j := by omega
              rw [HY.out] at hy
              obtain rfl := Option.some.inj hy
              refine ⟨by rw [HIT.out], ?_⟩
              rw [HOW.out, HCN.out]
              exact hcn)
          go_wp2_with fail
          go_roundw
          case rel => exact ⟨j + 1, hlt, by go_num, S4.out, HB2.out⟩
          case measure => simp [intOf]; omega
        · have hc2 : (24 : Int) < (cn : Int) := by omega
          have hR := NO.out fun h => by have h1 := (YH.out h).2; rw [HOW.out, HCN.out] at h1; omega
          subst hR
          clear NO YES
          go_wp2_with fail
          go_ret
          exact ⟨rfl, S4.out.bel⟩
    · obtain rfl : j = n := by omega
      have HB1 := Lib.hid (show ∀ y ∈ x.sp.its, itB x.sp.now y = true ∧ ownN y.own x.sp.its ≤ 24 from fun y hy => by
        obtain ⟨z, hz, rfl⟩ := List.mem_map.1 hy
        obtain ⟨i, hi⟩ := List.getElem?_of_mem hz
        exact HB.out i z (by have := (List.getElem?_eq_some_iff.1 hi).1; rw [HI.out] at this; exact this) hi)
      clear HB hlt
      go_upto_region 10 with (fail)
      clear c1
      go_loopw [5] (fun t wr => ∃ j : Nat, j ≤ m ∧ t = .int .i64 (j : Int) ∧ SB w wr x ∧ ∀ (i : Nat) (y : Wtv), i < j → x.wts[i]? = some y → wtB y.x = true) (fun t _ => m - (intOf t).toNat)
      case atStart => exact ⟨0, by omega, rfl, S0.out, fun i y hi => absurd hi (by omega)⟩
      case round =>
        clear S0
        obtain ⟨j, hj, rfl, s0, hb⟩ := hrel
        have S0 := Lib.hid s0; have HB := Lib.hid hb
        clear s0 hb
        have c2 := (sv_cells S0.out.a).2.2.1
        rw [HWP.out, HW.out] at c2
        by_cases hlt : j < m
        · obtain ⟨y, hy⟩ : ∃ y, x.wts[j]? = some y := ⟨_, List.getElem?_eq_getElem (by rw [HW.out]; exact hlt)⟩
          obtain ⟨b, o, hpe, hbl, rg⟩ := S0.out.rx.wts j y hy
          obtain rfl : wp = some ⟨b, o, none⟩ := HWP.out.symm.trans hpe
          have RG := Lib.hid rg
          have j1 : (j : Int) < (m : Int) := by omega
          have FS := Lib.hid (wv_size y); have F1 := Lib.hid (wv_oneA y)
          have A0 := Lib.hid (Blk.new wr 93 [.int .i64 0, .int .i64 0, .bool false, .slice none 0 0])
          have A1 := Lib.hid (A0.out.setRow (wv y))
          have W1 := Lib.hid (below_setRow ((Below.refl wr.heap.size wr).alloc (Nat.le_refl _) (.cells #[.int .i64 0, .int .i64 0, .bool false, .slice none 0 0] 93)) (Nat.le_refl _) (wv y).toArray)
          have HY := Lib.hid hy
          have YH := Lib.hid (fun h : MayS x.sp => h.wt y.x (List.mem_map_of_mem (List.mem_of_getElem? hy)))
          have YT := Lib.hid (S0.out.rx.wt y (List.mem_of_getElem? hy))
          clear rg hpe hbl hy
          go_upto_region 13 with (first
            | ((with_reducible refine at_op (.load 93 (.tmp 108)) rfl ?_); go_must (refine wpList_load_mid rfl 93 (.tmp 108) rfl b (o + j * 4) rfl (wv y) _ RG.out Tryz.underlying93 rfl FS.out ?_))
            | ((with_reducible refine store_blk 93 (.tmp 6) (.tmp 109) wr.heap.size 93 [.int .i64 0, .int .i64 0, .bool false, .slice none 0 0] (wv y) rfl rfl ?_ ?_ ?_ ?_ ?_ ?_ ?_); exact A0.out; exact rfl; exact FS.out; exact F1.out; exact rfl; exact rfl))
          obtain ⟨V2, hV⟩ : ∃ V, (wr.alloc (.cells #[.int .i64 0, .int .i64 0, .bool false, .slice none 0 0] 93)).setRow wr.heap.size (wv y).toArray = V := ⟨_, rfl⟩
          rw [hV] at A1 W1 ⊢
          have S2 := Lib.hid (S0.out.below W1.out)
          have YT2 := Lib.hid (YT.out.below W1.out)
          have MT := Lib.hid (show Calls _ _ _ _ fun e w' => e = .returned (.bool (pT y.x.p)) ∧ _ from refmayP_t y.x.p.length y.c y.p (gl y.x.p) V2 YT2.out.n YT2.out.t)
          have HWT := Lib.hid (show wtB y.x = (clB y.x.cl && (decide (1 ≤ y.x.sq) && (decide (y.x.sq ≤ 1073741824) && pT y.x.p))) from rfl)
          clear hV A0 RG S0 YT YT2 W1 F1 FS c2
          obtain ⟨d0, d1, _, d3⟩ := wv_cells A1.out
          obtain ⟨vb, hvb⟩ : ∃ z, pT y.x.p = z := ⟨_, rfl⟩
          rw [hvb] at MT HWT
          clear hvb
          obtain ⟨ow, how⟩ : ∃ z, y.x.cl = z := ⟨_, rfl⟩
          rw [how] at d0 HWT
          obtain ⟨sq, hsq⟩ : ∃ z, y.x.sq = z := ⟨_, rfl⟩
          rw [hsq] at d1 HWT
          clear how hsq
          by_cases o1 : ow < 0
          · have hR := NO.out fun h => by have h1 := YH.out h; rw [HWT.out] at h1; simp [clB] at h1; omega
            subst hR
            clear NO YES
            go_wp2_with fail
            go_ret
            exact ⟨rfl, S2.out.bel⟩
          by_cases o3 : 4 ≤ ow
          · have hR := NO.out fun h => by have h1 := YH.out h; rw [HWT.out] at h1; simp [clB] at h1; omega
            have q1 : decide (ow < 0) = false := decide_eq_false o1
            subst hR
            clear NO YES
            go_wp2_with fail
            go_ret
            exact ⟨rfl, S2.out.bel⟩
          by_cases o5 : sq < 1
          · have hR := NO.out fun h => by have h1 := YH.out h; rw [HWT.out] at h1; simp [clB] at h1; omega
            have q1 : decide (ow < 0) = false := decide_eq_false o1
            have q2 : decide (4 ≤ ow) = false := decide_eq_false o3
            subst hR
            clear NO YES
            go_wp2_with fail
            go_ret
            exact ⟨rfl, S2.out.bel⟩
          by_cases o6 : 1073741824 < sq
          · have hR := NO.out fun h => by have h1 := YH.out h; rw [HWT.out] at h1; simp [clB] at h1; omega
            have q1 : decide (ow < 0) = false := decide_eq_false o1
            have q2 : decide (4 ≤ ow) = false := decide_eq_false o3
            have q3 : decide (sq < 1) = false := decide_eq_false o5
            subst hR
            clear NO YES
            go_wp2_with fail
            go_ret
            exact ⟨rfl, S2.out.bel⟩
          have q1 : decide (ow < 0) = false := decide_eq_false o1
          have q2 : decide (4 ≤ ow) = false := decide_eq_false o3
          have q3 : decide (sq < 1) = false := decide_eq_false o5
          have q4 : decide (1073741824 < sq) = false := decide_eq_false o6
          have hwt : wtB y.x = vb := by
            rw [HWT.out]
            have h2 : clB ow = true := by simp [clB]; omega
            rw [h2, decide_eq_true (show 1 ≤ sq by omega), decide_eq_true (show sq ≤ 1073741824 by omega)]
            rfl
          have HWT := Lib.hid hwt
          clear o1 o3 o5 o6 hwt
          go_wp2_with fail
          refine MT.out.mono ?_
          rintro e w3 ⟨rfl, b3⟩
          have S3 := Lib.hid (S2.out.below b3)
          clear b3 MT d0 d1 d3 S2 A1
          cases vb with
          | false =>
            have hR := NO.out fun h => by have h1 := YH.out h; rw [HWT.out] at h1; exact absurd h1 (by decide)
            subst hR
            clear NO YES
            go_wp2_with fail
            go_ret
            exact ⟨rfl, S3.out.bel⟩
          | true =>
            have HB2 := Lib.hid (show ∀ (i : Nat) (y : Wtv), i < j + 1 → x.wts[i]? = some y → wtB y.x = true from fun i y hi hy => by
              rcases Nat.lt_or_ge i j with h | h
              · exact HB.out i y h hy
              · obtain rfl : i = j := by omega
                rw [HY.out] at hy
                obtain rfl := Option.some.inj hy
                exact HWT.out)
            go_wp2_with fail
            go_roundw
            case rel => exact ⟨j + 1, hlt, by go_num, S3.out, HB2.out⟩
            case measure => simp [intOf]; omega
        · obtain rfl : j = m := by omega
          have HB3 := Lib.hid (show ∀ y ∈ x.sp.wts, wtB y = true from fun y hy => by
            obtain ⟨z, hz, rfl⟩ := List.mem_map.1 hy
            obtain ⟨i, hi⟩ := List.getElem?_of_mem hz
            exact HB.out i z (by have := (List.getElem?_eq_some_iff.1 hi).1; rw [HW.out] at this; exact this) hi)
          clear HB hlt
          go_upto_region 16 with (fail)
          clear c2
          go_loopw [7] (fun t wr => ∃ j : Nat, j ≤ 4 ∧ t = .int .i64 (j : Int) ∧ SB w wr x ∧ ∀ (i : Nat) (y : Rpv), i < j → x.last[i]? = some y → y.r.cl = (i : Int) ∧ rpB y.r = true) (fun t _ => 4 - (intOf t).toNat)
          case atStart => exact ⟨0, by omega, rfl, S0.out, fun i y hi => absurd hi (by omega)⟩
          case round =>
            clear S0
            obtain ⟨j, hj, rfl, s0, hb⟩ := hrel
            have S0 := Lib.hid s0; have HB := Lib.hid hb
            clear s0 hb
            by_cases hlt : j < 4
            · obtain ⟨y, hy⟩ : ∃ y, x.last[j]? = some y := ⟨_, List.getElem?_eq_getElem (by rw [S0.out.rx.l4]; exact hlt)⟩
              obtain ⟨A, C, hsp, hAl⟩ := sv_cut hy
              have GX := Lib.hid (show Blk wr w.heap.size 29 (A ++ (pv y ++ C)) from by rw [← hsp]; exact S0.out.a)
              have HAL := Lib.hid hAl
              have FS := Lib.hid (pv_size y)
              have j1 : (j : Int) < 4 := by omega
              have HY := Lib.hid hy
              have LT := Lib.hid (reflast_t y (j : Int) wr (S0.out.rx.la y (List.mem_of_getElem? hy)))
              have YH := Lib.hid (fun h : MayS x.sp => h.la j y.r (by show (x.last.map (·.r))[j]? = _; rw [List.getElem?_map, hy]; rfl))
              clear hy hsp hAl
              obtain ⟨bb, hbb⟩ : ∃ z, ((y.r.cl == (j : Int)) && rpB y.r) = z := ⟨_, rfl⟩
              rw [hbb] at LT
              have HBB := Lib.hid hbb
              clear hbb
              go_wp2_with ((with_reducible refine load_part_gdO 141 26 (.tmp 140) w.heap.size (5 + j * 5) 29 A (pv y) C _ ?_ ?_ rfl ?_ ?_ Tryz.underlying26 ?_ ?_ ?_ ?_); exact rfl; kernel_rfl; exact GX.out; exact HAL.out.symm; exact rfl; exact FS.out; exact rfl)
              refine LT.out.mono ?_
              rintro e w2 ⟨rfl, b2⟩
              have S2 := Lib.hid (S0.out.below b2)
              clear b2 LT S0 GX
              cases bb with
              | false =>
                have hR := NO.out fun h => by have h1 := YH.out h; have h2 := HBB.out; rw [h1.1, h1.2] at h2; simp at h2
                subst hR
                clear NO YES
                go_wp2_with fail
                go_ret
                exact ⟨rfl, S2.out.bel⟩
              | true =>
                have HB2 := Lib.hid (show ∀ (i : Nat) (y : Rpv), i < j + 1 → x.last[i]? = some y → y.r.cl = (i : Int) ∧ rpB y.r = true from fun i y hi hy => by
                  rcases Nat.lt_or_ge i j with h | h
                  · exact HB.out i y h hy
                  · obtain rfl : i = j := by omega
                    rw [HY.out] at hy
                    obtain rfl := Option.some.inj hy
                    have h2 := HBB.out
                    rw [Bool.and_eq_true, beq_iff_eq] at h2
                    exact h2)
                go_wp2_with fail
                go_roundw
                case rel => exact ⟨j + 1, hlt, by go_num, S2.out, HB2.out⟩
                case measure => simp [intOf]; omega
            · obtain rfl : j = 4 := by omega
              have hR := YES.out (MayS.of GG.out.1.1 GG.out.1.2 GG.out.2.1.1 GG.out.2.1.2 GG.out.2.2.1 GG.out.2.2.2 (by show (x.its.map (·.i)).length ≤ 64; rw [List.length_map, HI.out]; omega) (by show (x.wts.map (·.x)).length ≤ 16; rw [List.length_map, HW.out]; omega) HB1.out HB3.out (fun i y hy => by
                have hy' : (x.last.map (·.r))[i]? = some y := hy
                rw [List.getElem?_map] at hy'
                obtain ⟨z, hz, rfl⟩ := Option.map_eq_some_iff.1 hy'
                exact HB.out i z (by have := (List.getElem?_eq_some_iff.1 hz).1; rw [S0.out.rx.l4] at this; exact this) hz))
              subst hR
              clear hlt
              go_wp2_with fail
              go_ret
              exact ⟨rfl, S0.out.bel⟩
end Go.Proofs.YtphgognhjdbdjaaGreatDoor
namespace Go.Proofs.YtphgognhjdbdjaaGreatDoor
open Go Go.RowKit Sh

set_option maxRecDepth 100000 in
theorem refSameReply_t (x y : Rpv) (w : World) (hx : TR w x.p x.r.t) (hy : TR w y.p y.r.t) :
    Calls Tryz.prog 89 #[.agg (pv x).toArray, .agg (pv y).toArray] w fun e w' => e = .returned (.bool (rpS x.r y.r)) ∧ Below w.heap.size w w' := by
  have BA := Lib.hid ((Blk.new w 26 (pv x)).alloc (.cells (pv y).toArray 26))
  have BB := Lib.hid (Blk.new2 w (.cells (pv x).toArray 26) 26 (pv y))
  have BW := Lib.hid (((Below.refl w.heap.size w).alloc (Nat.le_refl _) (.cells (pv x).toArray 26)).alloc (by simp) (.cells (pv y).toArray 26))
  have ST := Lib.hid (show Calls _ _ _ _ fun e w' => e = .returned (.bool (sT x.r.t y.r.t)) ∧ _ from refsame_t x.r.t.length x.c y.r.t.length y.c x.p y.p (gl x.r.t) (gl y.r.t) _ hx.n hy.n (hx.below BW.out).t (hy.below BW.out).t)
  obtain ⟨c0, c1, c2, c3, c4⟩ := pv_cells BA.out
  obtain ⟨d0, d1, d2, d3, d4⟩ := pv_cells BB.out
  have hs : rpS x.r y.r = ((x.r.cl == y.r.cl) && ((x.r.sq == y.r.sq) && ((x.r.kd == y.r.kd) && ((x.r.lt == y.r.lt) && sT x.r.t y.r.t)))) := rfl
  rw [hs]
  obtain ⟨xs, hxs⟩ : ∃ l, pv x = l := ⟨_, rfl⟩
  obtain ⟨ys, hys⟩ : ∃ l, pv y = l := ⟨_, rfl⟩
  rw [hxs, hys] at BA BB BW ST c0 c1 c2 c3 c4 d0 d1 d2 d3 d4 ⊢
  obtain ⟨s, hs⟩ : ∃ n, sT x.r.t y.r.t = n := ⟨_, rfl⟩
  rw [hs] at ST ⊢
  clear hs
  obtain ⟨p0, hp0⟩ : ∃ n, x.r.cl = n := ⟨_, rfl⟩
  rw [hp0] at c0 ⊢
  clear hp0
  obtain ⟨p1, hp1⟩ : ∃ n, x.r.sq = n := ⟨_, rfl⟩
  rw [hp1] at c1 ⊢
  clear hp1
  obtain ⟨p2, hp2⟩ : ∃ n, x.r.kd = n := ⟨_, rfl⟩
  rw [hp2] at c2 ⊢
  clear hp2
  obtain ⟨p4, hp4⟩ : ∃ n, x.r.lt = n := ⟨_, rfl⟩
  rw [hp4] at c4 ⊢
  clear hp4
  obtain ⟨q0, hq0⟩ : ∃ n, y.r.cl = n := ⟨_, rfl⟩
  rw [hq0] at d0 ⊢
  clear hq0
  obtain ⟨q1, hq1⟩ : ∃ n, y.r.sq = n := ⟨_, rfl⟩
  rw [hq1] at d1 ⊢
  clear hq1
  obtain ⟨q2, hq2⟩ : ∃ n, y.r.kd = n := ⟨_, rfl⟩
  rw [hq2] at d2 ⊢
  clear hq2
  obtain ⟨q4, hq4⟩ : ∃ n, y.r.lt = n := ⟨_, rfl⟩
  rw [hq4] at d4 ⊢
  clear hq4
  clear hx hy hs hxs hys BA BB
  cases e0 : (p0 == q0) with
  | false =>
    go_enter Tryz.func89, Tryz.ntmps89
    go_wp2_with fail
    go_ret
    exact ⟨rfl, BW.out⟩
  | true =>
  cases e1 : (p1 == q1) with
  | false =>
    go_enter Tryz.func89, Tryz.ntmps89
    go_wp2_with fail
    go_ret
    exact ⟨rfl, BW.out⟩
  | true =>
  cases e2 : (p2 == q2) with
  | false =>
    go_enter Tryz.func89, Tryz.ntmps89
    go_wp2_with fail
    go_ret
    exact ⟨rfl, BW.out⟩
  | true =>
  cases p4 <;> cases q4
  · skip
    go_enter Tryz.func89, Tryz.ntmps89
    go_wp2_with fail
    refine ST.out.mono ?_
    rintro e w2 ⟨rfl, b2⟩
    go_wp2_with fail
    go_ret
    exact ⟨rfl, BW.out.trans (b2.mono BW.out.size)⟩
  · skip
    go_enter Tryz.func89, Tryz.ntmps89
    go_wp2_with fail
    go_ret
    exact ⟨rfl, BW.out⟩
  · skip
    go_enter Tryz.func89, Tryz.ntmps89
    go_wp2_with fail
    go_ret
    exact ⟨rfl, BW.out⟩
  · skip
    go_enter Tryz.func89, Tryz.ntmps89
    go_wp2_with fail
    refine ST.out.mono ?_
    rintro e w2 ⟨rfl, b2⟩
    go_wp2_with fail
    go_ret
    exact ⟨rfl, BW.out.trans (b2.mono BW.out.size)⟩
end Go.Proofs.YtphgognhjdbdjaaGreatDoor
namespace Go.Proofs.YtphgognhjdbdjaaGreatDoor
open Go Go.RowKit Sh

theorem belk1 {b : Nat} {w W W' : World} (h : Below w.heap.size w W) (hb : w.heap.size ≤ b) (hk : Kept (fun k => k = b) W W') : Below w.heap.size w W' :=
  ⟨hk.os.trans h.os, hk.tape.trans h.tape, hk.output.trans h.output, Nat.le_trans h.size hk.size, fun k hlt => (hk.block k (Nat.lt_of_lt_of_le hlt h.size) (by omega)).trans (h.block k hlt)⟩
theorem part_rng {W : World} {g o : Nat} {T : TypeId} {A B C : List Value} (h : Blk W g T (A ++ (B ++ C))) (hl : A.length = o) : W.rangeAt g o B := fun i v hv => by
  show W.cell? ⟨g, o + i, none⟩ = some v
  rw [h.cell, List.getElem?_append_right (by omega), show o + i - A.length = i by omega, List.getElem?_append_left (List.getElem?_eq_some_iff.1 hv).1]
  exact hv
theorem lsS_ne {α : Type} {E : α → α → Bool} : ∀ {l m : List α}, l.length ≠ m.length → lsS E l m = false
  | [], [], h => absurd rfl h
  | [], _ :: _, _ => rfl
  | _ :: _, [], _ => rfl
  | a :: l, b :: m, h => by rw [lsS, lsS_ne (l := l) (m := m) (by simpa using h), Bool.and_false]
set_option maxRecDepth 100000 in
set_option maxHeartbeats 4000000 in
theorem refSameSpace_t (x y : Spv) (w : World) (hx : SpW w x) (hy : SpW w y) :
    Calls Tryz.prog 21 #[.agg (sv x).toArray, .agg (sv y).toArray] w fun e w' => e = .returned (.bool (spS x.sp y.sp)) ∧ Below w.heap.size w w' := by
  have S0 := Lib.hid (SS.new hx hy)
  have NN := Lib.hid (And.intro hx.n hx.m)
  have hf : spS x.sp y.sp = ((x.now == y.now) && ((x.rd == y.rd) && ((x.wr == y.wr) && (lsS itS x.sp.its y.sp.its && (lsS wtS x.sp.wts y.sp.wts && lsS rpS x.sp.last y.sp.last))))) := rfl
  have HS := Lib.hid hf
  have li : x.sp.its.length = x.its.length := List.length_map _
  have mi : y.sp.its.length = y.its.length := List.length_map _
  have lw : x.sp.wts.length = x.wts.length := List.length_map _
  have mw : y.sp.wts.length = y.wts.length := List.length_map _
  have LI := Lib.hid li; have MI := Lib.hid mi; have LW := Lib.hid lw; have MW := Lib.hid mw
  obtain ⟨sb, hsb⟩ : ∃ b, spS x.sp y.sp = b := ⟨_, rfl⟩
  rw [hsb] at HS ⊢
  clear hx hy hf hsb li mi lw mw
  obtain ⟨V, hV⟩ : ∃ V, (w.alloc (.cells (sv x).toArray 29)).alloc (.cells (sv y).toArray 29) = V := ⟨_, rfl⟩
  rw [hV] at S0
  go_enter Tryz.func21, Tryz.ntmps21
  go_upto_region 1 with (fail)
  clear hV
  obtain ⟨c0, c1, c2, c3, c4⟩ := sv_cells S0.out.a
  obtain ⟨d0, d1, d2, d3, d4⟩ := sv_cells S0.out.b
  cases e0 : (x.now == y.now) with
  | false =>
    have HF := Lib.hid (show sb = false from by rw [HS.out, e0, Bool.false_and])
    have e0' : (x.now != y.now) = true := by rw [bne, e0]; rfl
    go_wp2_with fail
    go_ret
    exact ⟨by rw [HF.out]; try rfl, S0.out.bel⟩
  | true =>
  have e0' : (x.now != y.now) = false := by rw [bne, e0]; rfl
  cases e1 : (x.rd == y.rd) with
  | false =>
    have HF := Lib.hid (show sb = false from by rw [HS.out, e0, e1, Bool.false_and, Bool.and_false])
    have e1' : (x.rd != y.rd) = true := by rw [bne, e1]; rfl
    go_wp2_with fail
    go_ret
    exact ⟨by rw [HF.out]; try rfl, S0.out.bel⟩
  | true =>
  have e1' : (x.rd != y.rd) = false := by rw [bne, e1]; rfl
  cases e2 : (x.wr == y.wr) with
  | false =>
    have HF := Lib.hid (show sb = false from by rw [HS.out, e0, e1, e2, Bool.false_and, Bool.and_false, Bool.and_false])
    have e2' : (x.wr != y.wr) = true := by rw [bne, e2]; rfl
    go_wp2_with fail
    go_ret
    exact ⟨by rw [HF.out]; try rfl, S0.out.bel⟩
  | true =>
  have e2' : (x.wr != y.wr) = false := by rw [bne, e2]; rfl
  have HS2 := Lib.hid (show sb = (lsS itS x.sp.its y.sp.its && (lsS wtS x.sp.wts y.sp.wts && lsS rpS x.sp.last y.sp.last)) from by rw [HS.out, e0, e1, e2, Bool.true_and, Bool.true_and, Bool.true_and])
  by_cases n1 : x.its.length = y.its.length
  case neg =>
    have HF := Lib.hid (show sb = false from by rw [HS2.out, lsS_ne (by rw [LI.out, MI.out]; exact n1), Bool.false_and])
    have e3 : ((x.its.length : Int) != (y.its.length : Int)) = true := by rw [bne_iff_ne]; omega
    go_wp2_with fail
    go_ret
    exact ⟨by rw [HF.out]; try rfl, S0.out.bel⟩
  case pos =>
  by_cases n2 : x.wts.length = y.wts.length
  case neg =>
    have HF := Lib.hid (show sb = false from by rw [HS2.out, lsS_ne (l := x.sp.wts) (by rw [LW.out, MW.out]; exact n2), Bool.false_and, Bool.and_false])
    have e3 : ((x.wts.length : Int) != (y.wts.length : Int)) = true := by rw [bne_iff_ne]; omega
    rw [← n1] at d1
    go_wp2_with fail
    go_ret
    exact ⟨by rw [HF.out]; try rfl, S0.out.bel⟩
  case pos =>
  have N1 := Lib.hid n1; have N2 := Lib.hid n2
  rw [← n1] at d1
  rw [← n2] at d2
  go_upto_region 4 with (fail)
  clear c0 c1 c2 c3 c4 d0 d1 d2 d3 d4 e0 e1 e2 e0' e1' e2' n1 n2 HS
  obtain ⟨n, hn⟩ : ∃ n, x.its.length = n := ⟨_, rfl⟩
  have HN := Lib.hid hn; have HM := Lib.hid (show y.its.length = n from by rw [← hn]; exact N1.out.symm)
  have nB : (n : Int) ≤ 9223372036854775807 := by have := NN.out.1; omega
  clear hn
  go_loopw [5] (fun t wr => ∃ j : Nat, j ≤ n ∧ t = .int .i64 (j : Int) ∧ SS w wr x y ∧ ∀ (i : Nat) (a b : It), i < j → x.sp.its[i]? = some a → y.sp.its[i]? = some b → itS a b = true) (fun t _ => n - (intOf t).toNat)
  case atStart => exact ⟨0, by omega, rfl, S0.out, fun i a b hi => absurd hi (by omega)⟩
  case round =>
    clear S0
    obtain ⟨j, hj, rfl, s0_, hb⟩ := hrel
    have S1 := Lib.hid s0_; have HB := Lib.hid hb
    clear s0_ hb
    by_cases hlt : j < n
    · obtain ⟨a, ha⟩ : ∃ a, x.its[j]? = some a := ⟨_, List.getElem?_eq_getElem (by rw [HN.out]; exact hlt)⟩
      obtain ⟨b, hb⟩ : ∃ b, y.its[j]? = some b := ⟨_, List.getElem?_eq_getElem (by rw [HM.out]; exact hlt)⟩
      obtain ⟨b1, o1, hp1, l1, r1⟩ := S1.out.rx.its j a ha
      obtain ⟨b2, o2, hp2, l2, r2⟩ := S1.out.ry.its j b hb
      have c1 := (sv_cells S1.out.a).2.1
      rw [hp1, HN.out] at c1
      have d1 := (sv_cells S1.out.b).2.1
      rw [hp2, HM.out] at d1
      have CA := Lib.hid c1; have CB := Lib.hid d1; have RA := Lib.hid r1; have RB := Lib.hid r2; have LA := Lib.hid l1; have LB := Lib.hid l2
      have TA := Lib.hid (S1.out.rx.it a (List.mem_of_getElem? ha)); have TB := Lib.hid (S1.out.ry.it b (List.mem_of_getElem? hb))
      have SA := Lib.hid (show x.sp.its[j]? = some a.i from by show (x.its.map (·.i))[j]? = _; rw [List.getElem?_map, ha]; rfl)
      have SB_ := Lib.hid (show y.sp.its[j]? = some b.i from by show (y.its.map (·.i))[j]? = _; rw [List.getElem?_map, hb]; rfl)
      have FA := Lib.hid (iv_size a); have FB := Lib.hid (iv_size b)
      have j1 : (j : Int) < (n : Int) := by omega
      have HLT := Lib.hid hlt
      clear ha hb hp1 hp2 l1 l2 r1 r2 hlt
      go_upto_region 6 with (fail)
      clear c1 d1
      go_cut [6, 7] (fun s6 s7 wx => ∃ g1 g2, s6 = .pointer (some ⟨g1, 0, none⟩) ∧ s7 = .pointer (some ⟨g2, 0, none⟩) ∧ Blk wx g1 91 (iv a) ∧ Blk wx g2 91 (iv b) ∧ Below wr.heap.size wr wx)
      case first =>
        obtain ⟨U, hU⟩ : ∃ U, wr.drew = U := ⟨_, rfl⟩
        have BU := Lib.hid (show Below wr.heap.size wr U from by rw [← hU]; exact (Below.refl _ _).drew)
        have SU := Lib.hid (fun (Y : World) (hb : Below U.heap.size U Y) => show Y.cell? ⟨w.heap.size, 1, none⟩ = some (.slice (some ⟨b1, o1, none⟩) n x.ic) ∧ Y.cell? ⟨w.heap.size + 1, 1, none⟩ = some (.slice (some ⟨b2, o2, none⟩) n y.ic) ∧ Y.rangeAt b1 (o1 + j * 3) (iv a) ∧ Y.rangeAt b2 (o2 + j * 3) (iv b) from ⟨(hb.cell (p := ⟨w.heap.size, 1, none⟩) (Nat.lt_of_lt_of_le S1.out.a.lt BU.out.size)).trans ((BU.out.cell (p := ⟨w.heap.size, 1, none⟩) S1.out.a.lt).trans CA.out), (hb.cell (p := ⟨w.heap.size + 1, 1, none⟩) (Nat.lt_of_lt_of_le S1.out.b.lt BU.out.size)).trans ((BU.out.cell (p := ⟨w.heap.size + 1, 1, none⟩) S1.out.b.lt).trans CB.out), rows_below (rows_below RA.out BU.out LA.out) hb (Nat.lt_of_lt_of_le LA.out BU.out.size), rows_below (rows_below RB.out BU.out LB.out) hb (Nat.lt_of_lt_of_le LB.out BU.out.size)⟩)
        have s0 := SU.out U (Below.refl _ _)
        refine wp_region_held (S := fun Y => Y.cell? ⟨w.heap.size, 1, none⟩ = some (.slice (some ⟨b1, o1, none⟩) n x.ic) ∧ Y.cell? ⟨w.heap.size + 1, 1, none⟩ = some (.slice (some ⟨b2, o2, none⟩) n y.ic) ∧ Y.rangeAt b1 (o1 + j * 3) (iv a) ∧ Y.rangeAt b2 (o2 + j * 3) (iv b)) (by kernel_rfl) ?_
        change wpAnyH _ _ _ _ _ _ _ _ wr.drew
        rw [hU]
        clear hU
        refine wpAnyH_take (i := 0) (v := ?_) rfl (by kernel_rfl) (by kernel_rfl) (by kernel_rfl) (fun _ _ _ h => h) (Or.inl ⟨by kernel_rfl, ?_⟩) s0 ?_
        rotate_left 1
        · (intro w hS; clear hS; go_simp; try (with_reducible rfl))
        refine wpAnyH_take (i := 1) (v := ?_) rfl (by kernel_rfl) (by kernel_rfl) (by kernel_rfl) (fun _ _ _ h => h) (Or.inl ⟨by kernel_rfl, ?_⟩) s0 ?_
        rotate_left 1
        · (intro w hS; have hs := hS.1; clear hS; go_simp; try (with_reducible rfl))
        refine wpAnyH_take (i := 2) (v := ?_) rfl (by kernel_rfl) (by kernel_rfl) (by kernel_rfl) (fun _ _ _ h => h) (Or.inl ⟨by kernel_rfl, ?_⟩) s0 ?_
        rotate_left 1
        · (intro w hS; clear hS; go_simp; try (with_reducible rfl))
        refine wpAnyH_take (i := 3) (v := ?_) rfl (by kernel_rfl) (by kernel_rfl) (by kernel_rfl) (fun _ _ _ h => h) (Or.inl ⟨by kernel_rfl, ?_⟩) s0 ?_
        rotate_left 1
        · (intro w hS; clear hS; go_simp; try (with_reducible rfl))
        refine wpAnyH_take (i := 4) (v := .agg (iv a).toArray) rfl (by kernel_rfl) (by kernel_rfl) (by kernel_rfl) (fun _ _ _ h => h) (yieldsIf_load_mid (by kernel_rfl) 91 (.tmp 59) rfl b1 (o1 + j * 3) (by go_simp) (iv a) _ (fun _ h => h.2.2.1) Tryz.underlying91 rfl (FA.out)) s0 ?_
        refine wpAnyH_take (i := 5) (v := ?_) rfl (by kernel_rfl) (by kernel_rfl) (by kernel_rfl) (fun _ _ _ h => h) (Or.inl ⟨by kernel_rfl, ?_⟩) s0 ?_
        rotate_left 1
        · (intro w hS; clear hS; go_simp; try (with_reducible rfl))
        refine wpAnyH_take (i := 6) (v := ?_) rfl (by kernel_rfl) (by kernel_rfl) (by kernel_rfl) (fun _ _ _ h => h) (Or.inl ⟨by kernel_rfl, ?_⟩) s0 ?_
        rotate_left 1
        · (intro w hS; have hs := hS.2.1; clear hS; go_simp; try (with_reducible rfl))
        refine wpAnyH_take (i := 7) (v := ?_) rfl (by kernel_rfl) (by kernel_rfl) (by kernel_rfl) (fun _ _ _ h => h) (Or.inl ⟨by kernel_rfl, ?_⟩) s0 ?_
        rotate_left 1
        · (intro w hS; clear hS; go_simp; try (with_reducible rfl))
        refine wpAnyH_take (i := 8) (v := ?_) rfl (by kernel_rfl) (by kernel_rfl) (by kernel_rfl) (fun _ _ _ h => h) (Or.inl ⟨by kernel_rfl, ?_⟩) s0 ?_
        rotate_left 1
        · (intro w hS; clear hS; go_simp; try (with_reducible rfl))
        refine wpAnyH_take (i := 9) (v := .agg (iv b).toArray) rfl (by kernel_rfl) (by kernel_rfl) (by kernel_rfl) (fun _ _ _ h => h) (yieldsIf_load_mid (by kernel_rfl) 91 (.tmp 64) rfl b2 (o2 + j * 3) (by go_simp) (iv b) _ (fun _ h => h.2.2.2) Tryz.underlying91 rfl (FB.out)) s0 ?_
        go_simp
        refine wpAnyH_ready (rs := [10, 11]) (by kernel_rfl) (by simp) ?_
        refine AllReadyH.cons rfl (fun K hK => ?_) ?_
        · skip
          have z1 := Lib.hid ((Blk.new U 91 [.int .i64 0, .int .i64 0, .slice none 0 0]).alloc (.cells #[.int .i64 0, .int .i64 0, .slice none 0 0] 91))
          have z2 := Lib.hid (Blk.new2 U (.cells #[.int .i64 0, .int .i64 0, .slice none 0 0] 91) 91 [.int .i64 0, .int .i64 0, .slice none 0 0])
          have Ba := Lib.hid ((Below.refl U.heap.size U).alloc (Nat.le_refl _) (.cells #[.int .i64 0, .int .i64 0, .slice none 0 0] 91))
          have Bb := Lib.hid (Ba.out.alloc (by simp) (.cells #[.int .i64 0, .int .i64 0, .slice none 0 0] 91))
          go_simp
          refine hK.out _ _ (SU.out _ Ba.out) (fun _ => ?_)
          clear hK K
          refine wpAnyH_ready (rs := [11]) (by kernel_rfl) (by simp) ?_
          refine AllReadyH.cons rfl (fun K hK => ?_) AllReadyH.nil
          rw [if_pos (by kernel_rfl)]
          go_simp
          refine hK.out _ _ (SU.out _ Bb.out) (fun _ => ?_)
          clear hK K
          obtain ⟨V, hV⟩ : ∃ V, (U.alloc (.cells #[.int .i64 0, .int .i64 0, .slice none 0 0] 91)).alloc (.cells #[.int .i64 0, .int .i64 0, .slice none 0 0] 91) = V := ⟨_, rfl⟩
          rw [hV] at z1 z2 Bb ⊢
          clear hV
          refine wpAnyH_ready (rs := [12]) (by kernel_rfl) (by simp) ?_
          refine AllReadyH.cons rfl (fun K hK => ?_) AllReadyH.nil
          rw [if_pos (by kernel_rfl)]
          refine wstore_part 91 (.tmp 6) (.tmp 60) (U.heap.size) 0 91 [] [.int .i64 0, .int .i64 0, .slice none 0 0] [] (iv a) rfl (by rw [List.nil_append, List.append_nil]; exact z1.out) rfl rfl FA.out (iv_oneA a) rfl rfl ?_
          intro w3 a1 a2 a3
          have A1 := Lib.hid (show Blk w3 (U.heap.size) 91 (iv a) by have := a1.out; rwa [List.nil_append, List.append_nil] at this)
          have K1 := a2.out.keptOne rfl
          have Bc := Lib.hid (belk1 Bb.out (by omega) K1)
          have Zb := Lib.hid (z2.out.kept K1 (by omega))
          refine hK.out _ _ (SU.out _ Bc.out) (fun _ => ?_)
          clear hK K a1 a2 a3
          refine wpAnyH_ready (rs := [13]) (by kernel_rfl) (by simp) ?_
          refine AllReadyH.cons rfl (fun K hK => ?_) AllReadyH.nil
          rw [if_pos (by kernel_rfl)]
          refine wstore_part 91 (.tmp 7) (.tmp 65) (U.heap.size + 1) 0 91 [] [.int .i64 0, .int .i64 0, .slice none 0 0] [] (iv b) rfl (by rw [List.nil_append, List.append_nil]; exact Zb.out) rfl rfl FB.out (iv_oneA b) rfl rfl ?_
          intro w4 a1 a2 a3
          have A2 := Lib.hid (show Blk w4 (U.heap.size + 1) 91 (iv b) by have := a1.out; rwa [List.nil_append, List.append_nil] at this)
          have K2 := a2.out.keptOne rfl
          have Bd := Lib.hid (belk1 Bc.out (by omega) K2)
          have A1x := Lib.hid (A1.out.kept K2 (by omega))
          refine hK.out _ _ (SU.out _ Bd.out) (fun _ => ?_)
          clear hK K a1 a2 a3
          refine wpAnyH_done (by kernel_rfl) ?_ _
          go_simp
          go_wp2_with fail
          go_meet
          exact ⟨U.heap.size, U.heap.size + 1, rfl, rfl, A1x.out, A2.out, BU.out.trans (Bd.out.mono BU.out.size)⟩
        · refine AllReadyH.cons rfl (fun K hK => ?_) AllReadyH.nil
          have z1 := Lib.hid ((Blk.new U 91 [.int .i64 0, .int .i64 0, .slice none 0 0]).alloc (.cells #[.int .i64 0, .int .i64 0, .slice none 0 0] 91))
          have z2 := Lib.hid (Blk.new2 U (.cells #[.int .i64 0, .int .i64 0, .slice none 0 0] 91) 91 [.int .i64 0, .int .i64 0, .slice none 0 0])
          have Ba := Lib.hid ((Below.refl U.heap.size U).alloc (Nat.le_refl _) (.cells #[.int .i64 0, .int .i64 0, .slice none 0 0] 91))
          have Bb := Lib.hid (Ba.out.alloc (by simp) (.cells #[.int .i64 0, .int .i64 0, .slice none 0 0] 91))
          go_simp
          refine hK.out _ _ (SU.out _ Ba.out) (fun _ => ?_)
          clear hK K
          refine wpAnyH_ready (rs := [10]) (by kernel_rfl) (by simp) ?_
          refine AllReadyH.cons rfl (fun K hK => ?_) AllReadyH.nil
          rw [if_pos (by kernel_rfl)]
          go_simp
          refine hK.out _ _ (SU.out _ Bb.out) (fun _ => ?_)
          clear hK K
          obtain ⟨V, hV⟩ : ∃ V, (U.alloc (.cells #[.int .i64 0, .int .i64 0, .slice none 0 0] 91)).alloc (.cells #[.int .i64 0, .int .i64 0, .slice none 0 0] 91) = V := ⟨_, rfl⟩
          rw [hV] at z1 z2 Bb ⊢
          clear hV
          refine wpAnyH_ready (rs := [12]) (by kernel_rfl) (by simp) ?_
          refine AllReadyH.cons rfl (fun K hK => ?_) AllReadyH.nil
          rw [if_pos (by kernel_rfl)]
          refine wstore_part 91 (.tmp 6) (.tmp 60) (U.heap.size + 1) 0 91 [] [.int .i64 0, .int .i64 0, .slice none 0 0] [] (iv a) rfl (by rw [List.nil_append, List.append_nil]; exact z2.out) rfl rfl FA.out (iv_oneA a) rfl rfl ?_
          intro w3 a1 a2 a3
          have A1 := Lib.hid (show Blk w3 (U.heap.size + 1) 91 (iv a) by have := a1.out; rwa [List.nil_append, List.append_nil] at this)
          have K1 := a2.out.keptOne rfl
          have Bc := Lib.hid (belk1 Bb.out (by omega) K1)
          have Zb := Lib.hid (z1.out.kept K1 (by omega))
          refine hK.out _ _ (SU.out _ Bc.out) (fun _ => ?_)
          clear hK K a1 a2 a3
          refine wpAnyH_ready (rs := [13]) (by kernel_rfl) (by simp) ?_
          refine AllReadyH.cons rfl (fun K hK => ?_) AllReadyH.nil
          rw [if_pos (by kernel_rfl)]
          refine wstore_part 91 (.tmp 7) (.tmp 65) (U.heap.size) 0 91 [] [.int .i64 0, .int .i64 0, .slice none 0 0] [] (iv b) rfl (by rw [List.nil_append, List.append_nil]; exact Zb.out) rfl rfl FB.out (iv_oneA b) rfl rfl ?_
          intro w4 a1 a2 a3
          have A2 := Lib.hid (show Blk w4 (U.heap.size) 91 (iv b) by have := a1.out; rwa [List.nil_append, List.append_nil] at this)
          have K2 := a2.out.keptOne rfl
          have Bd := Lib.hid (belk1 Bc.out (by omega) K2)
          have A1x := Lib.hid (A1.out.kept K2 (by omega))
          refine hK.out _ _ (SU.out _ Bd.out) (fun _ => ?_)
          clear hK K a1 a2 a3
          refine wpAnyH_done (by kernel_rfl) ?_ _
          go_simp
          go_wp2_with fail
          go_meet
          exact ⟨U.heap.size + 1, U.heap.size, rfl, rfl, A1x.out, A2.out, BU.out.trans (Bd.out.mono BU.out.size)⟩
      case rest =>
        obtain ⟨g1, g2, rfl, rfl, i1, i2, bz⟩ := hcut
        have S2 := Lib.hid (S1.out.below bz)
        have ST := Lib.hid (show Calls _ _ _ _ fun e w' => e = .returned (.bool (sT a.i.t b.i.t)) ∧ _ from refsame_t a.i.t.length a.c b.i.t.length b.c a.p b.p (gl a.i.t) (gl b.i.t) wc TA.out.n TB.out.n (TA.out.below bz).t (TB.out.below bz).t)
        obtain ⟨p0, p1, p2⟩ := iv_cells i1
        obtain ⟨q0, q1, q2⟩ := iv_cells i2
        have HE := Lib.hid (show itS a.i b.i = ((a.i.own == b.i.own) && ((a.i.un == b.i.un) && sT a.i.t b.i.t)) from rfl)
        have NO := Lib.hid (fun h : itS a.i b.i = false => show sb = false from by rw [HS2.out, lsS_no SA.out SB_.out h, Bool.false_and])
        obtain ⟨st, hst⟩ : ∃ z, sT a.i.t b.i.t = z := ⟨_, rfl⟩
        rw [hst] at ST HE
        clear hst
        obtain ⟨a0, h_⟩ : ∃ z, a.i.own = z := ⟨_, rfl⟩
        rw [h_] at p0 HE
        clear h_
        obtain ⟨b0, h_⟩ : ∃ z, b.i.own = z := ⟨_, rfl⟩
        rw [h_] at q0 HE
        clear h_
        obtain ⟨a1, h_⟩ : ∃ z, a.i.un = z := ⟨_, rfl⟩
        rw [h_] at p1 HE
        clear h_
        obtain ⟨b1_, h_⟩ : ∃ z, b.i.un = z := ⟨_, rfl⟩
        rw [h_] at q1 HE
        clear h_
        clear i1 i2 bz S1
        cases e0 : (a0 == b0) with
        | false =>
          have e0' : (a0 != b0) = true := by rw [bne, e0]; rfl
          have HF := Lib.hid (NO.out (by rw [HE.out, e0, Bool.false_and]))
          go_wp2_with fail
          go_ret
          exact ⟨by rw [HF.out]; try rfl, S2.out.bel⟩
        | true =>
        have e0' : (a0 != b0) = false := by rw [bne, e0]; rfl
        cases e1 : (a1 == b1_) with
        | false =>
          have e1' : (a1 != b1_) = true := by rw [bne, e1]; rfl
          have HF := Lib.hid (NO.out (by rw [HE.out, e0, e1, Bool.false_and, Bool.and_false]))
          go_wp2_with fail
          go_ret
          exact ⟨by rw [HF.out]; try rfl, S2.out.bel⟩
        | true =>
        have e1' : (a1 != b1_) = false := by rw [bne, e1]; rfl
        have HE2 := Lib.hid (show itS a.i b.i = st from by rw [HE.out, e0, e1]; cases st <;> rfl)
        clear HE
        go_wp2_with fail
        refine ST.out.mono ?_
        rintro e w2 ⟨rfl, b2w⟩
        have S3 := Lib.hid (S2.out.below b2w)
        clear b2w ST S2
        cases st with
        | false =>
          have HF := Lib.hid (NO.out HE2.out)
          go_wp2_with fail
          go_ret
          exact ⟨by rw [HF.out]; try rfl, S3.out.bel⟩
        | true =>
          have HB2 := Lib.hid (show ∀ (i : Nat) (a b : It), i < j + 1 → x.sp.its[i]? = some a → y.sp.its[i]? = some b → itS a b = true from fun i a9 b9 hi h1 h2 => by
            rcases Nat.lt_or_ge i j with h | h
            · exact HB.out i a9 b9 h h1 h2
            · obtain rfl : i = j := by omega
              obtain rfl := Option.some.inj (SA.out.symm.trans h1)
              obtain rfl := Option.some.inj (SB_.out.symm.trans h2)
              exact HE2.out)
          go_wp2_with fail
          go_roundw
          case rel => exact ⟨j + 1, HLT.out, by go_num, S3.out, HB2.out⟩
          case measure => have := HLT.out; simp [intOf]; omega
    · obtain rfl : j = n := by omega
      clear hlt
      have c1 := (sv_cells S1.out.a).2.1
      rw [HN.out] at c1
      have HS3 := Lib.hid (show sb = (lsS wtS x.sp.wts y.sp.wts && lsS rpS x.sp.last y.sp.last) from by rw [HS2.out, lsS_all (by rw [LI.out, MI.out]; exact N1.out) (fun i a b h1 h2 => HB.out i a b (by have := (List.getElem?_eq_some_iff.1 h1).1; rw [LI.out, HN.out] at this; exact this) h1 h2), Bool.true_and])
      go_upto_region 10 with (fail)
      have S0 := Lib.hid S1.out
      clear c1 S1 HB HN HM nB hj HS2
      obtain ⟨n, hn⟩ : ∃ n, x.wts.length = n := ⟨_, rfl⟩
      have HN := Lib.hid hn; have HM := Lib.hid (show y.wts.length = n from by rw [← hn]; exact N2.out.symm)
      have nB : (n : Int) ≤ 9223372036854775807 := by have := NN.out.2; omega
      clear hn
      go_loopw [8] (fun t wr => ∃ j : Nat, j ≤ n ∧ t = .int .i64 (j : Int) ∧ SS w wr x y ∧ ∀ (i : Nat) (a b : Wt), i < j → x.sp.wts[i]? = some a → y.sp.wts[i]? = some b → wtS a b = true) (fun t _ => n - (intOf t).toNat)
      case atStart => exact ⟨0, by omega, rfl, S0.out, fun i a b hi => absurd hi (by omega)⟩
      case round =>
        clear S0
        obtain ⟨j, hj, rfl, s0_, hb⟩ := hrel
        have S1 := Lib.hid s0_; have HB := Lib.hid hb
        clear s0_ hb
        by_cases hlt : j < n
        · obtain ⟨a, ha⟩ : ∃ a, x.wts[j]? = some a := ⟨_, List.getElem?_eq_getElem (by rw [HN.out]; exact hlt)⟩
          obtain ⟨b, hb⟩ : ∃ b, y.wts[j]? = some b := ⟨_, List.getElem?_eq_getElem (by rw [HM.out]; exact hlt)⟩
          obtain ⟨b1, o1, hp1, l1, r1⟩ := S1.out.rx.wts j a ha
          obtain ⟨b2, o2, hp2, l2, r2⟩ := S1.out.ry.wts j b hb
          have c1 := (sv_cells S1.out.a).2.2.1
          rw [hp1, HN.out] at c1
          have d1 := (sv_cells S1.out.b).2.2.1
          rw [hp2, HM.out] at d1
          have CA := Lib.hid c1; have CB := Lib.hid d1; have RA := Lib.hid r1; have RB := Lib.hid r2; have LA := Lib.hid l1; have LB := Lib.hid l2
          have TA := Lib.hid (S1.out.rx.wt a (List.mem_of_getElem? ha)); have TB := Lib.hid (S1.out.ry.wt b (List.mem_of_getElem? hb))
          have SA := Lib.hid (show x.sp.wts[j]? = some a.x from by show (x.wts.map (·.x))[j]? = _; rw [List.getElem?_map, ha]; rfl)
          have SB_ := Lib.hid (show y.sp.wts[j]? = some b.x from by show (y.wts.map (·.x))[j]? = _; rw [List.getElem?_map, hb]; rfl)
          have FA := Lib.hid (wv_size a); have FB := Lib.hid (wv_size b)
          have j1 : (j : Int) < (n : Int) := by omega
          have HLT := Lib.hid hlt
          clear ha hb hp1 hp2 l1 l2 r1 r2 hlt
          go_upto_region 12 with (fail)
          clear c1 d1
          go_cut [9, 10] (fun s6 s7 wx => ∃ g1 g2, s6 = .pointer (some ⟨g1, 0, none⟩) ∧ s7 = .pointer (some ⟨g2, 0, none⟩) ∧ Blk wx g1 93 (wv a) ∧ Blk wx g2 93 (wv b) ∧ Below wr.heap.size wr wx)
          case first =>
            obtain ⟨U, hU⟩ : ∃ U, wr.drew = U := ⟨_, rfl⟩
            have BU := Lib.hid (show Below wr.heap.size wr U from by rw [← hU]; exact (Below.refl _ _).drew)
            have SU := Lib.hid (fun (Y : World) (hb : Below U.heap.size U Y) => show Y.cell? ⟨w.heap.size, 2, none⟩ = some (.slice (some ⟨b1, o1, none⟩) n x.wc) ∧ Y.cell? ⟨w.heap.size + 1, 2, none⟩ = some (.slice (some ⟨b2, o2, none⟩) n y.wc) ∧ Y.rangeAt b1 (o1 + j * 4) (wv a) ∧ Y.rangeAt b2 (o2 + j * 4) (wv b) from ⟨(hb.cell (p := ⟨w.heap.size, 2, none⟩) (Nat.lt_of_lt_of_le S1.out.a.lt BU.out.size)).trans ((BU.out.cell (p := ⟨w.heap.size, 2, none⟩) S1.out.a.lt).trans CA.out), (hb.cell (p := ⟨w.heap.size + 1, 2, none⟩) (Nat.lt_of_lt_of_le S1.out.b.lt BU.out.size)).trans ((BU.out.cell (p := ⟨w.heap.size + 1, 2, none⟩) S1.out.b.lt).trans CB.out), rows_below (rows_below RA.out BU.out LA.out) hb (Nat.lt_of_lt_of_le LA.out BU.out.size), rows_below (rows_below RB.out BU.out LB.out) hb (Nat.lt_of_lt_of_le LB.out BU.out.size)⟩)
            have s0 := SU.out U (Below.refl _ _)
            refine wp_region_held (S := fun Y => Y.cell? ⟨w.heap.size, 2, none⟩ = some (.slice (some ⟨b1, o1, none⟩) n x.wc) ∧ Y.cell? ⟨w.heap.size + 1, 2, none⟩ = some (.slice (some ⟨b2, o2, none⟩) n y.wc) ∧ Y.rangeAt b1 (o1 + j * 4) (wv a) ∧ Y.rangeAt b2 (o2 + j * 4) (wv b)) (by kernel_rfl) ?_
            change wpAnyH _ _ _ _ _ _ _ _ wr.drew
            rw [hU]
            clear hU
            refine wpAnyH_take (i := 0) (v := ?_) rfl (by kernel_rfl) (by kernel_rfl) (by kernel_rfl) (fun _ _ _ h => h) (Or.inl ⟨by kernel_rfl, ?_⟩) s0 ?_
            rotate_left 1
            · (intro w hS; clear hS; go_simp; try (with_reducible rfl))
            refine wpAnyH_take (i := 1) (v := ?_) rfl (by kernel_rfl) (by kernel_rfl) (by kernel_rfl) (fun _ _ _ h => h) (Or.inl ⟨by kernel_rfl, ?_⟩) s0 ?_
            rotate_left 1
            · (intro w hS; have hs := hS.1; clear hS; go_simp; try (with_reducible rfl))
            refine wpAnyH_take (i := 2) (v := ?_) rfl (by kernel_rfl) (by kernel_rfl) (by kernel_rfl) (fun _ _ _ h => h) (Or.inl ⟨by kernel_rfl, ?_⟩) s0 ?_
            rotate_left 1
            · (intro w hS; clear hS; go_simp; try (with_reducible rfl))
            refine wpAnyH_take (i := 3) (v := ?_) rfl (by kernel_rfl) (by kernel_rfl) (by kernel_rfl) (fun _ _ _ h => h) (Or.inl ⟨by kernel_rfl, ?_⟩) s0 ?_
            rotate_left 1
            · (intro w hS; clear hS; go_simp; try (with_reducible rfl))
            refine wpAnyH_take (i := 4) (v := .agg (wv a).toArray) rfl (by kernel_rfl) (by kernel_rfl) (by kernel_rfl) (fun _ _ _ h => h) (yieldsIf_load_mid (by kernel_rfl) 93 (.tmp 96) rfl b1 (o1 + j * 4) (by go_simp) (wv a) _ (fun _ h => h.2.2.1) Tryz.underlying93 rfl (FA.out)) s0 ?_
            refine wpAnyH_take (i := 5) (v := ?_) rfl (by kernel_rfl) (by kernel_rfl) (by kernel_rfl) (fun _ _ _ h => h) (Or.inl ⟨by kernel_rfl, ?_⟩) s0 ?_
            rotate_left 1
            · (intro w hS; clear hS; go_simp; try (with_reducible rfl))
            refine wpAnyH_take (i := 6) (v := ?_) rfl (by kernel_rfl) (by kernel_rfl) (by kernel_rfl) (fun _ _ _ h => h) (Or.inl ⟨by kernel_rfl, ?_⟩) s0 ?_
            rotate_left 1
            · (intro w hS; have hs := hS.2.1; clear hS; go_simp; try (with_reducible rfl))
            refine wpAnyH_take (i := 7) (v := ?_) rfl (by kernel_rfl) (by kernel_rfl) (by kernel_rfl) (fun _ _ _ h => h) (Or.inl ⟨by kernel_rfl, ?_⟩) s0 ?_
            rotate_left 1
            · (intro w hS; clear hS; go_simp; try (with_reducible rfl))
            refine wpAnyH_take (i := 8) (v := ?_) rfl (by kernel_rfl) (by kernel_rfl) (by kernel_rfl) (fun _ _ _ h => h) (Or.inl ⟨by kernel_rfl, ?_⟩) s0 ?_
            rotate_left 1
            · (intro w hS; clear hS; go_simp; try (with_reducible rfl))
            refine wpAnyH_take (i := 9) (v := .agg (wv b).toArray) rfl (by kernel_rfl) (by kernel_rfl) (by kernel_rfl) (fun _ _ _ h => h) (yieldsIf_load_mid (by kernel_rfl) 93 (.tmp 101) rfl b2 (o2 + j * 4) (by go_simp) (wv b) _ (fun _ h => h.2.2.2) Tryz.underlying93 rfl (FB.out)) s0 ?_
            go_simp
            refine wpAnyH_ready (rs := [10, 11]) (by kernel_rfl) (by simp) ?_
            refine AllReadyH.cons rfl (fun K hK => ?_) ?_
            · skip
              have z1 := Lib.hid ((Blk.new U 93 [.int .i64 0, .int .i64 0, .bool false, .slice none 0 0]).alloc (.cells #[.int .i64 0, .int .i64 0, .bool false, .slice none 0 0] 93))
              have z2 := Lib.hid (Blk.new2 U (.cells #[.int .i64 0, .int .i64 0, .bool false, .slice none 0 0] 93) 93 [.int .i64 0, .int .i64 0, .bool false, .slice none 0 0])
              have Ba := Lib.hid ((Below.refl U.heap.size U).alloc (Nat.le_refl _) (.cells #[.int .i64 0, .int .i64 0, .bool false, .slice none 0 0] 93))
              have Bb := Lib.hid (Ba.out.alloc (by simp) (.cells #[.int .i64 0, .int .i64 0, .bool false, .slice none 0 0] 93))
              go_simp
              refine hK.out _ _ (SU.out _ Ba.out) (fun _ => ?_)
              clear hK K
              refine wpAnyH_ready (rs := [11]) (by kernel_rfl) (by simp) ?_
              refine AllReadyH.cons rfl (fun K hK => ?_) AllReadyH.nil
              rw [if_pos (by kernel_rfl)]
              go_simp
              refine hK.out _ _ (SU.out _ Bb.out) (fun _ => ?_)
              clear hK K
              obtain ⟨V, hV⟩ : ∃ V, (U.alloc (.cells #[.int .i64 0, .int .i64 0, .bool false, .slice none 0 0] 93)).alloc (.cells #[.int .i64 0, .int .i64 0, .bool false, .slice none 0 0] 93) = V := ⟨_, rfl⟩
              rw [hV] at z1 z2 Bb ⊢
              clear hV
              refine wpAnyH_ready (rs := [12]) (by kernel_rfl) (by simp) ?_
              refine AllReadyH.cons rfl (fun K hK => ?_) AllReadyH.nil
              rw [if_pos (by kernel_rfl)]
              refine wstore_part 93 (.tmp 9) (.tmp 97) (U.heap.size) 0 93 [] [.int .i64 0, .int .i64 0, .bool false, .slice none 0 0] [] (wv a) rfl (by rw [List.nil_append, List.append_nil]; exact z1.out) rfl rfl FA.out (wv_oneA a) rfl rfl ?_
              intro w3 a1 a2 a3
              have A1 := Lib.hid (show Blk w3 (U.heap.size) 93 (wv a) by have := a1.out; rwa [List.nil_append, List.append_nil] at this)
              have K1 := a2.out.keptOne rfl
              have Bc := Lib.hid (belk1 Bb.out (by omega) K1)
              have Zb := Lib.hid (z2.out.kept K1 (by omega))
              refine hK.out _ _ (SU.out _ Bc.out) (fun _ => ?_)
              clear hK K a1 a2 a3
              refine wpAnyH_ready (rs := [13]) (by kernel_rfl) (by simp) ?_
              refine AllReadyH.cons rfl (fun K hK => ?_) AllReadyH.nil
              rw [if_pos (by kernel_rfl)]
              refine wstore_part 93 (.tmp 10) (.tmp 102) (U.heap.size + 1) 0 93 [] [.int .i64 0, .int .i64 0, .bool false, .slice none 0 0] [] (wv b) rfl (by rw [List.nil_append, List.append_nil]; exact Zb.out) rfl rfl FB.out (wv_oneA b) rfl rfl ?_
              intro w4 a1 a2 a3
              have A2 := Lib.hid (show Blk w4 (U.heap.size + 1) 93 (wv b) by have := a1.out; rwa [List.nil_append, List.append_nil] at this)
              have K2 := a2.out.keptOne rfl
              have Bd := Lib.hid (belk1 Bc.out (by omega) K2)
              have A1x := Lib.hid (A1.out.kept K2 (by omega))
              refine hK.out _ _ (SU.out _ Bd.out) (fun _ => ?_)
              clear hK K a1 a2 a3
              refine wpAnyH_done (by kernel_rfl) ?_ _
              go_simp
              go_wp2_with fail
              go_meet
              exact ⟨U.heap.size, U.heap.size + 1, rfl, rfl, A1x.out, A2.out, BU.out.trans (Bd.out.mono BU.out.size)⟩
            · refine AllReadyH.cons rfl (fun K hK => ?_) AllReadyH.nil
              have z1 := Lib.hid ((Blk.new U 93 [.int .i64 0, .int .i64 0, .bool false, .slice none 0 0]).alloc (.cells #[.int .i64 0, .int .i64 0, .bool false, .slice none 0 0] 93))
              have z2 := Lib.hid (Blk.new2 U (.cells #[.int .i64 0, .int .i64 0, .bool false, .slice none 0 0] 93) 93 [.int .i64 0, .int .i64 0, .bool false, .slice none 0 0])
              have Ba := Lib.hid ((Below.refl U.heap.size U).alloc (Nat.le_refl _) (.cells #[.int .i64 0, .int .i64 0, .bool false, .slice none 0 0] 93))
              have Bb := Lib.hid (Ba.out.alloc (by simp) (.cells #[.int .i64 0, .int .i64 0, .bool false, .slice none 0 0] 93))
              go_simp
              refine hK.out _ _ (SU.out _ Ba.out) (fun _ => ?_)
              clear hK K
              refine wpAnyH_ready (rs := [10]) (by kernel_rfl) (by simp) ?_
              refine AllReadyH.cons rfl (fun K hK => ?_) AllReadyH.nil
              rw [if_pos (by kernel_rfl)]
              go_simp
              refine hK.out _ _ (SU.out _ Bb.out) (fun _ => ?_)
              clear hK K
              obtain ⟨V, hV⟩ : ∃ V, (U.alloc (.cells #[.int .i64 0, .int .i64 0, .bool false, .slice none 0 0] 93)).alloc (.cells #[.int .i64 0, .int .i64 0, .bool false, .slice none 0 0] 93) = V := ⟨_, rfl⟩
              rw [hV] at z1 z2 Bb ⊢
              clear hV
              refine wpAnyH_ready (rs := [12]) (by kernel_rfl) (by simp) ?_
              refine AllReadyH.cons rfl (fun K hK => ?_) AllReadyH.nil
              rw [if_pos (by kernel_rfl)]
              refine wstore_part 93 (.tmp 9) (.tmp 97) (U.heap.size + 1) 0 93 [] [.int .i64 0, .int .i64 0, .bool false, .slice none 0 0] [] (wv a) rfl (by rw [List.nil_append, List.append_nil]; exact z2.out) rfl rfl FA.out (wv_oneA a) rfl rfl ?_
              intro w3 a1 a2 a3
              have A1 := Lib.hid (show Blk w3 (U.heap.size + 1) 93 (wv a) by have := a1.out; rwa [List.nil_append, List.append_nil] at this)
              have K1 := a2.out.keptOne rfl
              have Bc := Lib.hid (belk1 Bb.out (by omega) K1)
              have Zb := Lib.hid (z1.out.kept K1 (by omega))
              refine hK.out _ _ (SU.out _ Bc.out) (fun _ => ?_)
              clear hK K a1 a2 a3
              refine wpAnyH_ready (rs := [13]) (by kernel_rfl) (by simp) ?_
              refine AllReadyH.cons rfl (fun K hK => ?_) AllReadyH.nil
              rw [if_pos (by kernel_rfl)]
              refine wstore_part 93 (.tmp 10) (.tmp 102) (U.heap.size) 0 93 [] [.int .i64 0, .int .i64 0, .bool false, .slice none 0 0] [] (wv b) rfl (by rw [List.nil_append, List.append_nil]; exact Zb.out) rfl rfl FB.out (wv_oneA b) rfl rfl ?_
              intro w4 a1 a2 a3
              have A2 := Lib.hid (show Blk w4 (U.heap.size) 93 (wv b) by have := a1.out; rwa [List.nil_append, List.append_nil] at this)
              have K2 := a2.out.keptOne rfl
              have Bd := Lib.hid (belk1 Bc.out (by omega) K2)
              have A1x := Lib.hid (A1.out.kept K2 (by omega))
              refine hK.out _ _ (SU.out _ Bd.out) (fun _ => ?_)
              clear hK K a1 a2 a3
              refine wpAnyH_done (by kernel_rfl) ?_ _
              go_simp
              go_wp2_with fail
              go_meet
              exact ⟨U.heap.size + 1, U.heap.size, rfl, rfl, A1x.out, A2.out, BU.out.trans (Bd.out.mono BU.out.size)⟩
          case rest =>
            obtain ⟨g1, g2, rfl, rfl, i1, i2, bz⟩ := hcut
            have S2 := Lib.hid (S1.out.below bz)
            have ST := Lib.hid (show Calls _ _ _ _ fun e w' => e = .returned (.bool (sT a.x.p b.x.p)) ∧ _ from refsame_t a.x.p.length a.c b.x.p.length b.c a.p b.p (gl a.x.p) (gl b.x.p) wc TA.out.n TB.out.n (TA.out.below bz).t (TB.out.below bz).t)
            obtain ⟨p0, p1, p2, p3⟩ := wv_cells i1
            obtain ⟨q0, q1, q2, q3⟩ := wv_cells i2
            have HE := Lib.hid (show wtS a.x b.x = ((a.x.cl == b.x.cl) && ((a.x.sq == b.x.sq) && ((a.x.tk == b.x.tk) && sT a.x.p b.x.p))) from rfl)
            have NO := Lib.hid (fun h : wtS a.x b.x = false => show sb = false from by rw [HS3.out, lsS_no SA.out SB_.out h, Bool.false_and])
            obtain ⟨st, hst⟩ : ∃ z, sT a.x.p b.x.p = z := ⟨_, rfl⟩
            rw [hst] at ST HE
            clear hst
            obtain ⟨a0, h_⟩ : ∃ z, a.x.cl = z := ⟨_, rfl⟩
            rw [h_] at p0 HE
            clear h_
            obtain ⟨b0, h_⟩ : ∃ z, b.x.cl = z := ⟨_, rfl⟩
            rw [h_] at q0 HE
            clear h_
            obtain ⟨a1, h_⟩ : ∃ z, a.x.sq = z := ⟨_, rfl⟩
            rw [h_] at p1 HE
            clear h_
            obtain ⟨b1_, h_⟩ : ∃ z, b.x.sq = z := ⟨_, rfl⟩
            rw [h_] at q1 HE
            clear h_
            obtain ⟨a2, h_⟩ : ∃ z, a.x.tk = z := ⟨_, rfl⟩
            rw [h_] at p2 HE
            clear h_
            obtain ⟨b2_, h_⟩ : ∃ z, b.x.tk = z := ⟨_, rfl⟩
            rw [h_] at q2 HE
            clear h_
            clear i1 i2 bz S1
            cases e0 : (a0 == b0) with
            | false =>
              have e0' : (a0 != b0) = true := by rw [bne, e0]; rfl
              have HF := Lib.hid (NO.out (by rw [HE.out, e0, Bool.false_and]))
              go_wp2_with fail
              go_ret
              exact ⟨by rw [HF.out]; try rfl, S2.out.bel⟩
            | true =>
            have e0' : (a0 != b0) = false := by rw [bne, e0]; rfl
            cases e1 : (a1 == b1_) with
            | false =>
              have e1' : (a1 != b1_) = true := by rw [bne, e1]; rfl
              have HF := Lib.hid (NO.out (by rw [HE.out, e0, e1, Bool.false_and, Bool.and_false]))
              go_wp2_with fail
              go_ret
              exact ⟨by rw [HF.out]; try rfl, S2.out.bel⟩
            | true =>
            have e1' : (a1 != b1_) = false := by rw [bne, e1]; rfl
            cases e2 : (a2 == b2_) with
            | false =>
              have HF := Lib.hid (NO.out (by rw [HE.out, e0, e1, e2]; rfl))
              cases a2 <;> cases b2_ <;> first | (exact absurd e2 (by decide)) | skip
              all_goals
                clear e2
                go_wp2_with fail
                go_ret
                exact ⟨by rw [HF.out]; try rfl, S2.out.bel⟩
            | true =>
            have e2' : (a2 != b2_) = false := by rw [bne, e2]; rfl
            have HE2 := Lib.hid (show wtS a.x b.x = st from by rw [HE.out, e0, e1, e2]; cases st <;> rfl)
            obtain rfl : a2 = b2_ := by simpa using e2
            clear HE e2 e2'
            cases a2
            all_goals
              go_wp2_with fail
              refine ST.out.mono ?_
              rintro e w2 ⟨rfl, b2w⟩
              have S3 := Lib.hid (S2.out.below b2w)
              clear b2w ST S2
              cases st with
              | false =>
                have HF := Lib.hid (NO.out HE2.out)
                go_wp2_with fail
                go_ret
                exact ⟨by rw [HF.out]; try rfl, S3.out.bel⟩
              | true =>
                have HB2 := Lib.hid (show ∀ (i : Nat) (a b : Wt), i < j + 1 → x.sp.wts[i]? = some a → y.sp.wts[i]? = some b → wtS a b = true from fun i a9 b9 hi h1 h2 => by
                  rcases Nat.lt_or_ge i j with h | h
                  · exact HB.out i a9 b9 h h1 h2
                  · obtain rfl : i = j := by omega
                    obtain rfl := Option.some.inj (SA.out.symm.trans h1)
                    obtain rfl := Option.some.inj (SB_.out.symm.trans h2)
                    exact HE2.out)
                go_wp2_with fail
                go_roundw
                case rel => exact ⟨j + 1, HLT.out, by go_num, S3.out, HB2.out⟩
                case measure => have := HLT.out; simp [intOf]; omega
        · obtain rfl : j = n := by omega
          clear hlt
          have c1 := (sv_cells S1.out.a).2.2.1
          rw [HN.out] at c1
          have HS4 := Lib.hid (show sb = lsS rpS x.sp.last y.sp.last from by rw [HS3.out, lsS_all (by rw [LW.out, MW.out]; exact N2.out) (fun i a b h1 h2 => HB.out i a b (by have := (List.getElem?_eq_some_iff.1 h1).1; rw [LW.out, HN.out] at this; exact this) h1 h2), Bool.true_and])
          go_upto_region 16 with (fail)
          have S0 := Lib.hid S1.out
          clear c1 S1 HB HN HM nB hj HS3
          go_loopw [11] (fun t wr => ∃ j : Nat, j ≤ 4 ∧ t = .int .i64 (j : Int) ∧ SS w wr x y ∧ ∀ (i : Nat) (a b : Rp), i < j → x.sp.last[i]? = some a → y.sp.last[i]? = some b → rpS a b = true) (fun t _ => 4 - (intOf t).toNat)
          case atStart => exact ⟨0, by omega, rfl, S0.out, fun i a b hi => absurd hi (by omega)⟩
          case round =>
            clear S0
            obtain ⟨j, hj, rfl, s0_, hb⟩ := hrel
            have S1 := Lib.hid s0_; have HB := Lib.hid hb
            clear s0_ hb
            by_cases hlt : j < 4
            · obtain ⟨a, ha⟩ : ∃ a, x.last[j]? = some a := ⟨_, List.getElem?_eq_getElem (by rw [S1.out.rx.l4]; exact hlt)⟩
              obtain ⟨b, hb⟩ : ∃ b, y.last[j]? = some b := ⟨_, List.getElem?_eq_getElem (by rw [S1.out.ry.l4]; exact hlt)⟩
              obtain ⟨A1, C1, h1, k1⟩ := sv_cut ha
              obtain ⟨A2, C2, h2, k2⟩ := sv_cut hb
              have RA := Lib.hid (part_rng (W := wr) (g := w.heap.size) (T := 29) (A := A1) (B := pv a) (C := C1) (by rw [← h1]; exact S1.out.a) k1)
              have RB := Lib.hid (part_rng (W := wr) (g := w.heap.size + 1) (T := 29) (A := A2) (B := pv b) (C := C2) (by rw [← h2]; exact S1.out.b) k2)
              have SA := Lib.hid (show x.sp.last[j]? = some a.r from by show (x.last.map (·.r))[j]? = _; rw [List.getElem?_map, ha]; rfl)
              have SB_ := Lib.hid (show y.sp.last[j]? = some b.r from by show (y.last.map (·.r))[j]? = _; rw [List.getElem?_map, hb]; rfl)
              have TA := Lib.hid (S1.out.rx.la a (List.mem_of_getElem? ha)); have TB := Lib.hid (S1.out.ry.la b (List.mem_of_getElem? hb))
              have FA := Lib.hid (pv_size a); have FB := Lib.hid (pv_size b)
              have j0 : (0 : Int) ≤ (j : Int) := by omega
              have j1 : (j : Int) < 4 := by omega
              have HLT := Lib.hid hlt
              clear ha hb h1 h2 k1 k2 hlt
              go_upto_region 18 with (fail)
              obtain ⟨U, hU⟩ : ∃ U, wr.drew = U := ⟨_, rfl⟩
              have BU := Lib.hid (show Below wr.heap.size wr U from by rw [← hU]; exact (Below.refl _ _).drew)
              have S2 := Lib.hid (S1.out.below BU.out)
              have s0 : U.rangeAt w.heap.size (5 + j * 5) (pv a) ∧ U.rangeAt (w.heap.size + 1) (5 + j * 5) (pv b) := ⟨rows_below RA.out BU.out S1.out.a.lt, rows_below RB.out BU.out S1.out.b.lt⟩
              have SR := Lib.hid (refSameReply_t a b U (TA.out.below BU.out) (TB.out.below BU.out))
              obtain ⟨rb, hrb⟩ : ∃ z, rpS a.r b.r = z := ⟨_, rfl⟩
              rw [hrb] at SR
              have HRB := Lib.hid hrb
              clear hrb
              refine wp_region_held (S := fun Y => Y.rangeAt w.heap.size (5 + j * 5) (pv a) ∧ Y.rangeAt (w.heap.size + 1) (5 + j * 5) (pv b)) (by kernel_rfl) ?_
              change wpAnyH _ _ _ _ _ _ _ _ wr.drew
              rw [hU]
              clear hU
              refine wpAnyH_take (i := 0) (v := ?_) rfl (by kernel_rfl) (by kernel_rfl) (by kernel_rfl) (fun _ _ _ h => h) (Or.inl ⟨by kernel_rfl, ?_⟩) s0 ?_
              rotate_left 1
              · (intro w hS; clear hS; go_simp; try (with_reducible rfl))
              refine wpAnyH_take (i := 1) (v := ?_) rfl (by kernel_rfl) (by kernel_rfl) (by kernel_rfl) (fun _ _ _ h => h) (Or.inl ⟨by kernel_rfl, ?_⟩) s0 ?_
              rotate_left 1
              · (intro w hS; clear hS; go_simp; try (with_reducible rfl))
              refine wpAnyH_take (i := 2) (v := ?_) rfl (by kernel_rfl) (by kernel_rfl) (by kernel_rfl) (fun _ _ _ h => h) (Or.inl ⟨by kernel_rfl, ?_⟩) s0 ?_
              rotate_left 1
              · (intro w hS; clear hS; go_simp; try (with_reducible rfl))
              refine wpAnyH_take (i := 3) (v := .agg (pv a).toArray) rfl (by kernel_rfl) (by kernel_rfl) (by kernel_rfl) (fun _ _ _ h => h) (yieldsIf_load_mid (by kernel_rfl) 26 (.tmp 136) rfl w.heap.size (5 + j * 5) (by go_simp) (pv a) _ (fun _ h => h.1) Tryz.underlying26 rfl (FA.out)) s0 ?_
              refine wpAnyH_take (i := 4) (v := ?_) rfl (by kernel_rfl) (by kernel_rfl) (by kernel_rfl) (fun _ _ _ h => h) (Or.inl ⟨by kernel_rfl, ?_⟩) s0 ?_
              rotate_left 1
              · (intro w hS; clear hS; go_simp; try (with_reducible rfl))
              refine wpAnyH_take (i := 5) (v := ?_) rfl (by kernel_rfl) (by kernel_rfl) (by kernel_rfl) (fun _ _ _ h => h) (Or.inl ⟨by kernel_rfl, ?_⟩) s0 ?_
              rotate_left 1
              · (intro w hS; clear hS; go_simp; try (with_reducible rfl))
              refine wpAnyH_take (i := 6) (v := ?_) rfl (by kernel_rfl) (by kernel_rfl) (by kernel_rfl) (fun _ _ _ h => h) (Or.inl ⟨by kernel_rfl, ?_⟩) s0 ?_
              rotate_left 1
              · (intro w hS; clear hS; go_simp; try (with_reducible rfl))
              refine wpAnyH_take (i := 7) (v := .agg (pv b).toArray) rfl (by kernel_rfl) (by kernel_rfl) (by kernel_rfl) (fun _ _ _ h => h) (yieldsIf_load_mid (by kernel_rfl) 26 (.tmp 140) rfl (w.heap.size + 1) (5 + j * 5) (by go_simp) (pv b) _ (fun _ h => h.2) Tryz.underlying26 rfl (FB.out)) s0 ?_
              go_simp
              refine wpAnyH_ready (rs := [8]) (by kernel_rfl) (by simp) ?_
              refine AllReadyH.cons rfl (fun K hK => ?_) AllReadyH.nil
              rw [if_pos (by kernel_rfl)]
              go_simp
              refine SR.out.mono ?_
              rintro e w2 ⟨rfl, b2w⟩
              have S3 := Lib.hid (S2.out.below b2w)
              have s2 : w2.rangeAt w.heap.size (5 + j * 5) (pv a) ∧ w2.rangeAt (w.heap.size + 1) (5 + j * 5) (pv b) := ⟨rows_below s0.1 b2w S2.out.a.lt, rows_below s0.2 b2w S2.out.b.lt⟩
              refine hK.out _ _ s2 (fun _ => ?_)
              clear hK K s0 b2w SR BU S1 S2
              refine wpAnyH_take (i := 9) (v := ?_) rfl (by kernel_rfl) (by kernel_rfl) (by kernel_rfl) (fun _ _ _ h => h) (Or.inl ⟨by kernel_rfl, ?_⟩) s2 ?_
              rotate_left 1
              · (intro w hS; clear hS; go_simp; try (with_reducible rfl))
              refine wpAnyH_done (by kernel_rfl) ?_ _
              go_simp
              cases rb with
              | false =>
                have HF := Lib.hid (show sb = false from by rw [HS4.out]; exact lsS_no SA.out SB_.out HRB.out)
                go_wp2_with fail
                go_ret
                exact ⟨by rw [HF.out]; try rfl, S3.out.bel⟩
              | true =>
                have HB2 := Lib.hid (show ∀ (i : Nat) (a b : Rp), i < j + 1 → x.sp.last[i]? = some a → y.sp.last[i]? = some b → rpS a b = true from fun i a9 b9 hi h1 h2 => by
                  rcases Nat.lt_or_ge i j with h | h
                  · exact HB.out i a9 b9 h h1 h2
                  · obtain rfl : i = j := by omega
                    obtain rfl := Option.some.inj (SA.out.symm.trans h1)
                    obtain rfl := Option.some.inj (SB_.out.symm.trans h2)
                    exact HRB.out)
                go_wp2_with fail
                go_roundw
                case rel => exact ⟨j + 1, HLT.out, by go_num, S3.out, HB2.out⟩
                case measure => have := HLT.out; simp [intOf]; omega
            · obtain rfl : j = 4 := by omega
              clear hlt
              have HF := Lib.hid (show sb = true from by
                have lx : x.sp.last.length = 4 := by rw [show x.sp.last.length = x.last.length from List.length_map _]; exact S1.out.rx.l4
                have ly : y.sp.last.length = 4 := by rw [show y.sp.last.length = y.last.length from List.length_map _]; exact S1.out.ry.l4
                rw [HS4.out]
                exact lsS_all (by rw [lx, ly]) (fun i a b h1 h2 => HB.out i a b (by have := (List.getElem?_eq_some_iff.1 h1).1; rw [lx] at this; exact this) h1 h2))
              go_wp2_with fail
              go_ret
              exact ⟨by rw [HF.out]; try rfl, S1.out.bel⟩
end Go.Proofs.YtphgognhjdbdjaaGreatDoor
namespace Go.Proofs.YtphgognhjdbdjaaGreatDoor
open Go Go.RowKit Sh

theorem few_smallA {y : Rv} (h : fewR y = true) : y.r.n ≤ 1000 ∧ y.r.m ≤ 1000 := by
  unfold fewR fewL at h
  simp only [Bool.and_eq_true, decide_eq_true_eq] at h
  omega
def zFw : Nat → Fld := fun _ => f0
theorem built_few4 (p : Option Addr) (n c : Nat) (F G : Nat → Fld) : Tryz.prog.built 64 [(4, .slice p n c)] = some (rv ⟨⟨0, 0, 0, 0, 0, F, n, G⟩, none, 0, p, c⟩).toArray := by kernel_rfl
theorem built_few3 (p : Option Addr) (n c : Nat) (F G : Nat → Fld) : Tryz.prog.built 64 [(3, .slice p n c)] = some (rv ⟨⟨0, 0, 0, 0, n, G, 0, F⟩, p, c, none, 0⟩).toArray := by kernel_rfl
set_option maxRecDepth 100000 in
set_option maxHeartbeats 2000000 in
theorem fewS_t (x : Spv) (w : World) (hx : SpW w x) :
    Calls Tryz.prog 11 #[.agg (sv x).toArray] w fun e w' => ∃ b, e = .returned (.bool b) ∧ (b = true → Small x.sp) ∧ Below w.heap.size w w' := by
  have S0 := Lib.hid (SB.new hx)
  have HN := Lib.hid (And.intro hx.n hx.m)
  clear hx
  go_enter Tryz.func11, Tryz.ntmps11
  go_upto_region 1 with (fail)
  change Code.wp _ _ _ _ (w.alloc (.cells (sv x).toArray 29))
  obtain ⟨V, hV⟩ : ∃ V, w.alloc (.cells (sv x).toArray 29) = V := ⟨_, rfl⟩
  rw [hV] at S0 ⊢
  clear hV
  by_cases h1 : 100 < x.its.length
  · have c1 := (sv_cells S0.out.a).2.1
    have e1 : decide ((100 : Int) < (x.its.length : Int)) = true := decide_eq_true (by omega)
    go_wp2_with fail
    go_ret
    exact ⟨false, rfl, (fun h => by cases h), S0.out.bel⟩
  by_cases h2 : 100 < x.wts.length
  · have c1 := (sv_cells S0.out.a).2.1
    have c2 := (sv_cells S0.out.a).2.2.1
    have e1 : decide ((100 : Int) < (x.wts.length : Int)) = true := decide_eq_true (by omega)
    go_wp2_with fail
    go_ret
    exact ⟨false, rfl, (fun h => by cases h), S0.out.bel⟩
  have c1 := (sv_cells S0.out.a).2.1
  have c2 := (sv_cells S0.out.a).2.2.1
  have H1 := Lib.hid h1; have H2 := Lib.hid h2
  go_upto_region 4 with (fail)
  clear c1 c2 h1 h2
  obtain ⟨ip, hip⟩ : ∃ p, x.ip = p := ⟨_, rfl⟩
  obtain ⟨n, hn⟩ : ∃ n, x.its.length = n := ⟨_, rfl⟩
  have HL := Lib.hid hn; have HIP := Lib.hid hip
  have nB : (n : Int) ≤ 9223372036854775807 := by have := HN.out.1; omega
  clear hip hn
  go_loopw [3] (fun t wr => ∃ j : Nat, j ≤ n ∧ t = .int .i64 (j : Int) ∧ SB w wr x ∧ ∀ y, y ∈ x.its.take j → y.i.t.length ≤ 1000) (fun t _ => n - (intOf t).toNat)
  case atStart => exact ⟨0, by omega, rfl, S0.out, fun y hy => by simp at hy⟩
  case round =>
    clear S0
    obtain ⟨j, hj, rfl, s0, hb⟩ := hrel
    have S0 := Lib.hid s0; have HB := Lib.hid hb
    clear s0 hb
    have c1 := (sv_cells S0.out.a).2.1
    rw [HIP.out, HL.out] at c1
    by_cases hlt : j < n
    · obtain ⟨y, hy⟩ : ∃ y, x.its[j]? = some y := ⟨_, List.getElem?_eq_getElem (by rw [HL.out]; exact hlt)⟩
      obtain ⟨b, o, hpe, hbl, rg⟩ := S0.out.rx.its j y hy
      obtain rfl : ip = some ⟨b, o, none⟩ := HIP.out.symm.trans hpe
      have y0 : wr.cell? ⟨b, o + j * 3 + 2, none⟩ = some (.slice y.p y.i.t.length y.c) := rg 2 _ rfl
      have j1 : (j : Int) < (n : Int) := by omega
      have TY := Lib.hid (S0.out.rx.it y (List.mem_of_getElem? hy))
      have RZ := Lib.hid (show RvW wr (⟨⟨0, 0, 0, 0, 0, zFw, y.i.t.length, gl y.i.t⟩, none, 0, y.p, y.c⟩ : Rv) from ⟨fun j hj => absurd hj (Nat.not_lt_zero j), TY.out.t, Nat.zero_le _, TY.out.n⟩)
      have LZ := Lib.hid (show fewR (⟨⟨0, 0, 0, 0, 0, zFw, y.i.t.length, gl y.i.t⟩, none, 0, y.p, y.c⟩ : Rv) = true → y.i.t.length ≤ 1000 from fun h => by have := few_smallA h; exact this.2)
      have FW := Lib.hid (fewR_t (⟨⟨0, 0, 0, 0, 0, zFw, y.i.t.length, gl y.i.t⟩, none, 0, y.p, y.c⟩ : Rv) wr RZ.out)
      have BT := built_few4 y.p y.i.t.length y.c zFw (gl y.i.t)
      obtain ⟨bb, hbb⟩ : ∃ b, fewR (⟨⟨0, 0, 0, 0, 0, zFw, y.i.t.length, gl y.i.t⟩, none, 0, y.p, y.c⟩ : Rv) = b := ⟨_, rfl⟩
      rw [hbb] at FW LZ
      have TK := Lib.hid (take_snoc hy)
      clear hbb hy rg hbl hpe
      go_wp2_with fail
      refine FW.out.mono ?_
      rintro e w2 ⟨rfl, b2⟩
      have S2 := Lib.hid (S0.out.below b2)
      clear b2 FW S0 c1 y0 BT
      cases bb with
      | false =>
        go_wp2_with fail
        go_ret
        exact ⟨false, rfl, (fun h => by cases h), S2.out.bel⟩
      | true =>
        have HB2 := Lib.hid (show ∀ v, v ∈ x.its.take (j + 1) → v.i.t.length ≤ 1000 from fun v hv => by
          rw [TK.out] at hv
          rcases List.mem_append.1 hv with h | h
          · exact HB.out v h
          · rw [List.mem_singleton.1 h]; exact LZ.out rfl)
        go_wp2_with fail
        go_roundw
        case rel => exact ⟨j + 1, hlt, by go_num, S2.out, HB2.out⟩
        case measure => simp [intOf]; omega
    · obtain rfl : j = n := by omega
      have A_its := Lib.hid (show ∀ y ∈ x.its, y.i.t.length ≤ 1000 from fun y hy => HB.out y (by rw [← HL.out, List.take_length]; exact hy))
      clear hlt
      go_upto_region 9 with (fail)
      clear c1 HB HL HIP nB hj
      obtain ⟨ip, hip⟩ : ∃ p, x.wp = p := ⟨_, rfl⟩
      obtain ⟨n, hn⟩ : ∃ n, x.wts.length = n := ⟨_, rfl⟩
      have HL := Lib.hid hn; have HIP := Lib.hid hip
      have nB : (n : Int) ≤ 9223372036854775807 := by have := HN.out.2; omega
      clear hip hn
      go_loopw [4] (fun t wr => ∃ j : Nat, j ≤ n ∧ t = .int .i64 (j : Int) ∧ SB w wr x ∧ ∀ y, y ∈ x.wts.take j → y.x.p.length ≤ 1000) (fun t _ => n - (intOf t).toNat)
      case atStart => exact ⟨0, by omega, rfl, S0.out, fun y hy => by simp at hy⟩
      case round =>
        clear S0
        obtain ⟨j, hj, rfl, s0, hb⟩ := hrel
        have S0 := Lib.hid s0; have HB := Lib.hid hb
        clear s0 hb
        have c1 := (sv_cells S0.out.a).2.2.1
        rw [HIP.out, HL.out] at c1
        by_cases hlt : j < n
        · obtain ⟨y, hy⟩ : ∃ y, x.wts[j]? = some y := ⟨_, List.getElem?_eq_getElem (by rw [HL.out]; exact hlt)⟩
          obtain ⟨b, o, hpe, hbl, rg⟩ := S0.out.rx.wts j y hy
          obtain rfl : ip = some ⟨b, o, none⟩ := HIP.out.symm.trans hpe
          have y0 : wr.cell? ⟨b, o + j * 4 + 3, none⟩ = some (.slice y.p y.x.p.length y.c) := rg 3 _ rfl
          have j1 : (j : Int) < (n : Int) := by omega
          have TY := Lib.hid (S0.out.rx.wt y (List.mem_of_getElem? hy))
          have RZ := Lib.hid (show RvW wr (⟨⟨0, 0, 0, 0, y.x.p.length, gl y.x.p, 0, zFw⟩, y.p, y.c, none, 0⟩ : Rv) from ⟨TY.out.t, fun j hj => absurd hj (Nat.not_lt_zero j), TY.out.n, Nat.zero_le _⟩)
          have LZ := Lib.hid (show fewR (⟨⟨0, 0, 0, 0, y.x.p.length, gl y.x.p, 0, zFw⟩, y.p, y.c, none, 0⟩ : Rv) = true → y.x.p.length ≤ 1000 from fun h => by have := few_smallA h; exact this.1)
          have FW := Lib.hid (fewR_t (⟨⟨0, 0, 0, 0, y.x.p.length, gl y.x.p, 0, zFw⟩, y.p, y.c, none, 0⟩ : Rv) wr RZ.out)
          have BT := built_few3 y.p y.x.p.length y.c zFw (gl y.x.p)
          obtain ⟨bb, hbb⟩ : ∃ b, fewR (⟨⟨0, 0, 0, 0, y.x.p.length, gl y.x.p, 0, zFw⟩, y.p, y.c, none, 0⟩ : Rv) = b := ⟨_, rfl⟩
          rw [hbb] at FW LZ
          have TK := Lib.hid (take_snoc hy)
          clear hbb hy rg hbl hpe
          go_wp2_with fail
          refine FW.out.mono ?_
          rintro e w2 ⟨rfl, b2⟩
          have S2 := Lib.hid (S0.out.below b2)
          clear b2 FW S0 c1 y0 BT
          cases bb with
          | false =>
            go_wp2_with fail
            go_ret
            exact ⟨false, rfl, (fun h => by cases h), S2.out.bel⟩
          | true =>
            have HB2 := Lib.hid (show ∀ v, v ∈ x.wts.take (j + 1) → v.x.p.length ≤ 1000 from fun v hv => by
              rw [TK.out] at hv
              rcases List.mem_append.1 hv with h | h
              · exact HB.out v h
              · rw [List.mem_singleton.1 h]; exact LZ.out rfl)
            go_wp2_with fail
            go_roundw
            case rel => exact ⟨j + 1, hlt, by go_num, S2.out, HB2.out⟩
            case measure => simp [intOf]; omega
        · obtain rfl : j = n := by omega
          have A_wts := Lib.hid (show ∀ y ∈ x.wts, y.x.p.length ≤ 1000 from fun y hy => HB.out y (by rw [← HL.out, List.take_length]; exact hy))
          clear hlt
          go_upto_region 14 with (fail)
          clear c1 HB HL HIP nB hj
          go_loopw [5] (fun t wr => ∃ j : Nat, j ≤ 4 ∧ t = .int .i64 (j : Int) ∧ SB w wr x ∧ ∀ y, y ∈ x.last.take j → y.r.t.length ≤ 1000) (fun t _ => 4 - (intOf t).toNat)
          case atStart => exact ⟨0, by omega, rfl, S0.out, fun y hy => by simp at hy⟩
          case round =>
            clear S0
            obtain ⟨j, hj, rfl, s0, hb⟩ := hrel
            have S0 := Lib.hid s0; have HB := Lib.hid hb
            clear s0 hb
            by_cases hlt : j < 4
            · obtain ⟨y, hy⟩ : ∃ y, x.last[j]? = some y := ⟨_, List.getElem?_eq_getElem (by rw [S0.out.rx.l4]; exact hlt)⟩
              obtain ⟨A1, C1, h1, k1⟩ := sv_cut hy
              have RG := part_rng (W := wr) (g := w.heap.size) (T := 29) (A := A1) (B := pv y) (C := C1) (by rw [← h1]; exact S0.out.a) k1
              have y0 : wr.cell? ⟨w.heap.size, 5 + j * 5 + 3, none⟩ = some (.slice y.p y.r.t.length y.c) := RG 3 _ rfl
              have j0 : (0 : Int) ≤ (j : Int) := by omega
              have j1 : (j : Int) < 4 := by omega
              have TY := Lib.hid (S0.out.rx.la y (List.mem_of_getElem? hy))
              have RZ := Lib.hid (show RvW wr (⟨⟨0, 0, 0, 0, 0, zFw, y.r.t.length, gl y.r.t⟩, none, 0, y.p, y.c⟩ : Rv) from ⟨fun j hj => absurd hj (Nat.not_lt_zero j), TY.out.t, Nat.zero_le _, TY.out.n⟩)
              have LZ := Lib.hid (show fewR (⟨⟨0, 0, 0, 0, 0, zFw, y.r.t.length, gl y.r.t⟩, none, 0, y.p, y.c⟩ : Rv) = true → y.r.t.length ≤ 1000 from fun h => by have := few_smallA h; exact this.2)
              have FW := Lib.hid (fewR_t (⟨⟨0, 0, 0, 0, 0, zFw, y.r.t.length, gl y.r.t⟩, none, 0, y.p, y.c⟩ : Rv) wr RZ.out)
              have BT := built_few4 y.p y.r.t.length y.c zFw (gl y.r.t)
              obtain ⟨bb, hbb⟩ : ∃ b, fewR (⟨⟨0, 0, 0, 0, 0, zFw, y.r.t.length, gl y.r.t⟩, none, 0, y.p, y.c⟩ : Rv) = b := ⟨_, rfl⟩
              rw [hbb] at FW LZ
              have TK := Lib.hid (take_snoc hy)
              clear hbb hy h1 k1 RG
              go_wp2_with fail
              refine FW.out.mono ?_
              rintro e w2 ⟨rfl, b2⟩
              have S2 := Lib.hid (S0.out.below b2)
              clear b2 FW S0 y0 BT
              cases bb with
              | false =>
                go_wp2_with fail
                go_ret
                exact ⟨false, rfl, (fun h => by cases h), S2.out.bel⟩
              | true =>
                have HB2 := Lib.hid (show ∀ v, v ∈ x.last.take (j + 1) → v.r.t.length ≤ 1000 from fun v hv => by
                  rw [TK.out] at hv
                  rcases List.mem_append.1 hv with h | h
                  · exact HB.out v h
                  · rw [List.mem_singleton.1 h]; exact LZ.out rfl)
                go_wp2_with fail
                go_roundw
                case rel => exact ⟨j + 1, hlt, by go_num, S2.out, HB2.out⟩
                case measure => simp [intOf]; omega
            · obtain rfl : j = 4 := by omega
              have A_l := Lib.hid (show ∀ y ∈ x.last, y.r.t.length ≤ 1000 from fun y hy => HB.out y (by rw [← S0.out.rx.l4, List.take_length]; exact hy))
              have SML := Lib.hid (show Small x.sp from by
                refine ⟨by rw [show x.sp.its.length = x.its.length from List.length_map _]; have := H1.out; omega, fun y hy => ?_, by rw [show x.sp.wts.length = x.wts.length from List.length_map _]; have := H2.out; omega, fun y hy => ?_, fun y hy => ?_⟩
                · obtain ⟨v, hv, rfl⟩ := List.mem_map.1 hy; exact A_its.out v hv
                · obtain ⟨v, hv, rfl⟩ := List.mem_map.1 hy; exact A_wts.out v hv
                · obtain ⟨v, hv, rfl⟩ := List.mem_map.1 hy; exact A_l.out v hv)
              clear hlt
              go_wp2_with fail
              go_ret
              exact ⟨true, rfl, (fun _ => SML.out), S0.out.bel⟩
end Go.Proofs.YtphgognhjdbdjaaGreatDoor
