/-
  THE REFERENCE OF CHAPTER 3: Cat, front, Chains, shift, code, coef.
-/
import Derived.Test.YtahghfjjpbjemaaDoorOtArgs
import Derived.Test.YtahghfjjpbjemaaDoorOtH
import Derived.Test.YtahghfjjpbjemaaDoorRefP
import Derived.Test.YtahghfjjpbjemaaDoorRefS
namespace Go.Proofs.YtahghfjjpbjemaaDoor
open Go Go.RowKit Sh

/-- A fresh row, opened. -/
theorem fresh_op {w w' : World} {v : Value} {l : List Nat} (h : Fresh 5 w w' v l) : ∃ A c, v = .slice A l.length c ∧ l.length ≤ c ∧ Sr w' A l ∧ Below w.heap.size w w' := by
  obtain ⟨A, c, rfl, hc⟩ := own_form h.1
  exact ⟨A, c, rfl, hc, Sr.of_own h.1, h.2⟩
/-- A slice of bytes as Cat takes it: its address, its capacity, what it reads as. -/
structure Part where
  A : Option Addr
  c : Nat
  X : List Nat
def partsV (l : List Part) : List Value := l.map fun x => .slice x.A x.X.length x.c
def catX (l : List Part) : List Nat := l.flatMap (·.X)
theorem catX_le (l : List Part) (k : Nat) : (catX (l.take k)).length ≤ (catX l).length := by
  conv => rhs; rw [← List.take_append_drop k l]
  unfold catX
  rw [List.flatMap_append, List.length_append]
  omega
theorem catX_succ (l : List Part) (k : Nat) (x : Part) (h : l[k]? = some x) : catX (l.take (k + 1)) = catX (l.take k) ++ x.X := by
  obtain ⟨hk, rfl⟩ := List.getElem?_eq_some_iff.1 h
  unfold catX
  rw [List.take_succ_eq_append_getElem hk, List.flatMap_append, List.flatMap_cons, List.flatMap_nil, List.append_nil]
set_option maxHeartbeats 400000 in
theorem cat_t (l : List Part) (g n c : Nat) (t : TypeId) (w : World) (hn : l.length = n) (hb : Blk w g t (partsV l)) (hr : ∀ x, x ∈ l → Sr w x.A x.X) (hl : (catX l).length ≤ 1000000) (hn2 : n ≤ 100) :
    Calls Tryd.prog 72 #[.slice (some ⟨g, 0, none⟩) n c] w fun e w' => ∃ v, e = .returned v ∧ Fresh 5 w w' v (catX l) := by
  have HB := Lib.hid hb; have HR := Lib.hid hr; have HL := Lib.hid hl; have HN := Lib.hid hn
  have n1 : (n : Int) ≤ 100 := by omega
  clear hb hr hl hn
  go_enter Tryd.func72, Tryd.ntmps72
  go_wp2_with fail
  go_loopw [3, 4] (fun o i wr => ∃ k : Nat, k ≤ n ∧ i = .int .i64 k ∧ wr.ownsRow w.heap.size 5 1 o (catX (l.take k)).length (u8s (catX (l.take k))) ∧ Below w.heap.size w wr) (fun _ i _ => n - (intOf i).toNat)
  case atStart => exact ⟨0, by omega, rfl, by simpa [catX] using nil_own _ _, Below.refl _ _⟩
  case round =>
    obtain ⟨k, hk, rfl, ho, hb⟩ := hrel
    by_cases hlt : k < n
    · obtain ⟨x, hx⟩ : ∃ x, l[k]? = some x := ⟨_, List.getElem?_eq_getElem (by rw [HN.out]; exact hlt)⟩
      have hs := (HR.out x (List.mem_of_getElem? hx)).below hb
      have h1 := catX_succ l k x hx
      have h2 : (catX (l.take k)).length + x.X.length ≤ 1000000 := by
        have := catX_le l (k + 1)
        rw [h1, List.length_append] at this
        exact Nat.le_trans this HL.out
      have c0 : wr.cell? ⟨g, k, none⟩ = some (.slice x.A x.X.length x.c) := by
        refine (hb.cell (p := ⟨g, k, none⟩) HB.out.lt).trans ?_
        rw [HB.out.cell]; simp [partsV, hx]
      obtain ⟨A, cx, X⟩ := x
      simp only [] at hs h1 h2 c0
      obtain ⟨Y, hY⟩ : ∃ Y, catX (l.take k) = Y := ⟨_, rfl⟩
      rw [hY] at ho h1 h2
      have HO := Lib.hid ho; have HW := Lib.hid hb; have HS := Lib.hid hs; have H1 := Lib.hid h1
      clear ho hb hs h1 hx hY
      go_wp2_with ((with_reducible refine at_op (.call { callee := .builtin .append, args := #[.tmp 11, .tmp 15], argTypes := #[34, 34] }) rfl ?_); refine append_bytes (.tmp 11) (.tmp 15) 34 rfl rfl 5 Tryd.underlying34 byte_info w.heap.size _ Y.length Y X rfl HO.out A X.length cx rfl rfl HS.out (by omega) HW.out.size ?_; intro v2 w2 a1 a2 a3)
      go_roundw
      case rel =>
        refine ⟨k + 1, by omega, by go_num, ?_, HW.out.grown a2.out HW.out.size fun i e => (HO.out.lt i e).1⟩
        rw [H1.out, List.length_append]
        exact a1.out
      case measure => simp [intOf]; omega
    · obtain rfl : k = n := by omega
      rw [List.take_of_length_le (by rw [HN.out]; exact Nat.le_refl _)] at ho
      have HO := Lib.hid ho; have HW := Lib.hid hb
      clear ho hb
      go_wp2_with fail
      go_ret
      exact ⟨_, rfl, HO.out, HW.out⟩
def frontN (I : List Nat) (q : Nat) : List Nat := I ++ beN q 4
theorem frontN_length (I : List Nat) (q : Nat) (hI : I.length = 16) : (frontN I q).length = 20 := by simp [frontN, beN_length, hI]
set_option maxRecDepth 100000 in
set_option maxHeartbeats 400000 in
theorem front_t (I : List Nat) (q : Nat) (w : World) (hI : I.length = 16) (hq : q < 1000) :
    Calls Tryd.prog 73 #[.agg (u8s I).toArray, .int .i64 (q : Int)] w fun e w' => ∃ v, e = .returned v ∧ Fresh 5 w w' v (frontN I q) := by
  have HI := Lib.hid hI
  have q1 : (0 : Int) ≤ q := by omega
  have q2 : (q : Int) < 1000 := by omega
  have B0 := Lib.hid (((Below.refl w.heap.size w).alloc (Nat.le_refl _) (.cells (u8s I).toArray 31)).alloc (by simp) (.cells #[] 5))
  have SI := Lib.hid (Sr.of_blk (xs := I) (rest := []) ((Blk.new w 31 (u8s I)).alloc (.cells #[] 5)) (by simp))
  clear hI
  go_enter Tryd.func73, Tryd.ntmps73
  go_wp2_with ((with_reducible refine at_op (.call { callee := .builtin .append, args := #[.tmp 5, .tmp 6], argTypes := #[34, 34] }) rfl ?_); go_must (refine append_bytes (.tmp 5) (.tmp 6) 34 rfl rfl 5 Tryd.underlying34 byte_info w.heap.size (.slice (some ⟨w.heap.size + 1, 0, none⟩) 0 0) 0 [] I rfl (own_empty _ _ _ (by simp) (by simp)) (some ⟨w.heap.size, 0, none⟩) 16 16 rfl HI.out SI.out (by omega) (by simp; omega) ?_); intro v1 w1 a1 a2 a3)
  have b1 : Below w.heap.size w w1 := B0.out.grown a2.out B0.out.size (fun k e => by have := Option.some.inj e; simp at this; omega)
  have o1 := a1.out
  rw [List.nil_append, Nat.zero_add] at o1
  have B1 := Lib.hid b1; have O1 := Lib.hid o1
  clear b1 o1 a1 a2 a3 B0 SI
  refine (refnum_t q 4 w1 (by decide) (by decide)).mono ?_
  rintro e w2 ⟨u, rfl, f2⟩
  obtain ⟨A, c, rfl, hc, sr, b2⟩ := fresh_op f2
  rw [beN_length] at hc ⊢
  have O2 := Lib.hid (own_below O1.out b2); have S2 := Lib.hid sr; have B2 := Lib.hid (B1.out.trans (b2.mono B1.out.size))
  clear f2 hc sr b2 O1 B1
  go_wp2_with ((with_reducible refine at_op (.call { callee := .builtin .append, args := #[.tmp 7, .tmp 10], argTypes := #[34, 34] }) rfl ?_); refine append_bytes (.tmp 7) (.tmp 10) 34 rfl rfl 5 Tryd.underlying34 byte_info w.heap.size v1 16 I (beN q 4) rfl O2.out A 4 c rfl (beN_length _ _) S2.out (by omega) B2.out.size ?_; intro v3 w3 a1 a2 a3)
  go_ret
  refine ⟨v3, rfl, ?_, B2.out.grown a2.out B2.out.size fun k e => (O2.out.lt k e).1⟩
  rw [frontN_length I q HI.out]
  exact a1.out
theorem refchains_t (i : Nat) (hi : i < 4) (w : World) : Calls Tryd.prog 10 #[.int .i64 ((kd i).w : Int)] w fun e w' => e = .returned (.int .i64 ((kd i).p : Int)) ∧ w = w' := by
  have : i = 0 ∨ i = 1 ∨ i = 2 ∨ i = 3 := by omega
  rcases this with rfl | rfl | rfl | rfl
  · change Calls Tryd.prog 10 #[.int .i64 1] w _
    go_enter Tryd.func10, Tryd.ntmps10
    go_wp2
    go_ret
    exact ⟨rfl, rfl⟩
  · change Calls Tryd.prog 10 #[.int .i64 2] w _
    go_enter Tryd.func10, Tryd.ntmps10
    go_wp2
    go_ret
    exact ⟨rfl, rfl⟩
  · change Calls Tryd.prog 10 #[.int .i64 4] w _
    go_enter Tryd.func10, Tryd.ntmps10
    go_wp2
    go_ret
    exact ⟨rfl, rfl⟩
  · change Calls Tryd.prog 10 #[.int .i64 8] w _
    go_enter Tryd.func10, Tryd.ntmps10
    go_wp2
    go_ret
    exact ⟨rfl, rfl⟩
theorem refchains_no (n : Int) (w : World) (h : ∀ i, i < 4 → n ≠ ((kd i).w : Int)) : Calls Tryd.prog 10 #[.int .i64 n] w fun e w' => e = .returned (.int .i64 0) ∧ w = w' := by
  have t1 : (n == 1) = false := beq_eq_false_iff_ne.2 (h 0 (by decide))
  have t2 : (n == 2) = false := beq_eq_false_iff_ne.2 (h 1 (by decide))
  have t4 : (n == 4) = false := beq_eq_false_iff_ne.2 (h 2 (by decide))
  have t8 : (n == 8) = false := beq_eq_false_iff_ne.2 (h 3 (by decide))
  clear h
  go_enter Tryd.func10, Tryd.ntmps10
  go_wp2
  go_ret
  exact ⟨rfl, rfl⟩
theorem refshift_t (i : Nat) (hi : i < 4) (w : World) : Calls Tryd.prog 33 #[.int .i64 ((kd i).w : Int)] w fun e w' => e = .returned (.int .u64 ((kd i).ls : Int)) ∧ w = w' := by
  have : i = 0 ∨ i = 1 ∨ i = 2 ∨ i = 3 := by omega
  rcases this with rfl | rfl | rfl | rfl
  · change Calls Tryd.prog 33 #[.int .i64 1] w _
    go_enter Tryd.func33, Tryd.ntmps33
    go_wp2
    go_ret
    exact ⟨rfl, rfl⟩
  · change Calls Tryd.prog 33 #[.int .i64 2] w _
    go_enter Tryd.func33, Tryd.ntmps33
    go_wp2
    go_ret
    exact ⟨rfl, rfl⟩
  · change Calls Tryd.prog 33 #[.int .i64 4] w _
    go_enter Tryd.func33, Tryd.ntmps33
    go_wp2
    go_ret
    exact ⟨rfl, rfl⟩
  · change Calls Tryd.prog 33 #[.int .i64 8] w _
    go_enter Tryd.func33, Tryd.ntmps33
    go_wp2
    go_ret
    exact ⟨rfl, rfl⟩
theorem refcode_t (i : Nat) (hi : i < 4) (w : World) : Calls Tryd.prog 49 #[.int .i64 ((kd i).w : Int)] w fun e w' => e = .returned (.int .u64 ((kd i).code : Int)) ∧ w = w' := by
  have : i = 0 ∨ i = 1 ∨ i = 2 ∨ i = 3 := by omega
  rcases this with rfl | rfl | rfl | rfl
  · change Calls Tryd.prog 49 #[.int .i64 1] w _
    go_enter Tryd.func49, Tryd.ntmps49
    go_wp2
    go_ret
    exact ⟨rfl, rfl⟩
  · change Calls Tryd.prog 49 #[.int .i64 2] w _
    go_enter Tryd.func49, Tryd.ntmps49
    go_wp2
    go_ret
    exact ⟨rfl, rfl⟩
  · change Calls Tryd.prog 49 #[.int .i64 4] w _
    go_enter Tryd.func49, Tryd.ntmps49
    go_wp2
    go_ret
    exact ⟨rfl, rfl⟩
  · change Calls Tryd.prog 49 #[.int .i64 8] w _
    go_enter Tryd.func49, Tryd.ntmps49
    go_wp2
    go_ret
    exact ⟨rfl, rfl⟩
end Go.Proofs.YtahghfjjpbjemaaDoor
