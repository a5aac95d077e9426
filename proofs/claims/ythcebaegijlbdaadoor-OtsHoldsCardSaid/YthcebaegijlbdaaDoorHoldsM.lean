/-
  THE REFERENCE OF CHAPTER 3: Cat, front, Chains, shift, code, coef.
  THE REFERENCE OF CHAPTER 3: message, ends, secret, along.
  THE REFERENCE OF CHAPTER 3: secret (three calls and a new row in any order).
  THE REFERENCE OF CHAPTER 3: coef, Digits.
  THE REFERENCE OF CHAPTER 3: Digits.
  THE REFERENCE OF CHAPTER 3: Public.
  THE REFERENCE OF CHAPTER 3: Sign.
  THE REFERENCE OF CHAPTER 3: Candidate of a signature of another length.
  THE REFERENCE OF CHAPTER 3: Candidate of a signature of the right length.
  OtsHolds walked.
-/
import Derived.Test.YthcebaegijlbdaaDoorOtArgs
import Derived.Test.YthcebaegijlbdaaDoorOtH
import Derived.Test.YthcebaegijlbdaaDoorRefP
import Derived.Test.YthcebaegijlbdaaDoorRefS
import Derived.Test.YthcebaegijlbdaaDoorOtE
import Derived.Deep.DeepCutAuto
import Derived.Test.YthcebaegijlbdaaDoorOtN
import Derived.Test.YthcebaegijlbdaaDoorOtEq
import Derived.Test.YthcebaegijlbdaaDoorOrd
namespace Go.Proofs.YthcebaegijlbdaaDoor
open Go Go.RowKit Sh

/-- A fresh row, opened. -/
theorem fresh_op {w w' : World} {v : Value} {l : List Nat} (h : Fresh 5 w w' v l) : ∃ A c, v = .slice A l.length c ∧ l.length ≤ c ∧ Sr w' A l ∧ Below w.heap.size w w' := by
  obtain ⟨A, c, rfl, hc⟩ := own_form h.1
  exact ⟨A, c, rfl, hc, Sr.of_own h.1, h.2⟩
/-- A slice of bytes as Cat takes it: its address, its capacity, what it reads as. -/
structure Part where
  A : Option Addr
  c : Nat
  X : List Nat
def partsV (l : List Part) : List Value := l.map fun x => .slice x.A x.X.length x.c
def catX (l : List Part) : List Nat := l.flatMap (·.X)
theorem catX_le (l : List Part) (k : Nat) : (catX (l.take k)).length ≤ (catX l).length := by
  conv => rhs; rw [← List.take_append_drop k l]
  unfold catX
  rw [List.flatMap_append, List.length_append]
  omega
theorem catX_succ (l : List Part) (k : Nat) (x : Part) (h : l[k]? = some x) : catX (l.take (k + 1)) = catX (l.take k) ++ x.X := by
  obtain ⟨hk, rfl⟩ := List.getElem?_eq_some_iff.1 h
  unfold catX
  rw [List.take_succ_eq_append_getElem hk, List.flatMap_append, List.flatMap_cons, List.flatMap_nil, List.append_nil]
set_option maxHeartbeats 400000 in
theorem cat_t (l : List Part) (g n c : Nat) (t : TypeId) (w : World) (hn : l.length = n) (hb : Blk w g t (partsV l)) (hr : ∀ x, x ∈ l → Sr w x.A x.X) (hl : (catX l).length ≤ 1000000) (hn2 : n ≤ 100) :
    Calls Tryd.prog 63 #[.slice (some ⟨g, 0, none⟩) n c] w fun e w' => ∃ v, e = .returned v ∧ Fresh 5 w w' v (catX l) := by
  have HB := Lib.hid hb; have HR := Lib.hid hr; have HL := Lib.hid hl; have HN := Lib.hid hn
  have n1 : (n : Int) ≤ 100 := by omega
  clear hb hr hl hn
  go_enter Tryd.func63, Tryd.ntmps63
  go_wp2_with fail
  go_loopw [3, 4] (fun o i wr => ∃ k : Nat, k ≤ n ∧ i = .int .i64 k ∧ wr.ownsRow w.heap.size 5 1 o (catX (l.take k)).length (u8s (catX (l.take k))) ∧ Below w.heap.size w wr) (fun _ i _ => n - (intOf i).toNat)
  case atStart => exact ⟨0, by omega, rfl, by simpa [catX] using nil_own _ _, Below.refl _ _⟩
  case round =>
    obtain ⟨k, hk, rfl, ho, hb⟩ := hrel
    by_cases hlt : k < n
    · obtain ⟨x, hx⟩ : ∃ x, l[k]? = some x := ⟨_, List.getElem?_eq_getElem (by rw [HN.out]; exact hlt)⟩
      have hs := (HR.out x (List.mem_of_getElem? hx)).below hb
      have h1 := catX_succ l k x hx
      have h2 : (catX (l.take k)).length + x.X.length ≤ 1000000 := by
        have := catX_le l (k + 1)
        rw [h1, List.length_append] at this
        exact Nat.le_trans this HL.out
      have c0 : wr.cell? ⟨g, k, none⟩ = some (.slice x.A x.X.length x.c) := by
        refine (hb.cell (p := ⟨g, k, none⟩) HB.out.lt).trans ?_
        rw [HB.out.cell]; simp [partsV, hx]
      obtain ⟨A, cx, X⟩ := x
      simp only [] at hs h1 h2 c0
      obtain ⟨Y, hY⟩ : ∃ Y, catX (l.take k) = Y := ⟨_, rfl⟩
      rw [hY] at ho h1 h2
      have HO := Lib.hid ho; have HW := Lib.hid hb; have HS := Lib.hid hs; have H1 := Lib.hid h1
      clear ho hb hs h1 hx hY
      go_wp2_with ((with_reducible refine at_op (.call { callee := .builtin .append, args := #[.tmp 11, .tmp 15], argTypes := #[27, 27] }) rfl ?_); refine append_bytes (.tmp 11) (.tmp 15) 27 rfl rfl 5 Tryd.underlying27 byte_info w.heap.size _ Y.length Y X rfl HO.out A X.length cx rfl rfl HS.out (by omega) HW.out.size ?_; intro v2 w2 a1 a2 a3)
      go_roundw
      case rel =>
        refine ⟨k + 1, by omega, by go_num, ?_, HW.out.grown a2.out HW.out.size fun i e => (HO.out.lt i e).1⟩
        rw [H1.out, List.length_append]
        exact a1.out
      case measure => simp [intOf]; omega
    · obtain rfl : k = n := by omega
      rw [List.take_of_length_le (by rw [HN.out]; exact Nat.le_refl _)] at ho
      have HO := Lib.hid ho; have HW := Lib.hid hb
      clear ho hb
      go_wp2_with fail
      go_ret
      exact ⟨_, rfl, HO.out, HW.out⟩
def frontN (I : List Nat) (q : Nat) : List Nat := I ++ beN q 4
theorem frontN_length (I : List Nat) (q : Nat) (hI : I.length = 16) : (frontN I q).length = 20 := by simp [frontN, beN_length, hI]
set_option maxRecDepth 100000 in
set_option maxHeartbeats 400000 in
theorem front_t (I : List Nat) (q : Nat) (w : World) (hI : I.length = 16) (hq : q < 1000) :
    Calls Tryd.prog 64 #[.agg (u8s I).toArray, .int .i64 (q : Int)] w fun e w' => ∃ v, e = .returned v ∧ Fresh 5 w w' v (frontN I q) := by
  have HI := Lib.hid hI
  have q1 : (0 : Int) ≤ q := by omega
  have q2 : (q : Int) < 1000 := by omega
  have B0 := Lib.hid (((Below.refl w.heap.size w).alloc (Nat.le_refl _) (.cells (u8s I).toArray 22)).alloc (by simp) (.cells #[] 5))
  have SI := Lib.hid (Sr.of_blk (xs := I) (rest := []) ((Blk.new w 22 (u8s I)).alloc (.cells #[] 5)) (by simp))
  clear hI
  go_enter Tryd.func64, Tryd.ntmps64
  go_wp2_with ((with_reducible refine at_op (.call { callee := .builtin .append, args := #[.tmp 5, .tmp 6], argTypes := #[27, 27] }) rfl ?_); go_must (refine append_bytes (.tmp 5) (.tmp 6) 27 rfl rfl 5 Tryd.underlying27 byte_info w.heap.size (.slice (some ⟨w.heap.size + 1, 0, none⟩) 0 0) 0 [] I rfl (own_empty _ _ _ (by simp) (by simp)) (some ⟨w.heap.size, 0, none⟩) 16 16 rfl HI.out SI.out (by omega) (by simp; omega) ?_); intro v1 w1 a1 a2 a3)
  have b1 : Below w.heap.size w w1 := B0.out.grown a2.out B0.out.size (fun k e => by have := Option.some.inj e; simp at this; omega)
  have o1 := a1.out
  rw [List.nil_append, Nat.zero_add] at o1
  have B1 := Lib.hid b1; have O1 := Lib.hid o1
  clear b1 o1 a1 a2 a3 B0 SI
  refine (refnum_t q 4 w1 (by decide) (by decide)).mono ?_
  rintro e w2 ⟨u, rfl, f2⟩
  obtain ⟨A, c, rfl, hc, sr, b2⟩ := fresh_op f2
  rw [beN_length] at hc ⊢
  have O2 := Lib.hid (own_below O1.out b2); have S2 := Lib.hid sr; have B2 := Lib.hid (B1.out.trans (b2.mono B1.out.size))
  clear f2 hc sr b2 O1 B1
  go_wp2_with ((with_reducible refine at_op (.call { callee := .builtin .append, args := #[.tmp 7, .tmp 10], argTypes := #[27, 27] }) rfl ?_); refine append_bytes (.tmp 7) (.tmp 10) 27 rfl rfl 5 Tryd.underlying27 byte_info w.heap.size v1 16 I (beN q 4) rfl O2.out A 4 c rfl (beN_length _ _) S2.out (by omega) B2.out.size ?_; intro v3 w3 a1 a2 a3)
  go_ret
  refine ⟨v3, rfl, ?_, B2.out.grown a2.out B2.out.size fun k e => (O2.out.lt k e).1⟩
  rw [frontN_length I q HI.out]
  exact a1.out
theorem refchains_t (i : Nat) (hi : i < 4) (w : World) : Calls Tryd.prog 35 #[.int .i64 ((kd i).w : Int)] w fun e w' => e = .returned (.int .i64 ((kd i).p : Int)) ∧ w = w' := by
  have : i = 0 ∨ i = 1 ∨ i = 2 ∨ i = 3 := by omega
  rcases this with rfl | rfl | rfl | rfl
  · change Calls Tryd.prog 35 #[.int .i64 1] w _
    go_enter Tryd.func35, Tryd.ntmps35
    go_wp2
    go_ret
    exact ⟨rfl, rfl⟩
  · change Calls Tryd.prog 35 #[.int .i64 2] w _
    go_enter Tryd.func35, Tryd.ntmps35
    go_wp2
    go_ret
    exact ⟨rfl, rfl⟩
  · change Calls Tryd.prog 35 #[.int .i64 4] w _
    go_enter Tryd.func35, Tryd.ntmps35
    go_wp2
    go_ret
    exact ⟨rfl, rfl⟩
  · change Calls Tryd.prog 35 #[.int .i64 8] w _
    go_enter Tryd.func35, Tryd.ntmps35
    go_wp2
    go_ret
    exact ⟨rfl, rfl⟩
theorem refchains_no (n : Int) (w : World) (h : ∀ i, i < 4 → n ≠ ((kd i).w : Int)) : Calls Tryd.prog 35 #[.int .i64 n] w fun e w' => e = .returned (.int .i64 0) ∧ w = w' := by
  have t1 : (n == 1) = false := beq_eq_false_iff_ne.2 (h 0 (by decide))
  have t2 : (n == 2) = false := beq_eq_false_iff_ne.2 (h 1 (by decide))
  have t4 : (n == 4) = false := beq_eq_false_iff_ne.2 (h 2 (by decide))
  have t8 : (n == 8) = false := beq_eq_false_iff_ne.2 (h 3 (by decide))
  clear h
  go_enter Tryd.func35, Tryd.ntmps35
  go_wp2
  go_ret
  exact ⟨rfl, rfl⟩
theorem refshift_t (i : Nat) (hi : i < 4) (w : World) : Calls Tryd.prog 61 #[.int .i64 ((kd i).w : Int)] w fun e w' => e = .returned (.int .u64 ((kd i).ls : Int)) ∧ w = w' := by
  have : i = 0 ∨ i = 1 ∨ i = 2 ∨ i = 3 := by omega
  rcases this with rfl | rfl | rfl | rfl
  · change Calls Tryd.prog 61 #[.int .i64 1] w _
    go_enter Tryd.func61, Tryd.ntmps61
    go_wp2
    go_ret
    exact ⟨rfl, rfl⟩
  · change Calls Tryd.prog 61 #[.int .i64 2] w _
    go_enter Tryd.func61, Tryd.ntmps61
    go_wp2
    go_ret
    exact ⟨rfl, rfl⟩
  · change Calls Tryd.prog 61 #[.int .i64 4] w _
    go_enter Tryd.func61, Tryd.ntmps61
    go_wp2
    go_ret
    exact ⟨rfl, rfl⟩
  · change Calls Tryd.prog 61 #[.int .i64 8] w _
    go_enter Tryd.func61, Tryd.ntmps61
    go_wp2
    go_ret
    exact ⟨rfl, rfl⟩
theorem refcode_t (i : Nat) (hi : i < 4) (w : World) : Calls Tryd.prog 37 #[.int .i64 ((kd i).w : Int)] w fun e w' => e = .returned (.int .u64 ((kd i).code : Int)) ∧ w = w' := by
  have : i = 0 ∨ i = 1 ∨ i = 2 ∨ i = 3 := by omega
  rcases this with rfl | rfl | rfl | rfl
  · change Calls Tryd.prog 37 #[.int .i64 1] w _
    go_enter Tryd.func37, Tryd.ntmps37
    go_wp2
    go_ret
    exact ⟨rfl, rfl⟩
  · change Calls Tryd.prog 37 #[.int .i64 2] w _
    go_enter Tryd.func37, Tryd.ntmps37
    go_wp2
    go_ret
    exact ⟨rfl, rfl⟩
  · change Calls Tryd.prog 37 #[.int .i64 4] w _
    go_enter Tryd.func37, Tryd.ntmps37
    go_wp2
    go_ret
    exact ⟨rfl, rfl⟩
  · change Calls Tryd.prog 37 #[.int .i64 8] w _
    go_enter Tryd.func37, Tryd.ntmps37
    go_wp2
    go_ret
    exact ⟨rfl, rfl⟩
end Go.Proofs.YthcebaegijlbdaaDoor
namespace Go.Proofs.YthcebaegijlbdaaDoor
open Go Go.RowKit Sh

/-- A row of bytes of the call's own, opened. -/
theorem row_open {w : World} {base : Nat} {v : Value} {l : List Nat} {n : Nat} (h : w.ownsRow base 5 1 v n (u8s l)) (hn : 0 < n) : ∃ g c, v = .slice (some ⟨g, 0, none⟩) n c ∧ n ≤ c ∧ base ≤ g ∧ g < w.heap.size := by
  obtain ⟨g, cap, rfl, hb, hlt⟩ := h.form hn
  obtain ⟨_, _, e, hc⟩ := own_form h
  injection e with _ _ e
  subst e
  exact ⟨g, cap, rfl, hc, hb, hlt⟩
theorem hash_len (l : List Nat) (h : l.length = 32) : (u8s z32).length = (u8s l).length := by rw [u8s_length, u8s_length, h]; rfl
theorem front_bytes (I : List Nat) (q : Nat) (hI : Bytes I) : Bytes (frontN I q) := app_bytes hI (beN_bytes _ _)
theorem cat_msg (I C M : List Nat) (q : Nat) (A B P R : Option Addr) (a b c d : Nat) : catX [⟨A, a, frontN I q⟩, ⟨B, b, [129, 129]⟩, ⟨P, c, C⟩, ⟨R, d, M⟩] = headN I q 33153 ++ C ++ M := by
  simp [catX, headN, frontN, show beN 33153 2 = [129, 129] from by decide]
theorem cat_ends (I L : List Nat) (q : Nat) (A B P : Option Addr) (a b c : Nat) : catX [⟨A, a, frontN I q⟩, ⟨B, b, [128, 128]⟩, ⟨P, c, L⟩] = headN I q 32896 ++ L := by
  simp [catX, headN, frontN, show beN 32896 2 = [128, 128] from by decide]
set_option maxRecDepth 100000 in
set_option maxHeartbeats 1000000 in
theorem refmsg_t (I C M : List Nat) (q : Nat) (P R : Option Addr) (c d : Nat) (w : World) (hI : I.length = 16) (hIb : Bytes I) (hq : q < 1000) (hC : Sr w P C) (hCb : Bytes C) (hCl : C.length ≤ 1000) (hM : Sr w R M) (hMb : Bytes M) (hMl : M.length ≤ 100000) :
    Calls Tryd.prog 39 #[.agg (u8s I).toArray, .int .i64 (q : Int), .slice P C.length c, .slice R M.length d] w fun e w' => e = .returned (.agg (u8s (msgN I q C M)).toArray) ∧ Below w.heap.size w w' := by
  have HI := Lib.hid hI; have HIB := Lib.hid hIb; have HC := Lib.hid hC; have HCB0 := Lib.hid hCb; have HM := Lib.hid hM; have HMB := Lib.hid hMb; have HCL := Lib.hid hCl; have HML := Lib.hid hMl
  have I0 := Lib.hid ((Blk.new w 22 (u8s I)).alloc (.cells (u8s z32).toArray 24))
  have R0 := Lib.hid (Blk.new2 w (.cells (u8s I).toArray 22) 24 (u8s z32))
  have B0 := Lib.hid (((Below.refl w.heap.size w).alloc (Nat.le_refl _) (.cells (u8s I).toArray 22)).alloc (by simp) (.cells (u8s z32).toArray 24))
  clear hI hIb hC hCb hM hMb hCl hMl
  go_enter Tryd.func39, Tryd.ntmps39
  go_wp2_with ((with_reducible refine load_blk 22 (.tmp 4) w.heap.size 22 (u8s I) _ rfl rfl ?_ Tryd.underlying22 ?_ ?_ ?_ ?_); exact I0.out; exact rfl; exact size16 _ HI.out; exact rfl)
  refine (front_t I q _ HI.out hq).mono ?_
  rintro e w1 ⟨v, rfl, f1⟩
  obtain ⟨A, a, rfl, ha, s1, b1⟩ := fresh_op f1
  have B1 := Lib.hid (B0.out.trans (b1.mono B0.out.size)); have R1 := Lib.hid (R0.out.below b1 R0.out.lt); have S1 := Lib.hid s1
  clear f1 ha s1 b1 B0 R0 I0
  have B2 := Lib.hid ((B1.out.alloc B1.out.size (.cells (u8s [129, 129]).toArray 5)).alloc (by have := B1.out.size; simp; omega) (.cells (partsV [⟨A, a, frontN I q⟩, ⟨some ⟨w1.heap.size, 0, none⟩, 2, [129, 129]⟩, ⟨P, c, C⟩, ⟨R, d, M⟩]).toArray 27))
  have R2 := Lib.hid ((R1.out.alloc (.cells (u8s [129, 129]).toArray 5)).alloc (.cells (partsV [⟨A, a, frontN I q⟩, ⟨some ⟨w1.heap.size, 0, none⟩, 2, [129, 129]⟩, ⟨P, c, C⟩, ⟨R, d, M⟩]).toArray 27))
  have bx := ((Below.refl w1.heap.size w1).alloc (Nat.le_refl _) (.cells (u8s [129, 129]).toArray 5)).alloc (by simp) (.cells (partsV [⟨A, a, frontN I q⟩, ⟨some ⟨w1.heap.size, 0, none⟩, 2, [129, 129]⟩, ⟨P, c, C⟩, ⟨R, d, M⟩]).toArray 27)
  have SX := Lib.hid (show ∀ x ∈ ([⟨A, a, frontN I q⟩, ⟨some ⟨w1.heap.size, 0, none⟩, 2, [129, 129]⟩, ⟨P, c, C⟩, ⟨R, d, M⟩] : List Part), Sr ((w1.alloc (.cells (u8s [129, 129]).toArray 5)).alloc (.cells (partsV [⟨A, a, frontN I q⟩, ⟨some ⟨w1.heap.size, 0, none⟩, 2, [129, 129]⟩, ⟨P, c, C⟩, ⟨R, d, M⟩]).toArray 27)) x.A x.X by
    intro x hx
    simp only [List.mem_cons, List.not_mem_nil, or_false] at hx
    rcases hx with rfl | rfl | rfl | rfl
    · exact S1.out.below bx
    · exact (Sr.made [129, 129] w1 _ _).below ((Below.refl _ _).alloc (Nat.le_refl _) _)
    · exact (HC.out.below B1.out).below bx
    · exact (HM.out.below B1.out).below bx)
  clear bx
  go_wp2_with fail
  refine (cat_t [⟨A, a, frontN I q⟩, ⟨some ⟨w1.heap.size, 0, none⟩, 2, [129, 129]⟩, ⟨P, c, C⟩, ⟨R, d, M⟩] (w1.heap.size + 1) 4 4 27 _ rfl ?_ ?_ ?_ (by decide)).mono ?_
  · exact Blk.new2 w1 _ _ (partsV [⟨A, a, frontN I q⟩, ⟨some ⟨w1.heap.size, 0, none⟩, 2, [129, 129]⟩, ⟨P, c, C⟩, ⟨R, d, M⟩])
  · exact SX.out
  · (rw [cat_msg, List.length_append, List.length_append, headN_length I q _ HI.out]; have := HCL.out; have := HML.out; omega)
  rintro e wc ⟨vc, rfl, fc⟩
  obtain ⟨Ac, cc, rfl, hcc, src, bc⟩ := fresh_op fc
  have BC := Lib.hid (B2.out.trans (bc.mono B2.out.size)); have RC := Lib.hid (R2.out.below bc R2.out.lt); have SC := Lib.hid src
  clear fc hcc src bc
  have HCB := Lib.hid (show Bytes (catX [⟨A, a, frontN I q⟩, ⟨some ⟨w1.heap.size, 0, none⟩, 2, [129, 129]⟩, ⟨P, c, C⟩, ⟨R, d, M⟩]) ∧ (catX [⟨A, a, frontN I q⟩, ⟨some ⟨w1.heap.size, 0, none⟩, 2, [129, 129]⟩, ⟨P, c, C⟩, ⟨R, d, M⟩]).length ≤ 200000 by rw [cat_msg]; exact ⟨app_bytes (app_bytes (headN_bytes _ _ _ HIB.out) HCB0.out) HMB.out, by rw [List.length_append, List.length_append, headN_length I q _ HI.out]; have := HCL.out; have := HML.out; omega⟩)
  obtain ⟨X, hX⟩ : ∃ X, catX [⟨A, a, frontN I q⟩, ⟨some ⟨w1.heap.size, 0, none⟩, 2, [129, 129]⟩, ⟨P, c, C⟩, ⟨R, d, M⟩] = X := ⟨_, rfl⟩
  rw [hX] at SC HCB ⊢
  have HXX := Lib.hid hX
  clear hX
  go_wp2_with fail
  refine (refsum_t X Ac X.length cc wc rfl SC.out HCB.out.1 (by have := HCB.out.2; omega)).mono ?_
  rintro e wd ⟨rfl, bd⟩
  have BD := Lib.hid (BC.out.trans (bd.mono BC.out.size)); have RD := Lib.hid (RC.out.below bd RC.out.lt)
  have HSL := Lib.hid (show (sum X).length = 32 from rfl)
  obtain ⟨S, hS⟩ : ∃ S, sum X = S := ⟨_, rfl⟩
  rw [hS] at HSL ⊢
  have HSS := Lib.hid hS
  clear bd hS BC RC
  go_wp2_with ((with_reducible refine store_blk 24 (.tmp 8) (.tmp 17) (w.heap.size + 1) 24 (u8s z32) (u8s S) rfl rfl ?_ ?_ ?_ ?_ ?_ ?_ ?_); exact RD.out; exact hash_len _ HSL.out; exact size32 _ HSL.out; exact u8s_one _; exact rfl; exact rfl)
  exact ret_blk (p := 8) (ty := 24) rfl rfl (w.heap.size + 1) 24 _ _ rfl (RD.out.setRow _) Tryd.underlying24 rfl (size32 _ HSL.out) ⟨by rw [← HSS.out, ← HXX.out, cat_msg]; rfl, below_setRow BD.out (by omega) _⟩
set_option maxRecDepth 100000 in
set_option maxHeartbeats 1000000 in
theorem refends_t (I L : List Nat) (q n : Nat) (P : Option Addr) (c : Nat) (w : World) (hn : L.length = n) (hI : I.length = 16) (hIb : Bytes I) (hq : q < 1000) (hL : Sr w P L) (hLb : Bytes L) (hLl : L.length ≤ 100000) :
    Calls Tryd.prog 41 #[.agg (u8s I).toArray, .int .i64 (q : Int), .slice P n c] w fun e w' => e = .returned (.agg (u8s (pubOf I q L)).toArray) ∧ Below w.heap.size w w' := by
  subst hn
  have HI := Lib.hid hI; have HIB := Lib.hid hIb; have HL := Lib.hid hL; have HLB := Lib.hid hLb; have HLL := Lib.hid hLl
  have I0 := Lib.hid ((Blk.new w 22 (u8s I)).alloc (.cells (u8s z32).toArray 24))
  have R0 := Lib.hid (Blk.new2 w (.cells (u8s I).toArray 22) 24 (u8s z32))
  have B0 := Lib.hid (((Below.refl w.heap.size w).alloc (Nat.le_refl _) (.cells (u8s I).toArray 22)).alloc (by simp) (.cells (u8s z32).toArray 24))
  clear hI hIb hL hLb hLl
  go_enter Tryd.func41, Tryd.ntmps41
  go_wp2_with ((with_reducible refine load_blk 22 (.tmp 3) w.heap.size 22 (u8s I) _ rfl rfl ?_ Tryd.underlying22 ?_ ?_ ?_ ?_); exact I0.out; exact rfl; exact size16 _ HI.out; exact rfl)
  refine (front_t I q _ HI.out hq).mono ?_
  rintro e w1 ⟨v, rfl, f1⟩
  obtain ⟨A, a, rfl, ha, s1, b1⟩ := fresh_op f1
  have B1 := Lib.hid (B0.out.trans (b1.mono B0.out.size)); have R1 := Lib.hid (R0.out.below b1 R0.out.lt); have S1 := Lib.hid s1
  clear f1 ha s1 b1 B0 R0 I0
  have B2 := Lib.hid ((B1.out.alloc B1.out.size (.cells (u8s [128, 128]).toArray 5)).alloc (by have := B1.out.size; simp; omega) (.cells (partsV [⟨A, a, frontN I q⟩, ⟨some ⟨w1.heap.size, 0, none⟩, 2, [128, 128]⟩, ⟨P, c, L⟩]).toArray 27))
  have R2 := Lib.hid ((R1.out.alloc (.cells (u8s [128, 128]).toArray 5)).alloc (.cells (partsV [⟨A, a, frontN I q⟩, ⟨some ⟨w1.heap.size, 0, none⟩, 2, [128, 128]⟩, ⟨P, c, L⟩]).toArray 27))
  have bx := ((Below.refl w1.heap.size w1).alloc (Nat.le_refl _) (.cells (u8s [128, 128]).toArray 5)).alloc (by simp) (.cells (partsV [⟨A, a, frontN I q⟩, ⟨some ⟨w1.heap.size, 0, none⟩, 2, [128, 128]⟩, ⟨P, c, L⟩]).toArray 27)
  have SX := Lib.hid (show ∀ x ∈ ([⟨A, a, frontN I q⟩, ⟨some ⟨w1.heap.size, 0, none⟩, 2, [128, 128]⟩, ⟨P, c, L⟩] : List Part), Sr ((w1.alloc (.cells (u8s [128, 128]).toArray 5)).alloc (.cells (partsV [⟨A, a, frontN I q⟩, ⟨some ⟨w1.heap.size, 0, none⟩, 2, [128, 128]⟩, ⟨P, c, L⟩]).toArray 27)) x.A x.X by
    intro x hx
    simp only [List.mem_cons, List.not_mem_nil, or_false] at hx
    rcases hx with rfl | rfl | rfl
    · exact S1.out.below bx
    · exact (Sr.made [128, 128] w1 _ _).below ((Below.refl _ _).alloc (Nat.le_refl _) _)
    · exact (HL.out.below B1.out).below bx)
  clear bx
  go_wp2_with fail
  refine (cat_t [⟨A, a, frontN I q⟩, ⟨some ⟨w1.heap.size, 0, none⟩, 2, [128, 128]⟩, ⟨P, c, L⟩] (w1.heap.size + 1) 3 3 27 _ rfl ?_ ?_ ?_ (by decide)).mono ?_
  · exact Blk.new2 w1 _ _ (partsV [⟨A, a, frontN I q⟩, ⟨some ⟨w1.heap.size, 0, none⟩, 2, [128, 128]⟩, ⟨P, c, L⟩])
  · exact SX.out
  · (rw [cat_ends, List.length_append, headN_length I q _ HI.out]; have := HLL.out; omega)
  rintro e wc ⟨vc, rfl, fc⟩
  obtain ⟨Ac, cc, rfl, hcc, src, bc⟩ := fresh_op fc
  have BC := Lib.hid (B2.out.trans (bc.mono B2.out.size)); have RC := Lib.hid (R2.out.below bc R2.out.lt); have SC := Lib.hid src
  clear fc hcc src bc
  have HCB := Lib.hid (show Bytes (catX [⟨A, a, frontN I q⟩, ⟨some ⟨w1.heap.size, 0, none⟩, 2, [128, 128]⟩, ⟨P, c, L⟩]) ∧ (catX [⟨A, a, frontN I q⟩, ⟨some ⟨w1.heap.size, 0, none⟩, 2, [128, 128]⟩, ⟨P, c, L⟩]).length ≤ 200000 by rw [cat_ends]; exact ⟨app_bytes (headN_bytes _ _ _ HIB.out) HLB.out, by rw [List.length_append, headN_length I q _ HI.out]; have := HLL.out; omega⟩)
  obtain ⟨X, hX⟩ : ∃ X, catX [⟨A, a, frontN I q⟩, ⟨some ⟨w1.heap.size, 0, none⟩, 2, [128, 128]⟩, ⟨P, c, L⟩] = X := ⟨_, rfl⟩
  rw [hX] at SC HCB ⊢
  have HXX := Lib.hid hX
  clear hX
  go_wp2_with fail
  refine (refsum_t X Ac X.length cc wc rfl SC.out HCB.out.1 (by have := HCB.out.2; omega)).mono ?_
  rintro e wd ⟨rfl, bd⟩
  have BD := Lib.hid (BC.out.trans (bd.mono BC.out.size)); have RD := Lib.hid (RC.out.below bd RC.out.lt)
  have HSL := Lib.hid (show (sum X).length = 32 from rfl)
  obtain ⟨S, hS⟩ : ∃ S, sum X = S := ⟨_, rfl⟩
  rw [hS] at HSL ⊢
  have HSS := Lib.hid hS
  clear bd hS BC RC
  go_wp2_with ((with_reducible refine store_blk 24 (.tmp 6) (.tmp 14) (w.heap.size + 1) 24 (u8s z32) (u8s S) rfl rfl ?_ ?_ ?_ ?_ ?_ ?_ ?_); exact RD.out; exact hash_len _ HSL.out; exact size32 _ HSL.out; exact u8s_one _; exact rfl; exact rfl)
  exact ret_blk (p := 6) (ty := 24) rfl rfl (w.heap.size + 1) 24 _ _ rfl (RD.out.setRow _) Tryd.underlying24 rfl (size32 _ HSL.out) ⟨by rw [← HSS.out, ← HXX.out, cat_ends]; rfl, below_setRow BD.out (by omega) _⟩
theorem Sr.setRow_far {w : World} {p : Option Addr} {xs : List Nat} {g : Nat} (h : Sr w p xs) (hf : ∀ a : Addr, p = some a → a.block ≠ g) (c : Array Value) : Sr (w.setRow g c) p xs := fun hx => by
  obtain ⟨b, o, rfl, h1, h2⟩ := h hx
  exact ⟨b, o, rfl, by simpa using h1, fun j hj => (World.cell?_of_block (w := w) (setRow_other w g b c (hf _ rfl))).trans (h2 j hj)⟩
theorem cat_step (I X : List Nat) (q n j : Nat) (A B P : Option Addr) (a b c : Nat) : catX [⟨A, a, headN I q n⟩, ⟨B, b, [j]⟩, ⟨P, c, X⟩] = headN I q n ++ [j] ++ X := by simp [catX]
theorem cat_sec (I X : List Nat) (q n : Nat) (A B C P : Option Addr) (a b c d : Nat) : catX [⟨A, a, frontN I q⟩, ⟨B, b, beN n 2⟩, ⟨C, c, [255]⟩, ⟨P, d, X⟩] = headN I q n ++ [255] ++ X := by simp [catX, headN, frontN]
set_option maxRecDepth 100000 in
set_option maxHeartbeats 1000000 in
theorem along_t (I x : List Nat) (q n a b : Nat) (w : World) (hI : I.length = 16) (hIb : Bytes I) (hq : q < 1000) (hn : n < 65536) (hx : x.length = 32) (hxb : Bytes x) (hab : a ≤ b) (hb : b < 256) :
    Calls Tryd.prog 40 #[.agg (u8s I).toArray, .int .i64 (q : Int), .int .i64 (n : Int), .int .i64 (a : Int), .int .i64 (b : Int), .agg (u8s x).toArray] w fun e w' => e = .returned (.agg (u8s (walkN I q n a (b - a) x)).toArray) ∧ Below w.heap.size w w' := by
  have HI := Lib.hid hI; have HIB := Lib.hid hIb; have HX := Lib.hid hx; have HXB := Lib.hid hxb
  have I0 := Lib.hid (((Blk.new w 22 (u8s I)).alloc (.cells (u8s x).toArray 24)).alloc (.cells (u8s z32).toArray 24))
  have X0 := Lib.hid ((Blk.new2 w (.cells (u8s I).toArray 22) 24 (u8s x)).alloc (.cells (u8s z32).toArray 24))
  have R0 := Lib.hid (blk_at (w := (w.alloc (.cells (u8s I).toArray 22)).alloc (.cells (u8s x).toArray 24)) (g := w.heap.size + 1 + 1) (by simp) (.cells (u8s z32).toArray 24) 24 (u8s z32))
  have B0 := Lib.hid ((((Below.refl w.heap.size w).alloc (Nat.le_refl _) (.cells (u8s I).toArray 22)).alloc (by simp) (.cells (u8s x).toArray 24)).alloc (by simp; omega) (.cells (u8s z32).toArray 24))
  have n1 : (0 : Int) ≤ n := by omega
  have n2 : (n : Int) < 65536 := by omega
  have a1 : (a : Int) ≤ b := by omega
  have b1 : (b : Int) < 256 := by omega
  clear hI hIb hx hxb
  go_enter Tryd.func40, Tryd.ntmps40
  go_wp2_with ((with_reducible refine load_blk 22 (.tmp 6) w.heap.size 22 (u8s I) _ rfl rfl ?_ Tryd.underlying22 ?_ ?_ ?_ ?_); exact I0.out; exact rfl; exact size16 _ HI.out; exact rfl)
  refine (front_t I q _ HI.out hq).mono ?_
  rintro e w1 ⟨v, rfl, f1, b1'⟩
  have s1 : w.heap.size + 3 ≤ w1.heap.size := by have := b1'.size; simp at this; omega
  have O1 := Lib.hid (own_base f1 (base' := w.heap.size + 1 + 1 + 1) (fun k e => by have := (f1.lt k e).1; simpa using this))
  have B1 := Lib.hid (B0.out.trans (b1'.mono B0.out.size)); have R1 := Lib.hid (R0.out.below b1' R0.out.lt); have X1 := Lib.hid (X0.out.below b1' X0.out.lt)
  clear f1 b1' B0 R0 X0 I0
  go_wp2_with fail
  refine (refnum_t n 2 w1 (by decide) (by decide)).mono ?_
  rintro e w2 ⟨u, rfl, f2⟩
  obtain ⟨A, c, rfl, hc, sr, b2⟩ := fresh_op f2
  rw [beN_length] at hc ⊢
  have O2 := Lib.hid (own_below O1.out b2); have S2 := Lib.hid sr; have B2 := Lib.hid (B1.out.trans (b2.mono B1.out.size)); have R2 := Lib.hid (R1.out.below b2 R1.out.lt); have X2 := Lib.hid (X1.out.below b2 X1.out.lt)
  have s2 : w.heap.size + 3 ≤ w2.heap.size := Nat.le_trans s1 b2.size
  clear f2 hc sr b2 O1 B1 R1 X1
  go_wp2_with ((with_reducible refine at_op (.call { callee := .builtin .append, args := #[.tmp 17, .tmp 20], argTypes := #[27, 27] }) rfl ?_); go_must (refine append_bytes (.tmp 17) (.tmp 20) 27 rfl rfl 5 Tryd.underlying27 byte_info (w.heap.size + 1 + 1 + 1) v (frontN I q).length (frontN I q) (beN n 2) rfl O2.out A 2 c rfl (beN_length _ _) S2.out (by rw [frontN_length I q HI.out]; omega) (by omega) ?_); intro v3 w3 e1 e2 e3)
  have ow := e1.out
  have bk : Below (w.heap.size + 1 + 1 + 1) w2 w3 := (Below.refl _ w2).grown e2.out (by omega) (fun k e => (O2.out.lt k e).1)
  rw [frontN_length I q HI.out, show frontN I q ++ beN n 2 = headN I q n from rfl, show 20 + 2 = 22 from rfl] at ow
  obtain ⟨g5, c5, rfl, hc5, lb5, lt5⟩ := row_open ow (by decide)
  have HH := Lib.hid (headN_length I q n HI.out)
  have P3 := Lib.hid (show Sr w3 (some ⟨g5, 0, none⟩) (headN I q n) from Sr.of_own ow)
  have B3 := Lib.hid (B2.out.trans (bk.mono (by omega))); have R3 := Lib.hid (R2.out.below bk (by omega)); have X3 := Lib.hid (X2.out.below bk (by omega))
  clear ow bk e1 e2 e3 B2 R2 X2 O2 S2
  go_upto_region 3 with (fail)
  go_loopw [14] (fun s wr => ∃ k : Nat, a + k ≤ b ∧ s = .int .i64 ((a + k : Nat) : Int) ∧ Blk wr (w.heap.size + 1) 24 (u8s (walkN I q n a k x)) ∧ Blk wr (w.heap.size + 1 + 1) 24 (u8s z32) ∧ Sr wr (some ⟨g5, 0, none⟩) (headN I q n) ∧ Below w.heap.size w wr) (fun s _ => b - (intOf s).toNat)
  case atStart => exact ⟨0, by omega, rfl, X3.out, R3.out, P3.out, B3.out⟩
  case round =>
    clear X3 R3 P3 B3
    obtain ⟨k, hk, rfl, x1, r1, p1, bw⟩ := hrel
    obtain ⟨j, hj⟩ : ∃ j, a + k = j := ⟨_, rfl⟩
    have hjb : j ≤ b := by omega
    rw [hj]
    have Y1 := Lib.hid (walkN_length I q n a k x HX.out)
    have Y2 := Lib.hid (walkN_bytes I q n a k x HIB.out HXB.out (by omega))
    have XS := Lib.hid (show walkN I q n a (k + 1) x = sum (headN I q n ++ [j] ++ walkN I q n a k x) by rw [walkN, hj, stepN])
    have XE := Lib.hid (fun (h : a + k = b) => show walkN I q n a (b - a) x = walkN I q n a k x by rw [show b - a = k from by omega])
    obtain ⟨X, hX⟩ : ∃ X, walkN I q n a k x = X := ⟨_, rfl⟩
    rw [hX] at Y1 Y2 XS x1
    simp only [hX] at XE
    have HJ := Lib.hid hj
    clear hX hk hj
    by_cases hlt : j < b
    · have j1 : (j : Int) < b := by omega
      have j2 : (j : Int) < 256 := by omega
      have X4 := Lib.hid x1; have R4 := Lib.hid r1; have P4 := Lib.hid p1; have B4 := Lib.hid bw
      clear x1 r1 p1 bw XE
      have bx := ((Below.refl wr.heap.size wr).alloc (Nat.le_refl _) (.cells (u8s [j]).toArray 5)).alloc (by simp) (.cells (partsV [⟨some ⟨g5, 0, none⟩, c5, headN I q n⟩, ⟨some ⟨wr.heap.size, 0, none⟩, 1, [j]⟩, ⟨some ⟨w.heap.size + 1, 0, none⟩, 32, X⟩]).toArray 27)
      have B5 := Lib.hid (B4.out.trans (bx.mono B4.out.size)); have R5 := Lib.hid (R4.out.below bx R4.out.lt); have X5 := Lib.hid (X4.out.below bx X4.out.lt); have P5 := Lib.hid (P4.out.below bx)
      have SX := Lib.hid (show ∀ x ∈ ([⟨some ⟨g5, 0, none⟩, c5, headN I q n⟩, ⟨some ⟨wr.heap.size, 0, none⟩, 1, [j]⟩, ⟨some ⟨w.heap.size + 1, 0, none⟩, 32, X⟩] : List Part), Sr ((wr.alloc (.cells (u8s [j]).toArray 5)).alloc (.cells (partsV [⟨some ⟨g5, 0, none⟩, c5, headN I q n⟩, ⟨some ⟨wr.heap.size, 0, none⟩, 1, [j]⟩, ⟨some ⟨w.heap.size + 1, 0, none⟩, 32, X⟩]).toArray 27)) x.A x.X by
        intro y hy
        simp only [List.mem_cons, List.not_mem_nil, or_false] at hy
        rcases hy with rfl | rfl | rfl
        · exact P5.out
        · exact (Sr.made [j] wr _ _).below ((Below.refl _ _).alloc (Nat.le_refl _) _)
        · exact Sr.of_blk (rest := []) X5.out (by simp))
      clear bx
      have LL := Lib.hid (show Bytes (catX [⟨some ⟨g5, 0, none⟩, c5, headN I q n⟩, ⟨some ⟨wr.heap.size, 0, none⟩, 1, [j]⟩, ⟨some ⟨w.heap.size + 1, 0, none⟩, 32, X⟩]) ∧ (catX [⟨some ⟨g5, 0, none⟩, c5, headN I q n⟩, ⟨some ⟨wr.heap.size, 0, none⟩, 1, [j]⟩, ⟨some ⟨w.heap.size + 1, 0, none⟩, 32, X⟩]).length ≤ 200 by
        rw [cat_step]; exact ⟨app_bytes (app_bytes (headN_bytes _ _ _ HIB.out) (sl_bytes (by simp; omega))) Y2.out, by rw [List.length_append, List.length_append, HH.out, Y1.out, List.length_singleton]; decide⟩)
      have HPV := Lib.hid (show partsV [⟨some ⟨g5, 0, none⟩, c5, headN I q n⟩, ⟨some ⟨wr.heap.size, 0, none⟩, 1, [j]⟩, ⟨some ⟨w.heap.size + 1, 0, none⟩, 32, X⟩] = [.slice (some ⟨g5, 0, none⟩) 22 c5, .slice (some ⟨wr.heap.size, 0, none⟩) 1 1, .slice (some ⟨w.heap.size + 1, 0, none⟩) 32 32] by simp only [partsV, List.map_cons, List.map_nil, HH.out, Y1.out]; rfl)
      rw [HPV.out] at B5 R5 X5 P5 SX
      go_wp2_with fail
      refine (cat_t [⟨some ⟨g5, 0, none⟩, c5, headN I q n⟩, ⟨some ⟨wr.heap.size, 0, none⟩, 1, [j]⟩, ⟨some ⟨w.heap.size + 1, 0, none⟩, 32, X⟩] (wr.heap.size + 1) 3 3 27 _ rfl ?_ ?_ ?_ (by decide)).mono ?_
      · rw [HPV.out]; exact Blk.new2 wr _ _ _
      · exact SX.out
      · exact Nat.le_trans LL.out.2 (by decide)
      rintro e wc ⟨vc, rfl, fc⟩
      obtain ⟨Ac, cc, rfl, hcc, src, bc⟩ := fresh_op fc
      have B6 := Lib.hid (B5.out.trans (bc.mono B5.out.size)); have R6 := Lib.hid (R5.out.below bc R5.out.lt); have X6 := Lib.hid (X5.out.below bc X5.out.lt); have P6 := Lib.hid (P5.out.below bc); have SC := Lib.hid src
      clear fc hcc src bc B5 R5 X5 P5 SX B4 R4 X4 P4
      have HCE := Lib.hid (cat_step I X q n j (some ⟨g5, 0, none⟩) (some ⟨wr.heap.size, 0, none⟩) (some ⟨w.heap.size + 1, 0, none⟩) c5 1 32)
      obtain ⟨T, hT⟩ : ∃ T, catX [⟨some ⟨g5, 0, none⟩, c5, headN I q n⟩, ⟨some ⟨wr.heap.size, 0, none⟩, 1, [j]⟩, ⟨some ⟨w.heap.size + 1, 0, none⟩, 32, X⟩] = T := ⟨_, rfl⟩
      rw [hT] at SC LL HCE ⊢
      clear hT
      go_wp2_with fail
      refine (refsum_t T Ac T.length cc wc rfl SC.out LL.out.1 (by have := LL.out.2; omega)).mono ?_
      rintro e wd ⟨rfl, bd⟩
      have B7 := Lib.hid (B6.out.trans (bd.mono B6.out.size)); have R7 := Lib.hid (R6.out.below bd R6.out.lt); have X7 := Lib.hid (X6.out.below bd X6.out.lt); have P7 := Lib.hid (P6.out.below bd)
      have HSL := Lib.hid (show (sum T).length = 32 from rfl)
      rw [HCE.out, ← XS.out] at HSL ⊢
      obtain ⟨S, hS⟩ : ∃ S, walkN I q n a (k + 1) x = S := ⟨_, rfl⟩
      rw [hS] at HSL ⊢
      have HSS := Lib.hid hS
      have HXSL := Lib.hid (show (u8s X).length = (u8s S).length by rw [u8s_length, u8s_length, Y1.out, HSL.out])
      clear bd hS B6 R6 X6 P6
      go_wp2_with ((with_reducible refine store_blk 24 (.tmp 11) (.tmp 35) (w.heap.size + 1) 24 (u8s X) (u8s S) rfl rfl ?_ ?_ ?_ ?_ ?_ ?_ ?_); exact X7.out; exact HXSL.out; exact size32 _ HSL.out; exact u8s_one _; exact rfl; exact rfl)
      go_roundw
      case rel =>
        refine ⟨k + 1, by have := HJ.out; omega, ?_, ?_, R7.out.setRow_far (by omega) _, P7.out.setRow_far (fun a e => ?_) _, below_setRow B7.out (by omega) _⟩
        · rw [show a + (k + 1) = j + 1 from by have := HJ.out; omega]; go_num
        · rw [HSS.out]; exact X7.out.setRow _
        · injection e with e; subst e; show g5 ≠ w.heap.size + 1; omega
      case measure => simp [intOf]; omega
    · have hjb2 : a + k = b := by have := HJ.out; omega
      have XE2 := Lib.hid (XE hjb2)
      have X4 := Lib.hid x1; have R4 := Lib.hid r1; have B4 := Lib.hid bw
      have j1 : ¬ ((j : Int) < b) := by omega
      clear x1 r1 p1 bw hlt hjb2 XE XS
      go_wp2_with (first
        | ((with_reducible refine load_blk 24 (.tmp 11) (w.heap.size + 1) 24 (u8s X) _ rfl rfl ?_ Tryd.underlying24 ?_ ?_ ?_ ?_); exact X4.out; exact rfl; exact size32 _ Y1.out; exact rfl)
        | ((with_reducible refine store_blk 24 (.tmp 12) (.tmp 36) (w.heap.size + 1 + 1) 24 (u8s z32) (u8s X) rfl rfl ?_ ?_ ?_ ?_ ?_ ?_ ?_); exact R4.out; exact hash_len _ Y1.out; exact size32 _ Y1.out; exact u8s_one _; exact rfl; exact rfl))
      exact ret_blk (p := 12) (ty := 24) rfl rfl (w.heap.size + 1 + 1) 24 _ _ rfl (R4.out.setRow _) Tryd.underlying24 rfl (size32 _ Y1.out) ⟨by rw [XE2.out], below_setRow B4.out (by omega) _⟩
end Go.Proofs.YthcebaegijlbdaaDoor
namespace Go.Proofs.YthcebaegijlbdaaDoor
open Go Go.RowKit Sh

end Go.Proofs.YthcebaegijlbdaaDoor
namespace Go.Proofs.YthcebaegijlbdaaDoor
open Go Go.RowKit Sh

set_option maxRecDepth 100000 in
set_option maxHeartbeats 1000000 in
theorem refcoef_0 (l : List Nat) (A : Option Addr) (n m c : Nat) (w : World) (hn : l.length = n) (hA : Sr w A l) (hb : Bytes l) (hm : m < n * (8 / 1)) (hn2 : n ≤ 34) :
    Calls Tryd.prog 60 #[.slice A n c, .int .i64 (m : Int), .int .i64 1] w fun e w' => e = .returned (.int .i64 (coefN 1 l m : Nat)) ∧ w = w' := by
  obtain ⟨b, o, rfl, _, hc⟩ := hA (by simp at hm; omega)
  have hnp : m / (8 / 1) < n := by simp at hm ⊢; omega
  have c0 := hc (m / (8 / 1)) (by rw [hn]; exact hnp)
  have hx := hb (m / (8 / 1))
  obtain ⟨j, hj⟩ : ∃ j, m / (8 / 1) = j := ⟨_, rfl⟩
  rw [hj] at c0 hx hnp
  obtain ⟨x, hxx⟩ : ∃ x, gt l j = x := ⟨_, rfl⟩
  rw [hxx] at c0 hx
  obtain ⟨s, hs⟩ : ∃ s, 8 - 1 * (m % (8 / 1) + 1) = s := ⟨_, rfl⟩
  have HE := Lib.hid (show coefN 1 l m = x / 2 ^ s % 2 ^ 1 by unfold coefN; rw [hj, hxx, hs])
  have m1 : (m : Int) < 300 := by simp at hm; omega
  have x1 : (x : Int) < 256 := by omega
  have s8 : (s : Int) < 8 := by simp at hs; omega
  have s0 : (0 : Int) ≤ (s : Int) := by omega
  have j1 : (j : Int) < (n : Int) := by omega
  have HX := Lib.hid hx
  obtain ⟨y, hy⟩ : ∃ y, x / 2 ^ s = y := ⟨_, rfl⟩
  have hy2 : y < 256 := by rw [← hy]; exact Nat.lt_of_le_of_lt (Nat.div_le_self _ _) hx
  have y1 : (y : Int) < 256 := by omega
  have HY := Lib.hid hy2; have HYE := Lib.hid hy
  have e3 : (x : Int) / 2 ^ s = (y : Int) := by rw [← hy, Int.natCast_ediv, Int.natCast_pow]; rfl
  clear hy hy2
  have e1 : (m : Int) / 8 = (j : Int) := by simp at hj; omega
  have e2 : (7 : Int) - (m : Int) % 8 = (s : Int) := by simp at hs; omega
  clear hc hn hb hm hn2 hnp hj hxx hs hx
  go_enter Tryd.func60, Tryd.ntmps60
  go_wp2
  go_ret
  refine ⟨?_, rfl⟩
  rw [HE.out]
  show Ending.returned (.int .i64 (bits .and .i64 (y : Int) 1)) = _
  have h := and_low 1 (by decide) y HY.out
  rw [show ((2 ^ 1 - 1 : Nat) : Int) = 1 from rfl] at h
  rw [h, HYE.out]
set_option maxRecDepth 100000 in
set_option maxHeartbeats 1000000 in
theorem refcoef_1 (l : List Nat) (A : Option Addr) (n m c : Nat) (w : World) (hn : l.length = n) (hA : Sr w A l) (hb : Bytes l) (hm : m < n * (8 / 2)) (hn2 : n ≤ 34) :
    Calls Tryd.prog 60 #[.slice A n c, .int .i64 (m : Int), .int .i64 2] w fun e w' => e = .returned (.int .i64 (coefN 2 l m : Nat)) ∧ w = w' := by
  obtain ⟨b, o, rfl, _, hc⟩ := hA (by simp at hm; omega)
  have hnp : m / (8 / 2) < n := by simp at hm ⊢; omega
  have c0 := hc (m / (8 / 2)) (by rw [hn]; exact hnp)
  have hx := hb (m / (8 / 2))
  obtain ⟨j, hj⟩ : ∃ j, m / (8 / 2) = j := ⟨_, rfl⟩
  rw [hj] at c0 hx hnp
  obtain ⟨x, hxx⟩ : ∃ x, gt l j = x := ⟨_, rfl⟩
  rw [hxx] at c0 hx
  obtain ⟨s, hs⟩ : ∃ s, 8 - 2 * (m % (8 / 2) + 1) = s := ⟨_, rfl⟩
  have HE := Lib.hid (show coefN 2 l m = x / 2 ^ s % 2 ^ 2 by unfold coefN; rw [hj, hxx, hs])
  have m1 : (m : Int) < 300 := by simp at hm; omega
  have x1 : (x : Int) < 256 := by omega
  have s8 : (s : Int) < 8 := by simp at hs; omega
  have s0 : (0 : Int) ≤ (s : Int) := by omega
  have j1 : (j : Int) < (n : Int) := by omega
  have HX := Lib.hid hx
  obtain ⟨y, hy⟩ : ∃ y, x / 2 ^ s = y := ⟨_, rfl⟩
  have hy2 : y < 256 := by rw [← hy]; exact Nat.lt_of_le_of_lt (Nat.div_le_self _ _) hx
  have y1 : (y : Int) < 256 := by omega
  have HY := Lib.hid hy2; have HYE := Lib.hid hy
  have e3 : (x : Int) / 2 ^ s = (y : Int) := by rw [← hy, Int.natCast_ediv, Int.natCast_pow]; rfl
  clear hy hy2
  have e1 : (m : Int) * 2 / 8 = (j : Int) := by simp at hj; omega
  have e2 : (6 : Int) - (m : Int) * 2 % 8 = (s : Int) := by simp at hs; omega
  clear hc hn hb hm hn2 hnp hj hxx hs hx
  go_enter Tryd.func60, Tryd.ntmps60
  go_wp2
  go_ret
  refine ⟨?_, rfl⟩
  rw [HE.out]
  show Ending.returned (.int .i64 (bits .and .i64 (y : Int) 3)) = _
  have h := and_low 2 (by decide) y HY.out
  rw [show ((2 ^ 2 - 1 : Nat) : Int) = 3 from rfl] at h
  rw [h, HYE.out]
set_option maxRecDepth 100000 in
set_option maxHeartbeats 1000000 in
theorem refcoef_2 (l : List Nat) (A : Option Addr) (n m c : Nat) (w : World) (hn : l.length = n) (hA : Sr w A l) (hb : Bytes l) (hm : m < n * (8 / 4)) (hn2 : n ≤ 34) :
    Calls Tryd.prog 60 #[.slice A n c, .int .i64 (m : Int), .int .i64 4] w fun e w' => e = .returned (.int .i64 (coefN 4 l m : Nat)) ∧ w = w' := by
  obtain ⟨b, o, rfl, _, hc⟩ := hA (by simp at hm; omega)
  have hnp : m / (8 / 4) < n := by simp at hm ⊢; omega
  have c0 := hc (m / (8 / 4)) (by rw [hn]; exact hnp)
  have hx := hb (m / (8 / 4))
  obtain ⟨j, hj⟩ : ∃ j, m / (8 / 4) = j := ⟨_, rfl⟩
  rw [hj] at c0 hx hnp
  obtain ⟨x, hxx⟩ : ∃ x, gt l j = x := ⟨_, rfl⟩
  rw [hxx] at c0 hx
  obtain ⟨s, hs⟩ : ∃ s, 8 - 4 * (m % (8 / 4) + 1) = s := ⟨_, rfl⟩
  have HE := Lib.hid (show coefN 4 l m = x / 2 ^ s % 2 ^ 4 by unfold coefN; rw [hj, hxx, hs])
  have m1 : (m : Int) < 300 := by simp at hm; omega
  have x1 : (x : Int) < 256 := by omega
  have s8 : (s : Int) < 8 := by simp at hs; omega
  have s0 : (0 : Int) ≤ (s : Int) := by omega
  have j1 : (j : Int) < (n : Int) := by omega
  have HX := Lib.hid hx
  obtain ⟨y, hy⟩ : ∃ y, x / 2 ^ s = y := ⟨_, rfl⟩
  have hy2 : y < 256 := by rw [← hy]; exact Nat.lt_of_le_of_lt (Nat.div_le_self _ _) hx
  have y1 : (y : Int) < 256 := by omega
  have HY := Lib.hid hy2; have HYE := Lib.hid hy
  have e3 : (x : Int) / 2 ^ s = (y : Int) := by rw [← hy, Int.natCast_ediv, Int.natCast_pow]; rfl
  clear hy hy2
  have e1 : (m : Int) * 4 / 8 = (j : Int) := by simp at hj; omega
  have e2 : (4 : Int) - (m : Int) * 4 % 8 = (s : Int) := by simp at hs; omega
  clear hc hn hb hm hn2 hnp hj hxx hs hx
  go_enter Tryd.func60, Tryd.ntmps60
  go_wp2
  go_ret
  refine ⟨?_, rfl⟩
  rw [HE.out]
  show Ending.returned (.int .i64 (bits .and .i64 (y : Int) 15)) = _
  have h := and_low 4 (by decide) y HY.out
  rw [show ((2 ^ 4 - 1 : Nat) : Int) = 15 from rfl] at h
  rw [h, HYE.out]
set_option maxRecDepth 100000 in
set_option maxHeartbeats 1000000 in
theorem refcoef_3 (l : List Nat) (A : Option Addr) (n m c : Nat) (w : World) (hn : l.length = n) (hA : Sr w A l) (hb : Bytes l) (hm : m < n * (8 / 8)) (hn2 : n ≤ 34) :
    Calls Tryd.prog 60 #[.slice A n c, .int .i64 (m : Int), .int .i64 8] w fun e w' => e = .returned (.int .i64 (coefN 8 l m : Nat)) ∧ w = w' := by
  obtain ⟨b, o, rfl, _, hc⟩ := hA (by simp at hm; omega)
  have hnp : m / (8 / 8) < n := by simp at hm ⊢; omega
  have c0 := hc (m / (8 / 8)) (by rw [hn]; exact hnp)
  have hx := hb (m / (8 / 8))
  obtain ⟨j, hj⟩ : ∃ j, m / (8 / 8) = j := ⟨_, rfl⟩
  rw [hj] at c0 hx hnp
  obtain ⟨x, hxx⟩ : ∃ x, gt l j = x := ⟨_, rfl⟩
  rw [hxx] at c0 hx
  obtain ⟨s, hs⟩ : ∃ s, 8 - 8 * (m % (8 / 8) + 1) = s := ⟨_, rfl⟩
  have HE := Lib.hid (show coefN 8 l m = x / 2 ^ s % 2 ^ 8 by unfold coefN; rw [hj, hxx, hs])
  have m1 : (m : Int) < 300 := by simp at hm; omega
  have x1 : (x : Int) < 256 := by omega
  have s8 : (s : Int) < 8 := by simp at hs; omega
  have s0 : (0 : Int) ≤ (s : Int) := by omega
  have j1 : (j : Int) < (n : Int) := by omega
  have HX := Lib.hid hx
  obtain rfl : j = m := by simp at hj; omega
  obtain rfl : s = 0 := by simp at hs; omega
  clear hc hn hb hm hn2 hnp hj hxx hs hx
  go_enter Tryd.func60, Tryd.ntmps60
  go_wp2
  go_ret
  refine ⟨?_, rfl⟩
  rw [HE.out]
  show Ending.returned (.int .i64 (bits .and .i64 (x : Int) 255)) = _
  have h := and_low 8 (by decide) x HX.out
  rw [show ((2 ^ 8 - 1 : Nat) : Int) = 255 from rfl] at h
  rw [h, Nat.pow_zero, Nat.div_one]
theorem refcoef_t (i : Nat) (hi : i < 4) (l : List Nat) (A : Option Addr) (n m c : Nat) (w : World) (hn : l.length = n) (hA : Sr w A l) (hb : Bytes l) (hm : m < n * (8 / (kd i).w)) (hn2 : n ≤ 34) :
    Calls Tryd.prog 60 #[.slice A n c, .int .i64 (m : Int), .int .i64 ((kd i).w : Int)] w fun e w' => e = .returned (.int .i64 (coefN (kd i).w l m : Nat)) ∧ w = w' := by
  have : i = 0 ∨ i = 1 ∨ i = 2 ∨ i = 3 := by omega
  rcases this with rfl | rfl | rfl | rfl
  · exact refcoef_0 l A n m c w hn hA hb hm hn2
  · exact refcoef_1 l A n m c w hn hA hb hm hn2
  · exact refcoef_2 l A n m c w hn hA hb hm hn2
  · exact refcoef_3 l A n m c w hn hA hb hm hn2
end Go.Proofs.YthcebaegijlbdaaDoor
namespace Go.Proofs.YthcebaegijlbdaaDoor
open Go Go.RowKit Sh

/-- The first k digits. -/
def digK (i : Nat) (h : List Nat) (k : Nat) : List Nat := (List.range k).map (digN (kd i).w (kd i).ls h)
theorem digK_succ (i : Nat) (h : List Nat) (k : Nat) : digK i h (k + 1) = digK i h k ++ [digN (kd i).w (kd i).ls h k] := by
  unfold digK; rw [List.range_succ, List.map_append]; rfl
theorem digK_length (i : Nat) (h : List Nat) (k : Nat) : (digK i h k).length = k := by simp [digK]
/-- Rows of unlike element types lie in unlike blocks. -/
theorem own_types {w : World} {base base' : Nat} {e e' : TypeId} {size size' : Nat} {v v' : Value} {n n' : Nat} {xs xs' : List Value} (h : w.ownsRow base e size v n xs) (h' : w.ownsRow base' e' size' v' n' xs') (hne : e ≠ e') (k : Nat) (hk : v.ownBlock = some k) : v'.ownBlock ≠ some k := by
  rcases h.2 with ⟨rfl, _⟩ | ⟨g, cap, cur, rfl, _, hh, _⟩
  · simp [Value.ownBlock] at hk
  · rcases h'.2 with ⟨rfl, _⟩ | ⟨g', cap', cur', rfl, _, hh', _⟩
    · simp [Value.ownBlock]
    · intro he
      have e1 : g = k := by simpa [Value.ownBlock] using hk
      have e2 : g' = k := by simpa [Value.ownBlock] using he
      subst e1
      subst e2
      rw [hh] at hh'
      injection hh' with hh'
      injection hh' with _ ht
      exact hne ht
set_option maxRecDepth 100000 in
set_option maxHeartbeats 1000000 in
theorem refdigits_0 (h : List Nat) (w : World) (hl : h.length = 32) (hb : Bytes h) :
    Calls Tryd.prog 38 #[.int .i64 1, .agg (u8s h).toArray] w fun e w' => ∃ v, e = .returned v ∧ FreshI w w' v (digs 0 h) := by
  have HL := Lib.hid hl; have HB := Lib.hid hb
  have B0 := Lib.hid (((Below.refl w.heap.size w).alloc (Nat.le_refl _) (.cells (u8s h).toArray 24)).alloc (by simp) (.cells #[] 5))
  have SI := Lib.hid (Sr.of_blk (xs := h) (rest := []) ((Blk.new w 24 (u8s h)).alloc (.cells #[] 5)) (by simp))
  clear hl hb
  go_enter Tryd.func38, Tryd.ntmps38
  go_wp2_with ((with_reducible refine at_op (.call { callee := .builtin .append, args := #[.tmp 10, .tmp 11], argTypes := #[27, 27] }) rfl ?_); go_must (refine append_bytes (.tmp 10) (.tmp 11) 27 rfl rfl 5 Tryd.underlying27 byte_info w.heap.size (.slice (some ⟨w.heap.size + 1, 0, none⟩) 0 0) 0 [] h rfl (own_empty _ _ _ (by simp) (by simp)) (some ⟨w.heap.size, 0, none⟩) 32 32 rfl HL.out SI.out (by omega) (by simp; omega) ?_); intro v1 w1 a1 a2 a3)
  have b1 : Below w.heap.size w w1 := B0.out.grown a2.out B0.out.size (fun k e => by have := Option.some.inj e; simp at this; omega)
  have o1 := a1.out
  rw [List.nil_append, Nat.zero_add] at o1
  obtain ⟨A, c, rfl, hc⟩ := own_form o1
  have B1 := Lib.hid b1; have O1 := Lib.hid o1; have S1 := Lib.hid (Sr.of_own o1)
  clear b1 o1 a1 a2 a3 B0 SI hc
  go_loopw [6, 7] (fun s i wr => ∃ k : Nat, k ≤ 256 ∧ i = .int .i64 k ∧ s = .int .i64 ((sumN 1 h k : Nat) : Int) ∧ wr = w1) (fun _ i _ => 256 - (intOf i).toNat)
  case atStart => exact ⟨0, by omega, rfl, rfl, by first | rfl | trivial⟩
  case round =>
    obtain ⟨k, hk, rfl, rfl, rfl⟩ := hrel
    have hsu := sumN_le 1 h k
    by_cases hlt : k < 256
    · have i1 : (k : Int) < 256 := by omega
      have hc := coefN_lt 1 h k
      have HSU := Lib.hid (show sumN 1 h (k + 1) = sumN 1 h k + (2 ^ 1 - 1 - coefN 1 h k) from rfl)
      have CO := Lib.hid (refcoef_0 h A 32 k c wr HL.out S1.out HB.out (by simp; omega) (by decide))
      obtain ⟨d, hd⟩ : ∃ d, coefN 1 h k = d := ⟨_, rfl⟩
      obtain ⟨s, hs⟩ : ∃ s, sumN 1 h k = s := ⟨_, rfl⟩
      rw [hd] at hc HSU CO
      rw [hs] at hsu HSU ⊢
      have d1 : (d : Int) < 2 := by simp at hc; omega
      have s1 : (s : Int) ≤ 8160 := by simp at hsu; omega
      clear hd hs hc hsu
      go_wp2_with fail
      refine CO.out.mono ?_
      rintro e w2 ⟨rfl, rfl⟩
      go_wp2_with fail
      go_roundw
      case rel =>
        refine ⟨k + 1, by omega, by go_num, ?_, by first | rfl | trivial⟩
        rw [HSU.out]; exact congrArg (Value.int .i64) (by omega)
      case measure => simp [intOf]; omega
    · obtain rfl : k = 256 := by omega
      rw [show ((256 : Nat) : Int) = 256 from rfl]
      have SH := Lib.hid (refshift_t 0 (by decide) wr)
      obtain ⟨s, hs⟩ : ∃ s, sumN 1 h 256 = s := ⟨_, rfl⟩
      rw [hs] at hsu ⊢
      have s1 : (s : Int) ≤ 8160 := by simp at hsu; omega
      have HSS := Lib.hid hs; have HSL := Lib.hid hsu
      have HCC := Lib.hid (show cksN 1 7 h = s * 2 ^ 7 by unfold cksN; rw [show 256 / 1 = 256 from rfl, hs])
      clear hs hsu hlt hk
      go_wp2_with fail
      refine SH.out.mono ?_
      rintro e w2 ⟨rfl, rfl⟩
      rw [show (kd 0).ls = 7 from rfl]
      go_upto_region 8 with (fail)
      obtain ⟨C, hC⟩ : ∃ C, s * 2 ^ 7 = C := ⟨_, rfl⟩
      rw [show (s : Int) * 128 = (C : Int) from by simp at hC; omega]
      have hC2 : C < 65536 := by rw [← hC]; have := HSL.out; simp at this ⊢; omega
      rw [hC] at HCC
      obtain ⟨x, hx⟩ : ∃ x, C / 256 = x := ⟨_, rfl⟩
      obtain ⟨y, hy⟩ : ∃ y, C % 256 = y := ⟨_, rfl⟩
      have q1 : (C : Int) / 256 = (x : Int) := by omega
      have q2 : (C : Int) % 256 = (y : Int) := by omega
      have x1 : (x : Int) < 256 := by omega
      have y1 : (y : Int) < 256 := by omega
      have HXT := Lib.hid (show h ++ [x, y] = extN 1 7 h by unfold extN; rw [HCC.out, hx, hy, Nat.mod_eq_of_lt (show x < 256 by omega)])
      have BA := Lib.hid ((Below.refl wr.heap.size wr).alloc (Nat.le_refl _) (.cells (u8s [x, y]).toArray 5))
      clear hC hC2 hx hy
      go_wp2_with ((with_reducible refine at_op (.call { callee := .builtin .append, args := #[.tmp 34, .tmp 40], argTypes := #[27, 27] }) rfl ?_); go_must (refine append_bytes (.tmp 34) (.tmp 40) 27 rfl rfl 5 Tryd.underlying27 byte_info w.heap.size (.slice A 32 c) 32 h [x, y] rfl (own_below O1.out BA.out) (some ⟨wr.heap.size, 0, none⟩) 2 2 rfl rfl (Sr.made [x, y] wr _ _) (by omega) (by have := B1.out.size; simp; omega) ?_); intro v3 w3 e1 e2 e3)
      have b3 : Below w.heap.size w w3 := (B1.out.alloc B1.out.size _).grown e2.out (by have := B1.out.size; simp; omega) (fun k e => (O1.out.lt k e).1)
      have o3 := e1.out
      rw [HXT.out, show 32 + 2 = 34 from rfl] at o3
      obtain ⟨A3, c3, rfl, hc3⟩ := own_form o3
      have HE := Lib.hid (show (extN 1 7 h).length = 34 from extN_length _ _ _ HL.out)
      have HEB := Lib.hid (extN_bytes 1 7 h HB.out)
      have B3 := Lib.hid b3; have O3 := Lib.hid o3
      clear b3 o3 e1 e2 e3 hc3 q1 q2 x1 y1
      go_loopw [8, 9] (fun o i wx => ∃ k : Nat, k ≤ 265 ∧ i = .int .i64 k ∧ wx.ownsRow w.heap.size 3 1 o k (ints (digK 0 h k)) ∧ wx.ownsRow w.heap.size 5 1 (.slice A3 34 c3) 34 (u8s (extN 1 7 h)) ∧ Below w.heap.size w wx) (fun _ i _ => 265 - (intOf i).toNat)
      case atStart => exact ⟨0, by omega, rfl, int_nil_own _ _, O3.out, B3.out⟩
      case round =>
        clear B3 O3
        obtain ⟨k, hk, rfl, oo, ob, bw⟩ := hrel
        have OO := Lib.hid oo; have OB := Lib.hid ob; have BW := Lib.hid bw
        have CH := Lib.hid (refchains_t 0 (by decide) wr)
        clear oo ob bw
        by_cases hlt : k < 265
        · have i1 : (k : Int) < 265 := by omega
          have CO := Lib.hid (refcoef_0 (extN 1 7 h) A3 34 k c3 wr HE.out (Sr.of_own OB.out) HEB.out (by simp; omega) (by decide))
          have HD := Lib.hid (show coefN 1 (extN 1 7 h) k = digN (kd 0).w (kd 0).ls h k from rfl)
          obtain ⟨d, hd⟩ : ∃ d, coefN 1 (extN 1 7 h) k = d := ⟨_, rfl⟩
          rw [hd] at CO HD
          clear hd
          go_wp2_with fail
          refine CH.out.mono ?_
          rintro e w4 ⟨rfl, rfl⟩
          rw [show (kd 0).p = 265 from rfl]
          go_wp2_with fail
          refine CO.out.mono ?_
          rintro e w5 ⟨rfl, rfl⟩
          have BB := Lib.hid ((Below.refl wr.heap.size wr).alloc (Nat.le_refl _) (.cells #[.int .i64 (d : Int)] 3))
          go_wp2_with ((with_reducible refine at_op (.call { callee := .builtin .append, args := #[.tmp 48, .tmp 53], argTypes := #[45, 45] }) rfl ?_); go_must (refine append_cells (.tmp 48) (.tmp 53) 45 rfl rfl 3 (.int .i64 0) 8 Tryd.underlying45 int_info rfl w.heap.size _ k _ (ints [d]) rfl (own_below OO.out BB.out) ⟨wr.heap.size, 0, none⟩ 1 1 rfl rfl (fun j u hu => by rw [Addr.add_mid, Nat.zero_add]; exact ((Blk.new wr 3 (ints [d])).cell j).trans hu) (ints_each _) (by unfold maxLen; omega) (by omega) (by have := BW.out.size; simp; omega) ?_); intro v6 w6 a1 a2 a3)
          go_roundw
          case rel =>
            refine ⟨k + 1, by omega, by go_num, ?_, ?_, ?_⟩
            · have h := a1.out
              rw [← ints_app] at h
              rw [digK_succ, ← HD.out]
              exact h
            · have h := own_below OB.out BB.out
              exact own_kept (F := fun q => _ = some q) h ((Kept.refl (fun q => _ = some q) _).grown a2.out (fun q e => .inl e)) (fun q e he => own_types h (own_below OO.out BB.out) (by decide) q e he)
            · exact (BW.out.alloc BW.out.size _).grown a2.out (by have := BW.out.size; simp; omega) (fun i e => (OO.out.lt i e).1)
          case measure => simp [intOf]; omega
        · obtain rfl : k = 265 := by omega
          go_wp2_with fail
          refine CH.out.mono ?_
          rintro e w4 ⟨rfl, rfl⟩
          rw [show (kd 0).p = 265 from rfl]
          go_wp2_with fail
          go_ret
          refine ⟨_, rfl, ?_, BW.out⟩
          rw [digs_length]
          exact OO.out
set_option maxRecDepth 100000 in
set_option maxHeartbeats 1000000 in
theorem refdigits_1 (h : List Nat) (w : World) (hl : h.length = 32) (hb : Bytes h) :
    Calls Tryd.prog 38 #[.int .i64 2, .agg (u8s h).toArray] w fun e w' => ∃ v, e = .returned v ∧ FreshI w w' v (digs 1 h) := by
  have HL := Lib.hid hl; have HB := Lib.hid hb
  have B0 := Lib.hid (((Below.refl w.heap.size w).alloc (Nat.le_refl _) (.cells (u8s h).toArray 24)).alloc (by simp) (.cells #[] 5))
  have SI := Lib.hid (Sr.of_blk (xs := h) (rest := []) ((Blk.new w 24 (u8s h)).alloc (.cells #[] 5)) (by simp))
  clear hl hb
  go_enter Tryd.func38, Tryd.ntmps38
  go_wp2_with ((with_reducible refine at_op (.call { callee := .builtin .append, args := #[.tmp 10, .tmp 11], argTypes := #[27, 27] }) rfl ?_); go_must (refine append_bytes (.tmp 10) (.tmp 11) 27 rfl rfl 5 Tryd.underlying27 byte_info w.heap.size (.slice (some ⟨w.heap.size + 1, 0, none⟩) 0 0) 0 [] h rfl (own_empty _ _ _ (by simp) (by simp)) (some ⟨w.heap.size, 0, none⟩) 32 32 rfl HL.out SI.out (by omega) (by simp; omega) ?_); intro v1 w1 a1 a2 a3)
  have b1 : Below w.heap.size w w1 := B0.out.grown a2.out B0.out.size (fun k e => by have := Option.some.inj e; simp at this; omega)
  have o1 := a1.out
  rw [List.nil_append, Nat.zero_add] at o1
  obtain ⟨A, c, rfl, hc⟩ := own_form o1
  have B1 := Lib.hid b1; have O1 := Lib.hid o1; have S1 := Lib.hid (Sr.of_own o1)
  clear b1 o1 a1 a2 a3 B0 SI hc
  go_loopw [6, 7] (fun s i wr => ∃ k : Nat, k ≤ 128 ∧ i = .int .i64 k ∧ s = .int .i64 ((sumN 2 h k : Nat) : Int) ∧ wr = w1) (fun _ i _ => 128 - (intOf i).toNat)
  case atStart => exact ⟨0, by omega, rfl, rfl, by first | rfl | trivial⟩
  case round =>
    obtain ⟨k, hk, rfl, rfl, rfl⟩ := hrel
    have hsu := sumN_le 2 h k
    by_cases hlt : k < 128
    · have i1 : (k : Int) < 128 := by omega
      have hc := coefN_lt 2 h k
      have HSU := Lib.hid (show sumN 2 h (k + 1) = sumN 2 h k + (2 ^ 2 - 1 - coefN 2 h k) from rfl)
      have CO := Lib.hid (refcoef_1 h A 32 k c wr HL.out S1.out HB.out (by simp; omega) (by decide))
      obtain ⟨d, hd⟩ : ∃ d, coefN 2 h k = d := ⟨_, rfl⟩
      obtain ⟨s, hs⟩ : ∃ s, sumN 2 h k = s := ⟨_, rfl⟩
      rw [hd] at hc HSU CO
      rw [hs] at hsu HSU ⊢
      have d1 : (d : Int) < 4 := by simp at hc; omega
      have s1 : (s : Int) ≤ 8160 := by simp at hsu; omega
      clear hd hs hc hsu
      go_wp2_with fail
      refine CO.out.mono ?_
      rintro e w2 ⟨rfl, rfl⟩
      go_wp2_with fail
      go_roundw
      case rel =>
        refine ⟨k + 1, by omega, by go_num, ?_, by first | rfl | trivial⟩
        rw [HSU.out]; exact congrArg (Value.int .i64) (by omega)
      case measure => simp [intOf]; omega
    · obtain rfl : k = 128 := by omega
      rw [show ((128 : Nat) : Int) = 128 from rfl]
      have SH := Lib.hid (refshift_t 1 (by decide) wr)
      obtain ⟨s, hs⟩ : ∃ s, sumN 2 h 128 = s := ⟨_, rfl⟩
      rw [hs] at hsu ⊢
      have s1 : (s : Int) ≤ 8160 := by simp at hsu; omega
      have HSS := Lib.hid hs; have HSL := Lib.hid hsu
      have HCC := Lib.hid (show cksN 2 6 h = s * 2 ^ 6 by unfold cksN; rw [show 256 / 2 = 128 from rfl, hs])
      clear hs hsu hlt hk
      go_wp2_with fail
      refine SH.out.mono ?_
      rintro e w2 ⟨rfl, rfl⟩
      rw [show (kd 1).ls = 6 from rfl]
      go_upto_region 8 with (fail)
      obtain ⟨C, hC⟩ : ∃ C, s * 2 ^ 6 = C := ⟨_, rfl⟩
      rw [show (s : Int) * 64 = (C : Int) from by simp at hC; omega]
      have hC2 : C < 65536 := by rw [← hC]; have := HSL.out; simp at this ⊢; omega
      rw [hC] at HCC
      obtain ⟨x, hx⟩ : ∃ x, C / 256 = x := ⟨_, rfl⟩
      obtain ⟨y, hy⟩ : ∃ y, C % 256 = y := ⟨_, rfl⟩
      have q1 : (C : Int) / 256 = (x : Int) := by omega
      have q2 : (C : Int) % 256 = (y : Int) := by omega
      have x1 : (x : Int) < 256 := by omega
      have y1 : (y : Int) < 256 := by omega
      have HXT := Lib.hid (show h ++ [x, y] = extN 2 6 h by unfold extN; rw [HCC.out, hx, hy, Nat.mod_eq_of_lt (show x < 256 by omega)])
      have BA := Lib.hid ((Below.refl wr.heap.size wr).alloc (Nat.le_refl _) (.cells (u8s [x, y]).toArray 5))
      clear hC hC2 hx hy
      go_wp2_with ((with_reducible refine at_op (.call { callee := .builtin .append, args := #[.tmp 34, .tmp 40], argTypes := #[27, 27] }) rfl ?_); go_must (refine append_bytes (.tmp 34) (.tmp 40) 27 rfl rfl 5 Tryd.underlying27 byte_info w.heap.size (.slice A 32 c) 32 h [x, y] rfl (own_below O1.out BA.out) (some ⟨wr.heap.size, 0, none⟩) 2 2 rfl rfl (Sr.made [x, y] wr _ _) (by omega) (by have := B1.out.size; simp; omega) ?_); intro v3 w3 e1 e2 e3)
      have b3 : Below w.heap.size w w3 := (B1.out.alloc B1.out.size _).grown e2.out (by have := B1.out.size; simp; omega) (fun k e => (O1.out.lt k e).1)
      have o3 := e1.out
      rw [HXT.out, show 32 + 2 = 34 from rfl] at o3
      obtain ⟨A3, c3, rfl, hc3⟩ := own_form o3
      have HE := Lib.hid (show (extN 2 6 h).length = 34 from extN_length _ _ _ HL.out)
      have HEB := Lib.hid (extN_bytes 2 6 h HB.out)
      have B3 := Lib.hid b3; have O3 := Lib.hid o3
      clear b3 o3 e1 e2 e3 hc3 q1 q2 x1 y1
      go_loopw [8, 9] (fun o i wx => ∃ k : Nat, k ≤ 133 ∧ i = .int .i64 k ∧ wx.ownsRow w.heap.size 3 1 o k (ints (digK 1 h k)) ∧ wx.ownsRow w.heap.size 5 1 (.slice A3 34 c3) 34 (u8s (extN 2 6 h)) ∧ Below w.heap.size w wx) (fun _ i _ => 133 - (intOf i).toNat)
      case atStart => exact ⟨0, by omega, rfl, int_nil_own _ _, O3.out, B3.out⟩
      case round =>
        clear B3 O3
        obtain ⟨k, hk, rfl, oo, ob, bw⟩ := hrel
        have OO := Lib.hid oo; have OB := Lib.hid ob; have BW := Lib.hid bw
        have CH := Lib.hid (refchains_t 1 (by decide) wr)
        clear oo ob bw
        by_cases hlt : k < 133
        · have i1 : (k : Int) < 133 := by omega
          have CO := Lib.hid (refcoef_1 (extN 2 6 h) A3 34 k c3 wr HE.out (Sr.of_own OB.out) HEB.out (by simp; omega) (by decide))
          have HD := Lib.hid (show coefN 2 (extN 2 6 h) k = digN (kd 1).w (kd 1).ls h k from rfl)
          obtain ⟨d, hd⟩ : ∃ d, coefN 2 (extN 2 6 h) k = d := ⟨_, rfl⟩
          rw [hd] at CO HD
          clear hd
          go_wp2_with fail
          refine CH.out.mono ?_
          rintro e w4 ⟨rfl, rfl⟩
          rw [show (kd 1).p = 133 from rfl]
          go_wp2_with fail
          refine CO.out.mono ?_
          rintro e w5 ⟨rfl, rfl⟩
          have BB := Lib.hid ((Below.refl wr.heap.size wr).alloc (Nat.le_refl _) (.cells #[.int .i64 (d : Int)] 3))
          go_wp2_with ((with_reducible refine at_op (.call { callee := .builtin .append, args := #[.tmp 48, .tmp 53], argTypes := #[45, 45] }) rfl ?_); go_must (refine append_cells (.tmp 48) (.tmp 53) 45 rfl rfl 3 (.int .i64 0) 8 Tryd.underlying45 int_info rfl w.heap.size _ k _ (ints [d]) rfl (own_below OO.out BB.out) ⟨wr.heap.size, 0, none⟩ 1 1 rfl rfl (fun j u hu => by rw [Addr.add_mid, Nat.zero_add]; exact ((Blk.new wr 3 (ints [d])).cell j).trans hu) (ints_each _) (by unfold maxLen; omega) (by omega) (by have := BW.out.size; simp; omega) ?_); intro v6 w6 a1 a2 a3)
          go_roundw
          case rel =>
            refine ⟨k + 1, by omega, by go_num, ?_, ?_, ?_⟩
            · have h := a1.out
              rw [← ints_app] at h
              rw [digK_succ, ← HD.out]
              exact h
            · have h := own_below OB.out BB.out
              exact own_kept (F := fun q => _ = some q) h ((Kept.refl (fun q => _ = some q) _).grown a2.out (fun q e => .inl e)) (fun q e he => own_types h (own_below OO.out BB.out) (by decide) q e he)
            · exact (BW.out.alloc BW.out.size _).grown a2.out (by have := BW.out.size; simp; omega) (fun i e => (OO.out.lt i e).1)
          case measure => simp [intOf]; omega
        · obtain rfl : k = 133 := by omega
          go_wp2_with fail
          refine CH.out.mono ?_
          rintro e w4 ⟨rfl, rfl⟩
          rw [show (kd 1).p = 133 from rfl]
          go_wp2_with fail
          go_ret
          refine ⟨_, rfl, ?_, BW.out⟩
          rw [digs_length]
          exact OO.out
set_option maxRecDepth 100000 in
set_option maxHeartbeats 1000000 in
theorem refdigits_2 (h : List Nat) (w : World) (hl : h.length = 32) (hb : Bytes h) :
    Calls Tryd.prog 38 #[.int .i64 4, .agg (u8s h).toArray] w fun e w' => ∃ v, e = .returned v ∧ FreshI w w' v (digs 2 h) := by
  have HL := Lib.hid hl; have HB := Lib.hid hb
  have B0 := Lib.hid (((Below.refl w.heap.size w).alloc (Nat.le_refl _) (.cells (u8s h).toArray 24)).alloc (by simp) (.cells #[] 5))
  have SI := Lib.hid (Sr.of_blk (xs := h) (rest := []) ((Blk.new w 24 (u8s h)).alloc (.cells #[] 5)) (by simp))
  clear hl hb
  go_enter Tryd.func38, Tryd.ntmps38
  go_wp2_with ((with_reducible refine at_op (.call { callee := .builtin .append, args := #[.tmp 10, .tmp 11], argTypes := #[27, 27] }) rfl ?_); go_must (refine append_bytes (.tmp 10) (.tmp 11) 27 rfl rfl 5 Tryd.underlying27 byte_info w.heap.size (.slice (some ⟨w.heap.size + 1, 0, none⟩) 0 0) 0 [] h rfl (own_empty _ _ _ (by simp) (by simp)) (some ⟨w.heap.size, 0, none⟩) 32 32 rfl HL.out SI.out (by omega) (by simp; omega) ?_); intro v1 w1 a1 a2 a3)
  have b1 : Below w.heap.size w w1 := B0.out.grown a2.out B0.out.size (fun k e => by have := Option.some.inj e; simp at this; omega)
  have o1 := a1.out
  rw [List.nil_append, Nat.zero_add] at o1
  obtain ⟨A, c, rfl, hc⟩ := own_form o1
  have B1 := Lib.hid b1; have O1 := Lib.hid o1; have S1 := Lib.hid (Sr.of_own o1)
  clear b1 o1 a1 a2 a3 B0 SI hc
  go_loopw [6, 7] (fun s i wr => ∃ k : Nat, k ≤ 64 ∧ i = .int .i64 k ∧ s = .int .i64 ((sumN 4 h k : Nat) : Int) ∧ wr = w1) (fun _ i _ => 64 - (intOf i).toNat)
  case atStart => exact ⟨0, by omega, rfl, rfl, by first | rfl | trivial⟩
  case round =>
    obtain ⟨k, hk, rfl, rfl, rfl⟩ := hrel
    have hsu := sumN_le 4 h k
    by_cases hlt : k < 64
    · have i1 : (k : Int) < 64 := by omega
      have hc := coefN_lt 4 h k
      have HSU := Lib.hid (show sumN 4 h (k + 1) = sumN 4 h k + (2 ^ 4 - 1 - coefN 4 h k) from rfl)
      have CO := Lib.hid (refcoef_2 h A 32 k c wr HL.out S1.out HB.out (by simp; omega) (by decide))
      obtain ⟨d, hd⟩ : ∃ d, coefN 4 h k = d := ⟨_, rfl⟩
      obtain ⟨s, hs⟩ : ∃ s, sumN 4 h k = s := ⟨_, rfl⟩
      rw [hd] at hc HSU CO
      rw [hs] at hsu HSU ⊢
      have d1 : (d : Int) < 16 := by simp at hc; omega
      have s1 : (s : Int) ≤ 8160 := by simp at hsu; omega
      clear hd hs hc hsu
      go_wp2_with fail
      refine CO.out.mono ?_
      rintro e w2 ⟨rfl, rfl⟩
      go_wp2_with fail
      go_roundw
      case rel =>
        refine ⟨k + 1, by omega, by go_num, ?_, by first | rfl | trivial⟩
        rw [HSU.out]; exact congrArg (Value.int .i64) (by omega)
      case measure => simp [intOf]; omega
    · obtain rfl : k = 64 := by omega
      rw [show ((64 : Nat) : Int) = 64 from rfl]
      have SH := Lib.hid (refshift_t 2 (by decide) wr)
      obtain ⟨s, hs⟩ : ∃ s, sumN 4 h 64 = s := ⟨_, rfl⟩
      rw [hs] at hsu ⊢
      have s1 : (s : Int) ≤ 8160 := by simp at hsu; omega
      have HSS := Lib.hid hs; have HSL := Lib.hid hsu
      have HCC := Lib.hid (show cksN 4 4 h = s * 2 ^ 4 by unfold cksN; rw [show 256 / 4 = 64 from rfl, hs])
      clear hs hsu hlt hk
      go_wp2_with fail
      refine SH.out.mono ?_
      rintro e w2 ⟨rfl, rfl⟩
      rw [show (kd 2).ls = 4 from rfl]
      go_upto_region 8 with (fail)
      obtain ⟨C, hC⟩ : ∃ C, s * 2 ^ 4 = C := ⟨_, rfl⟩
      rw [show (s : Int) * 16 = (C : Int) from by simp at hC; omega]
      have hC2 : C < 65536 := by rw [← hC]; have := HSL.out; simp at this ⊢; omega
      rw [hC] at HCC
      obtain ⟨x, hx⟩ : ∃ x, C / 256 = x := ⟨_, rfl⟩
      obtain ⟨y, hy⟩ : ∃ y, C % 256 = y := ⟨_, rfl⟩
      have q1 : (C : Int) / 256 = (x : Int) := by omega
      have q2 : (C : Int) % 256 = (y : Int) := by omega
      have x1 : (x : Int) < 256 := by omega
      have y1 : (y : Int) < 256 := by omega
      have HXT := Lib.hid (show h ++ [x, y] = extN 4 4 h by unfold extN; rw [HCC.out, hx, hy, Nat.mod_eq_of_lt (show x < 256 by omega)])
      have BA := Lib.hid ((Below.refl wr.heap.size wr).alloc (Nat.le_refl _) (.cells (u8s [x, y]).toArray 5))
      clear hC hC2 hx hy
      go_wp2_with ((with_reducible refine at_op (.call { callee := .builtin .append, args := #[.tmp 34, .tmp 40], argTypes := #[27, 27] }) rfl ?_); go_must (refine append_bytes (.tmp 34) (.tmp 40) 27 rfl rfl 5 Tryd.underlying27 byte_info w.heap.size (.slice A 32 c) 32 h [x, y] rfl (own_below O1.out BA.out) (some ⟨wr.heap.size, 0, none⟩) 2 2 rfl rfl (Sr.made [x, y] wr _ _) (by omega) (by have := B1.out.size; simp; omega) ?_); intro v3 w3 e1 e2 e3)
      have b3 : Below w.heap.size w w3 := (B1.out.alloc B1.out.size _).grown e2.out (by have := B1.out.size; simp; omega) (fun k e => (O1.out.lt k e).1)
      have o3 := e1.out
      rw [HXT.out, show 32 + 2 = 34 from rfl] at o3
      obtain ⟨A3, c3, rfl, hc3⟩ := own_form o3
      have HE := Lib.hid (show (extN 4 4 h).length = 34 from extN_length _ _ _ HL.out)
      have HEB := Lib.hid (extN_bytes 4 4 h HB.out)
      have B3 := Lib.hid b3; have O3 := Lib.hid o3
      clear b3 o3 e1 e2 e3 hc3 q1 q2 x1 y1
      go_loopw [8, 9] (fun o i wx => ∃ k : Nat, k ≤ 67 ∧ i = .int .i64 k ∧ wx.ownsRow w.heap.size 3 1 o k (ints (digK 2 h k)) ∧ wx.ownsRow w.heap.size 5 1 (.slice A3 34 c3) 34 (u8s (extN 4 4 h)) ∧ Below w.heap.size w wx) (fun _ i _ => 67 - (intOf i).toNat)
      case atStart => exact ⟨0, by omega, rfl, int_nil_own _ _, O3.out, B3.out⟩
      case round =>
        clear B3 O3
        obtain ⟨k, hk, rfl, oo, ob, bw⟩ := hrel
        have OO := Lib.hid oo; have OB := Lib.hid ob; have BW := Lib.hid bw
        have CH := Lib.hid (refchains_t 2 (by decide) wr)
        clear oo ob bw
        by_cases hlt : k < 67
        · have i1 : (k : Int) < 67 := by omega
          have CO := Lib.hid (refcoef_2 (extN 4 4 h) A3 34 k c3 wr HE.out (Sr.of_own OB.out) HEB.out (by simp; omega) (by decide))
          have HD := Lib.hid (show coefN 4 (extN 4 4 h) k = digN (kd 2).w (kd 2).ls h k from rfl)
          obtain ⟨d, hd⟩ : ∃ d, coefN 4 (extN 4 4 h) k = d := ⟨_, rfl⟩
          rw [hd] at CO HD
          clear hd
          go_wp2_with fail
          refine CH.out.mono ?_
          rintro e w4 ⟨rfl, rfl⟩
          rw [show (kd 2).p = 67 from rfl]
          go_wp2_with fail
          refine CO.out.mono ?_
          rintro e w5 ⟨rfl, rfl⟩
          have BB := Lib.hid ((Below.refl wr.heap.size wr).alloc (Nat.le_refl _) (.cells #[.int .i64 (d : Int)] 3))
          go_wp2_with ((with_reducible refine at_op (.call { callee := .builtin .append, args := #[.tmp 48, .tmp 53], argTypes := #[45, 45] }) rfl ?_); go_must (refine append_cells (.tmp 48) (.tmp 53) 45 rfl rfl 3 (.int .i64 0) 8 Tryd.underlying45 int_info rfl w.heap.size _ k _ (ints [d]) rfl (own_below OO.out BB.out) ⟨wr.heap.size, 0, none⟩ 1 1 rfl rfl (fun j u hu => by rw [Addr.add_mid, Nat.zero_add]; exact ((Blk.new wr 3 (ints [d])).cell j).trans hu) (ints_each _) (by unfold maxLen; omega) (by omega) (by have := BW.out.size; simp; omega) ?_); intro v6 w6 a1 a2 a3)
          go_roundw
          case rel =>
            refine ⟨k + 1, by omega, by go_num, ?_, ?_, ?_⟩
            · have h := a1.out
              rw [← ints_app] at h
              rw [digK_succ, ← HD.out]
              exact h
            · have h := own_below OB.out BB.out
              exact own_kept (F := fun q => _ = some q) h ((Kept.refl (fun q => _ = some q) _).grown a2.out (fun q e => .inl e)) (fun q e he => own_types h (own_below OO.out BB.out) (by decide) q e he)
            · exact (BW.out.alloc BW.out.size _).grown a2.out (by have := BW.out.size; simp; omega) (fun i e => (OO.out.lt i e).1)
          case measure => simp [intOf]; omega
        · obtain rfl : k = 67 := by omega
          go_wp2_with fail
          refine CH.out.mono ?_
          rintro e w4 ⟨rfl, rfl⟩
          rw [show (kd 2).p = 67 from rfl]
          go_wp2_with fail
          go_ret
          refine ⟨_, rfl, ?_, BW.out⟩
          rw [digs_length]
          exact OO.out
set_option maxRecDepth 100000 in
set_option maxHeartbeats 1000000 in
theorem refdigits_3 (h : List Nat) (w : World) (hl : h.length = 32) (hb : Bytes h) :
    Calls Tryd.prog 38 #[.int .i64 8, .agg (u8s h).toArray] w fun e w' => ∃ v, e = .returned v ∧ FreshI w w' v (digs 3 h) := by
  have HL := Lib.hid hl; have HB := Lib.hid hb
  have B0 := Lib.hid (((Below.refl w.heap.size w).alloc (Nat.le_refl _) (.cells (u8s h).toArray 24)).alloc (by simp) (.cells #[] 5))
  have SI := Lib.hid (Sr.of_blk (xs := h) (rest := []) ((Blk.new w 24 (u8s h)).alloc (.cells #[] 5)) (by simp))
  clear hl hb
  go_enter Tryd.func38, Tryd.ntmps38
  go_wp2_with ((with_reducible refine at_op (.call { callee := .builtin .append, args := #[.tmp 10, .tmp 11], argTypes := #[27, 27] }) rfl ?_); go_must (refine append_bytes (.tmp 10) (.tmp 11) 27 rfl rfl 5 Tryd.underlying27 byte_info w.heap.size (.slice (some ⟨w.heap.size + 1, 0, none⟩) 0 0) 0 [] h rfl (own_empty _ _ _ (by simp) (by simp)) (some ⟨w.heap.size, 0, none⟩) 32 32 rfl HL.out SI.out (by omega) (by simp; omega) ?_); intro v1 w1 a1 a2 a3)
  have b1 : Below w.heap.size w w1 := B0.out.grown a2.out B0.out.size (fun k e => by have := Option.some.inj e; simp at this; omega)
  have o1 := a1.out
  rw [List.nil_append, Nat.zero_add] at o1
  obtain ⟨A, c, rfl, hc⟩ := own_form o1
  have B1 := Lib.hid b1; have O1 := Lib.hid o1; have S1 := Lib.hid (Sr.of_own o1)
  clear b1 o1 a1 a2 a3 B0 SI hc
  go_loopw [6, 7] (fun s i wr => ∃ k : Nat, k ≤ 32 ∧ i = .int .i64 k ∧ s = .int .i64 ((sumN 8 h k : Nat) : Int) ∧ wr = w1) (fun _ i _ => 32 - (intOf i).toNat)
  case atStart => exact ⟨0, by omega, rfl, rfl, by first | rfl | trivial⟩
  case round =>
    obtain ⟨k, hk, rfl, rfl, rfl⟩ := hrel
    have hsu := sumN_le 8 h k
    by_cases hlt : k < 32
    · have i1 : (k : Int) < 32 := by omega
      have hc := coefN_lt 8 h k
      have HSU := Lib.hid (show sumN 8 h (k + 1) = sumN 8 h k + (2 ^ 8 - 1 - coefN 8 h k) from rfl)
      have CO := Lib.hid (refcoef_3 h A 32 k c wr HL.out S1.out HB.out (by simp; omega) (by decide))
      obtain ⟨d, hd⟩ : ∃ d, coefN 8 h k = d := ⟨_, rfl⟩
      obtain ⟨s, hs⟩ : ∃ s, sumN 8 h k = s := ⟨_, rfl⟩
      rw [hd] at hc HSU CO
      rw [hs] at hsu HSU ⊢
      have d1 : (d : Int) < 256 := by simp at hc; omega
      have s1 : (s : Int) ≤ 8160 := by simp at hsu; omega
      clear hd hs hc hsu
      go_wp2_with fail
      refine CO.out.mono ?_
      rintro e w2 ⟨rfl, rfl⟩
      go_wp2_with fail
      go_roundw
      case rel =>
        refine ⟨k + 1, by omega, by go_num, ?_, by first | rfl | trivial⟩
        rw [HSU.out]; exact congrArg (Value.int .i64) (by omega)
      case measure => simp [intOf]; omega
    · obtain rfl : k = 32 := by omega
      rw [show ((32 : Nat) : Int) = 32 from rfl]
      have SH := Lib.hid (refshift_t 3 (by decide) wr)
      obtain ⟨s, hs⟩ : ∃ s, sumN 8 h 32 = s := ⟨_, rfl⟩
      rw [hs] at hsu ⊢
      have s1 : (s : Int) ≤ 8160 := by simp at hsu; omega
      have HSS := Lib.hid hs; have HSL := Lib.hid hsu
      have HCC := Lib.hid (show cksN 8 0 h = s * 2 ^ 0 by unfold cksN; rw [show 256 / 8 = 32 from rfl, hs])
      clear hs hsu hlt hk
      go_wp2_with fail
      refine SH.out.mono ?_
      rintro e w2 ⟨rfl, rfl⟩
      rw [show (kd 3).ls = 0 from rfl]
      go_upto_region 8 with (fail)
      obtain ⟨C, hC⟩ : ∃ C, s * 2 ^ 0 = C := ⟨_, rfl⟩
      rw [show (s : Int) = (C : Int) from by simp at hC; omega]
      have hC2 : C < 65536 := by rw [← hC]; have := HSL.out; simp at this ⊢; omega
      rw [hC] at HCC
      obtain ⟨x, hx⟩ : ∃ x, C / 256 = x := ⟨_, rfl⟩
      obtain ⟨y, hy⟩ : ∃ y, C % 256 = y := ⟨_, rfl⟩
      have q1 : (C : Int) / 256 = (x : Int) := by omega
      have q2 : (C : Int) % 256 = (y : Int) := by omega
      have x1 : (x : Int) < 256 := by omega
      have y1 : (y : Int) < 256 := by omega
      have HXT := Lib.hid (show h ++ [x, y] = extN 8 0 h by unfold extN; rw [HCC.out, hx, hy, Nat.mod_eq_of_lt (show x < 256 by omega)])
      have BA := Lib.hid ((Below.refl wr.heap.size wr).alloc (Nat.le_refl _) (.cells (u8s [x, y]).toArray 5))
      clear hC hC2 hx hy
      go_wp2_with ((with_reducible refine at_op (.call { callee := .builtin .append, args := #[.tmp 34, .tmp 40], argTypes := #[27, 27] }) rfl ?_); go_must (refine append_bytes (.tmp 34) (.tmp 40) 27 rfl rfl 5 Tryd.underlying27 byte_info w.heap.size (.slice A 32 c) 32 h [x, y] rfl (own_below O1.out BA.out) (some ⟨wr.heap.size, 0, none⟩) 2 2 rfl rfl (Sr.made [x, y] wr _ _) (by omega) (by have := B1.out.size; simp; omega) ?_); intro v3 w3 e1 e2 e3)
      have b3 : Below w.heap.size w w3 := (B1.out.alloc B1.out.size _).grown e2.out (by have := B1.out.size; simp; omega) (fun k e => (O1.out.lt k e).1)
      have o3 := e1.out
      rw [HXT.out, show 32 + 2 = 34 from rfl] at o3
      obtain ⟨A3, c3, rfl, hc3⟩ := own_form o3
      have HE := Lib.hid (show (extN 8 0 h).length = 34 from extN_length _ _ _ HL.out)
      have HEB := Lib.hid (extN_bytes 8 0 h HB.out)
      have B3 := Lib.hid b3; have O3 := Lib.hid o3
      clear b3 o3 e1 e2 e3 hc3 q1 q2 x1 y1
      go_loopw [8, 9] (fun o i wx => ∃ k : Nat, k ≤ 34 ∧ i = .int .i64 k ∧ wx.ownsRow w.heap.size 3 1 o k (ints (digK 3 h k)) ∧ wx.ownsRow w.heap.size 5 1 (.slice A3 34 c3) 34 (u8s (extN 8 0 h)) ∧ Below w.heap.size w wx) (fun _ i _ => 34 - (intOf i).toNat)
      case atStart => exact ⟨0, by omega, rfl, int_nil_own _ _, O3.out, B3.out⟩
      case round =>
        clear B3 O3
        obtain ⟨k, hk, rfl, oo, ob, bw⟩ := hrel
        have OO := Lib.hid oo; have OB := Lib.hid ob; have BW := Lib.hid bw
        have CH := Lib.hid (refchains_t 3 (by decide) wr)
        clear oo ob bw
        by_cases hlt : k < 34
        · have i1 : (k : Int) < 34 := by omega
          have CO := Lib.hid (refcoef_3 (extN 8 0 h) A3 34 k c3 wr HE.out (Sr.of_own OB.out) HEB.out (by simp; omega) (by decide))
          have HD := Lib.hid (show coefN 8 (extN 8 0 h) k = digN (kd 3).w (kd 3).ls h k from rfl)
          obtain ⟨d, hd⟩ : ∃ d, coefN 8 (extN 8 0 h) k = d := ⟨_, rfl⟩
          rw [hd] at CO HD
          clear hd
          go_wp2_with fail
          refine CH.out.mono ?_
          rintro e w4 ⟨rfl, rfl⟩
          rw [show (kd 3).p = 34 from rfl]
          go_wp2_with fail
          refine CO.out.mono ?_
          rintro e w5 ⟨rfl, rfl⟩
          have BB := Lib.hid ((Below.refl wr.heap.size wr).alloc (Nat.le_refl _) (.cells #[.int .i64 (d : Int)] 3))
          go_wp2_with ((with_reducible refine at_op (.call { callee := .builtin .append, args := #[.tmp 48, .tmp 53], argTypes := #[45, 45] }) rfl ?_); go_must (refine append_cells (.tmp 48) (.tmp 53) 45 rfl rfl 3 (.int .i64 0) 8 Tryd.underlying45 int_info rfl w.heap.size _ k _ (ints [d]) rfl (own_below OO.out BB.out) ⟨wr.heap.size, 0, none⟩ 1 1 rfl rfl (fun j u hu => by rw [Addr.add_mid, Nat.zero_add]; exact ((Blk.new wr 3 (ints [d])).cell j).trans hu) (ints_each _) (by unfold maxLen; omega) (by omega) (by have := BW.out.size; simp; omega) ?_); intro v6 w6 a1 a2 a3)
          go_roundw
          case rel =>
            refine ⟨k + 1, by omega, by go_num, ?_, ?_, ?_⟩
            · have h := a1.out
              rw [← ints_app] at h
              rw [digK_succ, ← HD.out]
              exact h
            · have h := own_below OB.out BB.out
              exact own_kept (F := fun q => _ = some q) h ((Kept.refl (fun q => _ = some q) _).grown a2.out (fun q e => .inl e)) (fun q e he => own_types h (own_below OO.out BB.out) (by decide) q e he)
            · exact (BW.out.alloc BW.out.size _).grown a2.out (by have := BW.out.size; simp; omega) (fun i e => (OO.out.lt i e).1)
          case measure => simp [intOf]; omega
        · obtain rfl : k = 34 := by omega
          go_wp2_with fail
          refine CH.out.mono ?_
          rintro e w4 ⟨rfl, rfl⟩
          rw [show (kd 3).p = 34 from rfl]
          go_wp2_with fail
          go_ret
          refine ⟨_, rfl, ?_, BW.out⟩
          rw [digs_length]
          exact OO.out
theorem refdigits_t (i : Nat) (hi : i < 4) (h : List Nat) (w : World) (hl : h.length = 32) (hb : Bytes h) :
    Calls Tryd.prog 38 #[.int .i64 ((kd i).w : Int), .agg (u8s h).toArray] w fun e w' => ∃ v, e = .returned v ∧ FreshI w w' v (digs i h) := by
  have : i = 0 ∨ i = 1 ∨ i = 2 ∨ i = 3 := by omega
  rcases this with rfl | rfl | rfl | rfl
  · exact refdigits_0 h w hl hb
  · exact refdigits_1 h w hl hb
  · exact refdigits_2 h w hl hb
  · exact refdigits_3 h w hl hb
end Go.Proofs.YthcebaegijlbdaaDoor
namespace Go.Proofs.YthcebaegijlbdaaDoor
open Go Go.RowKit Sh

theorem kd_w8b (i : Nat) : (kd i).w ≤ 8 ∧ 1 ≤ (kd i).w := by
  rcases i with _ | _ | _ | i <;> simp [kd]
/-- A block of another element type stays where a row of bytes grows. -/
theorem own_kept_blk {w w' : World} {base : Nat} {e t : TypeId} {size n g : Nat} {v : Value} {xs cs : List Value} (h : w.ownsRow base e size v n xs) (hg : w.grownBy w' v.ownBlock) (hb : Blk w g t cs) (hne : e ≠ t) : Blk w' g t cs :=
  (hg.block _ hb.lt (fun q => own_apart h hb hne q.symm)).trans hb
theorem tip_of (I seed : List Nat) (q i k : Nat) : walkN I q k 0 (2 ^ (kd i).w - 1 - 0) (secN I seed q k) = tipN I seed q i k := rfl
end Go.Proofs.YthcebaegijlbdaaDoor
namespace Go.Proofs.YthcebaegijlbdaaDoor
open Go Go.RowKit Sh

theorem kd_pos' (i : Nat) : 0 < (kd i).p := by
  rcases i with _ | _ | _ | i <;> simp [kd]
theorem own_at {w : World} {base gd n c : Nat} {l : List Nat} (h : w.ownsRow base 3 1 (.slice (some ⟨gd, 0, none⟩) n c) n (ints l)) (hn : 0 < n) : (∀ j, j < n → w.cell? ⟨gd, j, none⟩ = some (.int .i64 ((gt l j : Nat) : Int))) ∧ gd < w.heap.size := by
  obtain ⟨g, c', e, _, hv, lg⟩ := own_cell h hn
  injection e with e1 _ _
  injection e1 with e1
  injection e1 with e1 _ _
  subst e1
  exact ⟨hv, lg⟩
theorem refmsg_n (I C M : List Nat) (q n m : Nat) (P R : Option Addr) (c d : Nat) (w : World) (hn : C.length = n) (hm : M.length = m) (hI : I.length = 16) (hIb : Bytes I) (hq : q < 1000) (hC : Sr w P C) (hCb : Bytes C) (hCl : C.length ≤ 1000) (hM : Sr w R M) (hMb : Bytes M) (hMl : M.length ≤ 100000) :
    Calls Tryd.prog 39 #[.agg (u8s I).toArray, .int .i64 (q : Int), .slice P n c, .slice R m d] w fun e w' => e = .returned (.agg (u8s (msgN I q C M)).toArray) ∧ Below w.heap.size w w' := by
  subst hn
  subst hm
  exact refmsg_t I C M q P R c d w hI hIb hq hC hCb hCl hM hMb hMl
end Go.Proofs.YthcebaegijlbdaaDoor
namespace Go.Proofs.YthcebaegijlbdaaDoor
open Go Go.RowKit Sh

set_option maxRecDepth 100000 in
set_option maxHeartbeats 1000000 in
theorem refcand_short (I : List Nat) (q : Int) (i : Nat) (P R : Option Addr) (m c m2 c2 : Nat) (w : World) (hi : i < 4) (hm : m2 ≠ 36 + 32 * (kd i).p) (_ : m2 ≤ 9223372036854775807) :
    Calls Tryd.prog 11 #[.agg (u8s I).toArray, .int .i64 q, .int .i64 ((kd i).w : Int), .slice P m c, .slice R m2 c2] w fun e w' => e = .returned (.tuple #[.agg (u8s z32).toArray, .int .i64 3]) ∧ Below w.heap.size w w' := by
  have CH := Lib.hid (fun W => refchains_t i hi W)
  have hp9 := kd_p i hi
  obtain ⟨p, hpp⟩ : ∃ p, (kd i).p = p := ⟨_, rfl⟩
  obtain ⟨v, hv⟩ : ∃ v, (kd i).w = v := ⟨_, rfl⟩
  rw [hpp] at hm CH hp9
  rw [hv] at CH ⊢
  have e1 : IntKind.i64.wrap (32 * (p : Int)) = 32 * (p : Int) := IntWalk.i64_in _ (by omega)
  have e2 : IntKind.i64.wrap (36 + 32 * (p : Int)) = 36 + 32 * (p : Int) := IntWalk.i64_in _ (by omega)
  have t0 : ((m2 : Int) != 36 + 32 * (p : Int)) = true := by rw [bne_iff_ne]; omega
  have E1 := Lib.hid e1; have E2 := Lib.hid e2; have T0 := Lib.hid t0
  clear hpp hv hm e1 e2 t0
  go_enter Tryd.func11, Tryd.ntmps11
  go_wp2_with fail
  refine (CH.out _).mono ?_
  rintro e w1 ⟨rfl, rfl⟩
  go_upto_region 2 with (fail)
  refine world_is (fun X => Blk X (w.heap.size + 1) 24 (u8s z32) ∧ Below w.heap.size w X) ⟨Blk.new2 w _ _ (u8s z32), ((Below.refl _ _).alloc (Nat.le_refl _) _).alloc (by simp) _⟩ ?_
  rintro X ⟨r0, b0⟩
  have R0 := Lib.hid r0.drew; have B0 := Lib.hid b0.drew
  clear r0 b0
  have e1 := E1.out; have e2 := E2.out; have t0 := T0.out
  refine wp_region_held (S := fun _ => True) (by kernel_rfl) ?_
  change wpAnyH _ _ _ _ _ _ _ _ X.drew
  refine wpAnyH_take (i := 0) (v := ?_) rfl (by kernel_rfl) (by kernel_rfl) (by kernel_rfl) (fun _ _ _ h => h) (Or.inl ⟨by kernel_rfl, ?_⟩) trivial ?_
  rotate_left 1
  · (intro w hS; clear hS; go_simp; try (with_reducible rfl))
  refine wpAnyH_take (i := 1) (v := ?_) rfl (by kernel_rfl) (by kernel_rfl) (by kernel_rfl) (fun _ _ _ h => h) (Or.inl ⟨by kernel_rfl, ?_⟩) trivial ?_
  rotate_left 1
  · (intro w hS; clear hS; go_simp; try (with_reducible rfl))
  refine wpAnyH_take (i := 2) (v := ?_) rfl (by kernel_rfl) (by kernel_rfl) (by kernel_rfl) (fun _ _ _ h => h) (Or.inl ⟨by kernel_rfl, ?_⟩) trivial ?_
  rotate_left 1
  · (intro w hS; clear hS; go_simp; try (with_reducible rfl))
  refine wpAnyH_take (i := 3) (v := ?_) rfl (by kernel_rfl) (by kernel_rfl) (by kernel_rfl) (fun _ _ _ h => h) (Or.inl ⟨by kernel_rfl, ?_⟩) trivial ?_
  rotate_left 1
  · (intro w hS; clear hS; go_simp; try (with_reducible rfl))
  refine wpAnyH_take (i := 4) (v := ?_) rfl (by kernel_rfl) (by kernel_rfl) (by kernel_rfl) (fun _ _ _ h => h) (Or.inl ⟨by kernel_rfl, ?_⟩) trivial ?_
  rotate_left 1
  · (intro w hS; clear hS; go_simp; try (with_reducible rfl))
  refine wpAnyH_take (i := 5) (v := ?_) rfl (by kernel_rfl) (by kernel_rfl) (by kernel_rfl) (fun _ _ _ h => h) (Or.inl ⟨by kernel_rfl, ?_⟩) trivial ?_
  rotate_left 1
  · (intro w hS; clear hS; go_simp; try (with_reducible rfl))
  refine wpAnyH_take (i := 6) (v := ?_) rfl (by kernel_rfl) (by kernel_rfl) (by kernel_rfl) (fun _ _ _ h => h) (Or.inl ⟨by kernel_rfl, ?_⟩) trivial ?_
  rotate_left 1
  · (intro w hS; clear hS; go_simp; try (with_reducible rfl))
  refine wpAnyH_take (i := 7) (v := undef) rfl (by kernel_rfl) (by kernel_rfl) (by kernel_rfl) (fun _ _ _ h => h) (Or.inr ⟨by kernel_rfl, rfl⟩) trivial ?_
  refine wpAnyH_take (i := 8) (v := undef) rfl (by kernel_rfl) (by kernel_rfl) (by kernel_rfl) (fun _ _ _ h => h) (Or.inr ⟨by kernel_rfl, rfl⟩) trivial ?_
  refine wpAnyH_take (i := 9) (v := undef) rfl (by kernel_rfl) (by kernel_rfl) (by kernel_rfl) (fun _ _ _ h => h) (Or.inr ⟨by kernel_rfl, rfl⟩) trivial ?_
  refine wpAnyH_take (i := 10) (v := undef) rfl (by kernel_rfl) (by kernel_rfl) (by kernel_rfl) (fun _ _ _ h => h) (Or.inr ⟨by kernel_rfl, rfl⟩) trivial ?_
  refine wpAnyH_take (i := 11) (v := undef) rfl (by kernel_rfl) (by kernel_rfl) (by kernel_rfl) (fun _ _ _ h => h) (Or.inr ⟨by kernel_rfl, rfl⟩) trivial ?_
  refine wpAnyH_take (i := 12) (v := undef) rfl (by kernel_rfl) (by kernel_rfl) (by kernel_rfl) (fun _ _ _ h => h) (Or.inr ⟨by kernel_rfl, rfl⟩) trivial ?_
  refine wpAnyH_take (i := 13) (v := undef) rfl (by kernel_rfl) (by kernel_rfl) (by kernel_rfl) (fun _ _ _ h => h) (Or.inr ⟨by kernel_rfl, rfl⟩) trivial ?_
  refine wpAnyH_take (i := 14) (v := ?_) rfl (by kernel_rfl) (by kernel_rfl) (by kernel_rfl) (fun _ _ _ h => h) (Or.inl ⟨by kernel_rfl, ?_⟩) trivial ?_
  rotate_left 1
  · (intro w hS; clear hS; go_simp; try (with_reducible rfl))
  refine wpAnyH_done (by kernel_rfl) ?_ _
  go_simp
  clear e1 e2 t0
  go_wp2_with ((with_reducible refine store_blk 24 (.tmp 10) (.tmp 34) (w.heap.size + 1) 24 (u8s z32) (u8s z32) rfl rfl ?_ ?_ ?_ ?_ ?_ ?_ ?_); exact R0.out; exact rfl; exact z32_size; exact u8s_one _; exact rfl; exact rfl)
  refine ret_blk2 (p := 10) (u := 11) (ty := 24) rfl rfl (w.heap.size + 1) 24 (u8s z32) _ rfl (R0.out.setRow _) Tryd.underlying24 rfl z32_size (.int .i64 3) rfl ?_
  exact ⟨rfl, below_setRow B0.out (by omega) _⟩
end Go.Proofs.YthcebaegijlbdaaDoor
namespace Go.Proofs.YthcebaegijlbdaaDoor
open Go Go.RowKit Sh

theorem beN_val : ∀ (n : Nat) (l : List Nat), l.length = n → Bytes l → beN (val l) n = l
  | 0, l, h, _ => by obtain rfl := List.eq_nil_of_length_eq_zero h; rfl
  | n + 1, l, h, hb => by
    have hne : l ≠ [] := fun e => by rw [e] at h; simp at h
    obtain ⟨l', b, rfl⟩ : ∃ l' b, l = l' ++ [b] := ⟨l.dropLast, l.getLast hne, (List.dropLast_concat_getLast hne).symm⟩
    have hb1 : b < 256 := by
      have := hb l'.length
      rw [gt_app_right (Nat.le_refl _)] at this
      simpa [gt] using this
    have hl' : l'.length = n := by simpa using h
    have hb' : Bytes l' := fun j => by
      rcases Nat.lt_or_ge j l'.length with hj | hj
      · have := hb j; rwa [gt_app_left hj] at this
      · rw [gt_out hj]; decide
    rw [beN_snoc, val_snoc, show (val l' * 256 + b) / 256 = val l' from by omega, show (val l' * 256 + b) % 256 = b from by omega, beN_val n l' hl' hb']
theorem code_eq (xs : List Nat) (c : Nat) (hl : 4 ≤ xs.length) (hb : Bytes xs) (hc : c < 4294967296) : (xs.take 4 = beN c 4) ↔ val (xs.take 4) = c := by
  constructor
  · intro h
    rw [h, val_beN]
    omega
  · intro h
    rw [← h, beN_val 4 _ (by rw [List.length_take]; omega) (bytes_take hb 4)]
theorem piece_sr {w : World} {P P2 : Option Addr} {xs : List Nat} (h : Sr w P xs) (n : Nat) (hn : 36 + 32 * n ≤ xs.length) (h2 : ∀ g off, P = some ⟨g, off, none⟩ → P2 = some ⟨g, off + (4 + 32 * n), none⟩) : Sr w P2 (piece xs n) := fun hx => by
  obtain ⟨b, o, rfl, hb, hbytes⟩ := h (by omega)
  refine ⟨b, o + (4 + 32 * n), h2 b o rfl, hb, fun j hj => ?_⟩
  have := piece_range hbytes n hn j (.int .u8 ((gt (piece xs n) j : Nat) : Int)) (u8s_get _ _ hj)
  exact this
set_option maxRecDepth 100000 in
set_option maxHeartbeats 2000000 in
theorem refcand_code (I xs : List Nat) (q : Int) (i : Nat) (A P : Option Addr) (ma ca m c : Nat) (w : World) (hI : I.length = 16) (hIb : Bytes I) (hi : i < 4) (hx : xs.length = m) (hp : Sr w P xs) (hxb : Bytes xs) (hc : m ≤ c) (hm : m = 36 + 32 * (kd i).p) (hcode : val (xs.take 4) ≠ (kd i).code) :
    Calls Tryd.prog 11 #[.agg (u8s I).toArray, .int .i64 q, .int .i64 ((kd i).w : Int), .slice A ma ca, .slice P m c] w fun e w' => e = .returned (.tuple #[.agg (u8s z32).toArray, .int .i64 3]) ∧ Below w.heap.size w w' := by
  have HI := Lib.hid hI; have HIB := Lib.hid hIb; have HX := Lib.hid hx; have HP := Lib.hid hp; have HXB := Lib.hid hxb; have HC := Lib.hid hc
  have CH := Lib.hid (fun W => refchains_t i hi W)
  have CO := Lib.hid (fun W => refcode_t i hi W)
  have hp9 := kd_p i hi
  have hcode4 : (kd i).code ≤ 4 := by rcases i with _ | _ | _ | i <;> simp [kd]
  have HXC := Lib.hid (code_eq xs (kd i).code (by omega) hxb (by omega))
  have HT4 := Lib.hid (show (xs.take 4).length = 4 ∧ Bytes (xs.take 4) from ⟨by rw [List.length_take]; omega, bytes_take hxb 4⟩)
  have hs4 := slice_high (P := Tryd.prog) (t := 27) (e := 5) Tryd.underlying27 byte_size P m c .i64 4 (by omega)
  rw [show ((4 : Nat) : Int) = 4 from rfl] at hs4
  obtain ⟨p, hpp⟩ : ∃ p, (kd i).p = p := ⟨_, rfl⟩
  obtain ⟨co, hco⟩ : ∃ c, (kd i).code = c := ⟨_, rfl⟩
  obtain ⟨v, hv⟩ : ∃ v, (kd i).w = v := ⟨_, rfl⟩
  rw [hpp] at hm CH hp9
  rw [hco] at CO hcode HXC hcode4
  rw [hv] at CH CO ⊢
  have e1 : IntKind.i64.wrap (32 * (p : Int)) = 32 * (p : Int) := IntWalk.i64_in _ (by omega)
  have e2 : IntKind.i64.wrap (36 + 32 * (p : Int)) = 36 + 32 * (p : Int) := IntWalk.i64_in _ (by omega)
  have t0 : ((m : Int) != 36 + 32 * (p : Int)) = false := by rw [bne_eq_false_iff_eq]; omega
  have HPP := Lib.hid hpp; have HV := Lib.hid hv; have HM := Lib.hid hm; have HCODE := Lib.hid hcode
  clear hpp hv hco hI hIb hx hp hxb hc hm hcode
  go_enter Tryd.func11, Tryd.ntmps11
  go_wp2_with fail
  refine (CH.out _).mono ?_
  rintro e w1 ⟨rfl, rfl⟩
  go_upto_region 2 with (fail)
  refine world_is (fun X => Blk X w.heap.size 22 (u8s I) ∧ Blk X (w.heap.size + 1) 24 (u8s z32) ∧ Below w.heap.size w X) ⟨(Blk.new w _ (u8s I)).alloc _, Blk.new2 w _ _ (u8s z32), ((Below.refl _ _).alloc (Nat.le_refl _) _).alloc (by simp) _⟩ ?_
  rintro X ⟨i0, r0, b0⟩
  have I0 := Lib.hid i0.drew; have R0 := Lib.hid r0.drew; have B0 := Lib.hid b0.drew
  clear r0 b0 i0
  refine wp_region_held (S := fun _ => True) (by kernel_rfl) ?_
  change wpAnyH _ _ _ _ _ _ _ _ X.drew
  obtain ⟨V, hV⟩ : ∃ V, X.drew = V := ⟨_, rfl⟩
  rw [hV] at I0 R0 B0 ⊢
  clear hV
  refine wpAnyH_take (i := 0) (v := ?_) rfl (by kernel_rfl) (by kernel_rfl) (by kernel_rfl) (fun _ _ _ h => h) (Or.inl ⟨by kernel_rfl, ?_⟩) trivial ?_
  rotate_left 1
  · (intro w hS; clear hS; go_simp; try (with_reducible rfl))
  refine wpAnyH_take (i := 1) (v := ?_) rfl (by kernel_rfl) (by kernel_rfl) (by kernel_rfl) (fun _ _ _ h => h) (Or.inl ⟨by kernel_rfl, ?_⟩) trivial ?_
  rotate_left 1
  · (intro w hS; clear hS; go_simp; try (with_reducible rfl))
  refine wpAnyH_take (i := 2) (v := ?_) rfl (by kernel_rfl) (by kernel_rfl) (by kernel_rfl) (fun _ _ _ h => h) (Or.inl ⟨by kernel_rfl, ?_⟩) trivial ?_
  rotate_left 1
  · (intro w hS; clear hS; go_simp; try (with_reducible rfl))
  refine wpAnyH_take (i := 3) (v := ?_) rfl (by kernel_rfl) (by kernel_rfl) (by kernel_rfl) (fun _ _ _ h => h) (Or.inl ⟨by kernel_rfl, ?_⟩) trivial ?_
  rotate_left 1
  · (intro w hS; clear hS; go_simp; try (with_reducible rfl))
  refine wpAnyH_take (i := 4) (v := ?_) rfl (by kernel_rfl) (by kernel_rfl) (by kernel_rfl) (fun _ _ _ h => h) (Or.inl ⟨by kernel_rfl, ?_⟩) trivial ?_
  rotate_left 1
  · (intro w hS; clear hS; go_simp; try (with_reducible rfl))
  refine wpAnyH_take (i := 5) (v := ?_) rfl (by kernel_rfl) (by kernel_rfl) (by kernel_rfl) (fun _ _ _ h => h) (Or.inl ⟨by kernel_rfl, ?_⟩) trivial ?_
  rotate_left 1
  · (intro w hS; clear hS; go_simp; try (with_reducible rfl))
  refine wpAnyH_take (i := 6) (v := ?_) rfl (by kernel_rfl) (by kernel_rfl) (by kernel_rfl) (fun _ _ _ h => h) (Or.inl ⟨by kernel_rfl, ?_⟩) trivial ?_
  rotate_left 1
  · (intro w hS; clear hS; go_simp; try (with_reducible rfl))
  refine wpAnyH_take (i := 7) (v := ?_) rfl (by kernel_rfl) (by kernel_rfl) (by kernel_rfl) (fun _ _ _ h => h) (Or.inl ⟨by kernel_rfl, ?_⟩) trivial ?_
  rotate_left 1
  · (intro w hS; clear hS; go_simp; try (with_reducible rfl))
  refine wpAnyH_take (i := 8) (v := ?_) rfl (by kernel_rfl) (by kernel_rfl) (by kernel_rfl) (fun _ _ _ h => h) (Or.inl ⟨by kernel_rfl, ?_⟩) trivial ?_
  rotate_left 1
  · (intro w hS; clear hS; go_simp; try (with_reducible rfl))
  refine wpAnyH_take (i := 9) (v := ?_) rfl (by kernel_rfl) (by kernel_rfl) (by kernel_rfl) (fun _ _ _ h => h) (Or.inl ⟨by kernel_rfl, ?_⟩) trivial ?_
  rotate_left 1
  · (intro w hS; clear hS; go_simp; try (with_reducible rfl))
  refine wpAnyH_ready (rs := [10]) (by kernel_rfl) (by simp) ?_
  refine AllReadyH.cons rfl (fun K hK => ?_) AllReadyH.nil
  go_simp
  refine (CO.out V).mono ?_
  rintro e w4 ⟨rfl, rfl⟩
  refine hK.out _ _ trivial (fun _ => ?_)
  clear hK K
  refine wpAnyH_ready (rs := [11]) (by kernel_rfl) (by simp) ?_
  refine AllReadyH.cons rfl (fun K hK => ?_) AllReadyH.nil
  go_simp
  refine (refnum_t co 4 V (by decide) (by decide)).mono ?_
  rintro e w5 ⟨u, rfl, f5⟩
  obtain ⟨A5, c5, rfl, hc5, s5, b5⟩ := fresh_op f5
  rw [beN_length] at hc5 ⊢
  have I5 := Lib.hid (I0.out.below b5 I0.out.lt); have R5 := Lib.hid (R0.out.below b5 R0.out.lt); have B5 := Lib.hid (B0.out.trans (b5.mono B0.out.size)); have S5 := Lib.hid s5
  clear f5 hc5 s5 b5 I0 R0 B0
  refine hK.out _ _ trivial (fun _ => ?_)
  clear hK K
  refine wpAnyH_ready (rs := [12]) (by kernel_rfl) (by simp) ?_
  refine AllReadyH.cons rfl (fun K hK => ?_) AllReadyH.nil
  go_simp
  refine (same_texts (xs.take 4) (beN co 4) P A5 4 4 c c5 w5 HT4.out.1 (beN_length _ _) ((HP.out.below B5.out).take 4) S5.out HT4.out.2 (beN_bytes _ _)).mono ?_
  rintro e w6 ⟨rfl, rfl⟩
  rw [show decide (xs.take 4 = beN co 4) = false from decide_eq_false (fun h => HCODE.out (HXC.out.1 h))]
  refine hK.out _ _ trivial (fun _ => ?_)
  clear hK K
  refine wpAnyH_take (i := 13) (v := ?_) rfl (by kernel_rfl) (by kernel_rfl) (by kernel_rfl) (fun _ _ _ h => h) (Or.inl ⟨by kernel_rfl, ?_⟩) trivial ?_
  rotate_left 1
  · (intro w hS; clear hS; go_simp; try (with_reducible rfl))
  refine wpAnyH_take (i := 14) (v := ?_) rfl (by kernel_rfl) (by kernel_rfl) (by kernel_rfl) (fun _ _ _ h => h) (Or.inl ⟨by kernel_rfl, ?_⟩) trivial ?_
  rotate_left 1
  · (intro w hS; clear hS; go_simp; try (with_reducible rfl))
  refine wpAnyH_done (by kernel_rfl) ?_ _
  go_simp
  clear e1 e2 t0 hs4
  go_wp2_with ((with_reducible refine store_blk 24 (.tmp 10) (.tmp 34) (w.heap.size + 1) 24 (u8s z32) (u8s z32) rfl rfl ?_ ?_ ?_ ?_ ?_ ?_ ?_); exact R5.out; exact rfl; exact z32_size; exact u8s_one _; exact rfl; exact rfl)
  refine ret_blk2 (p := 10) (u := 11) (ty := 24) rfl rfl (w.heap.size + 1) 24 (u8s z32) _ rfl (R5.out.setRow _) Tryd.underlying24 rfl z32_size (.int .i64 3) rfl ?_
  exact ⟨rfl, below_setRow B5.out (by omega) _⟩
set_option maxRecDepth 100000 in
set_option maxHeartbeats 4000000 in
theorem refcand_t (I xs ys : List Nat) (q i : Nat) (A P : Option Addr) (ma ca m c : Nat) (w : World) (hI : I.length = 16) (hIb : Bytes I) (hq : q < 1000) (hi : i < 4) (hy : ys.length = ma) (ha : Sr w A ys) (hyb : Bytes ys) (hma : ma ≤ 100000) (hx : xs.length = m) (hp : Sr w P xs) (hxb : Bytes xs) (hc : m ≤ c) (hm : m = 36 + 32 * (kd i).p) (hcode : val (xs.take 4) = (kd i).code) :
    Calls Tryd.prog 11 #[.agg (u8s I).toArray, .int .i64 (q : Int), .int .i64 ((kd i).w : Int), .slice A ma ca, .slice P m c] w fun e w' => e = .returned (.tuple #[.agg (u8s (candN I q i ys xs)).toArray, .int .i64 0]) ∧ Below w.heap.size w w' := by
  have HY := Lib.hid hy; have HA := Lib.hid ha; have HYB := Lib.hid hyb
  have hp0 := kd_p i hi
  have htop := top_lt i hi
  have hw8 := kd_w8b i
  have HPOS := kd_pos' i
  have m36 : 36 + 32 * 0 ≤ xs.length := by omega
  have PC0 := Lib.hid (show (piece xs 0).length = 32 ∧ Bytes (piece xs 0) from ⟨piece_length xs 0 m36, piece_bytes xs 0 hxb⟩)
  obtain ⟨p36, hp36, hs36⟩ := slice_mid (P := Tryd.prog) (t := 27) (e := 5) Tryd.underlying27 byte_size P m c 4 36 (by omega) (by omega)
  rw [show ((4 : Nat) : Int) = 4 from rfl, show ((36 : Nat) : Int) = 36 from rfl, show 36 - 4 = 32 from rfl] at hs36
  have PS0 := Lib.hid (piece_sr hp 0 m36 (fun g off e => hp36 (by omega) g off e))
  have HS36 := Lib.hid hs36
  have HPC := Lib.hid (fun k (hk : k < (kd i).p) => show (piece xs (1 + k)).length = 32 ∧ Bytes (piece xs (1 + k)) from ⟨piece_length xs (1 + k) (by omega), piece_bytes xs (1 + k) hxb⟩)
  have HPS := Lib.hid (fun k (hk : k < (kd i).p) => show ∃ pk cc, Sr w pk (piece xs (1 + k)) ∧ ∀ W, (Instr.slice 27 (.slice P m c) (some (.int .i64 (36 + 32 * (k : Int)))) (some (.int .i64 (68 + 32 * (k : Int)))) none).run Tryd.prog W = .ok (.slice pk 32 cc) W from by
    obtain ⟨pk, hpk, hsk⟩ := slice_mid (P := Tryd.prog) (t := 27) (e := 5) Tryd.underlying27 byte_size P m c (36 + 32 * k) (68 + 32 * k) (by omega) (by omega)
    rw [show ((36 + 32 * k : Nat) : Int) = 36 + 32 * (k : Int) from by omega, show ((68 + 32 * k : Nat) : Int) = 68 + 32 * (k : Int) from by omega, show 68 + 32 * k - (36 + 32 * k) = 32 from by omega] at hsk
    exact ⟨pk, _, piece_sr hp (1 + k) (by omega) (fun g off e => by rw [hpk (by omega) g off e]; congr 3; omega), hsk⟩)
  have HQ1 := Lib.hid (show (msgN I q (piece xs 0) ys).length = 32 ∧ Bytes (msgN I q (piece xs 0) ys) from ⟨rfl, sum_bytes _ (app_bytes (app_bytes (headN_bytes _ _ _ hIb) PC0.out.2) hyb)⟩)
  have HCN := Lib.hid (show candN I q i ys xs = pubOf I q (catN (candE I q i (digL i (msgN I q (piece xs 0) ys)) xs) (kd i).p) from rfl)
  have MSG := Lib.hid (fun W (hb : Below w.heap.size w W) => refmsg_n I (piece xs 0) ys q 32 ma p36 A (c - 4) ca W PC0.out.1 hy hI hIb hq (PS0.out.below hb) PC0.out.2 (by rw [PC0.out.1]; decide) (ha.below hb) hyb (by rw [hy]; exact hma))
  obtain ⟨Q, hQ⟩ : ∃ Q, msgN I q (piece xs 0) ys = Q := ⟨_, rfl⟩
  rw [hQ] at HCN HQ1 MSG
  have EOK := Lib.hid (fun j (hj : j < (kd i).p) => candE_ok I q i (digL i Q) xs j hi hIb hxb (by omega) (by rw [digL_get i j hj]; exact digN_le i j Q))
  have DIG := Lib.hid (fun W => refdigits_t i hi Q W HQ1.out.1 HQ1.out.2)
  have HDL := Lib.hid (digs_length i Q)
  have HDK0 := Lib.hid (fun j (hj : j < (kd i).p) => show gt (digs i Q) j = gt (digL i Q) j ∧ gt (digs i Q) j ≤ 2 ^ (kd i).w - 1 by
    have e : gt (digs i Q) j = digN (kd i).w (kd i).ls Q j := by unfold digs; simp [gt, List.getD_eq_getElem?_getD, hj]
    exact ⟨by rw [e, digL_get i j hj], by rw [e]; exact digN_le i j Q⟩)
  have ALO0 := Lib.hid (fun k (hk : k < (kd i).p) d (hd : d ≤ 2 ^ (kd i).w - 1) W => along_t I (piece xs (1 + k)) q k d (2 ^ (kd i).w - 1) W hI hIb hq (by omega) (HPC.out k hk).1 (HPC.out k hk).2 hd htop)
  have EDF := Lib.hid (fun k => show walkN I q k (gt (digL i Q) k) (2 ^ (kd i).w - 1 - gt (digL i Q) k) (piece xs (1 + k)) = candE I q i (digL i Q) xs k from rfl)
  have ENDS := Lib.hid (fun L n P c W (hn : L.length = n) hL hLb hLl => refends_t I L q n P c W hn hI hIb hq hL hLb hLl)
  obtain ⟨D, hD⟩ : ∃ D, digs i Q = D := ⟨_, rfl⟩
  rw [hD] at HDL DIG HDK0
  obtain ⟨E, hE⟩ : ∃ E, candE I q i (digL i Q) xs = E := ⟨_, rfl⟩
  simp only [hE] at EDF EOK HCN
  clear hy ha hyb hp36 hs36 m36 hQ hD hE hma
  have HI := Lib.hid hI; have HIB := Lib.hid hIb; have HX := Lib.hid hx; have HP := Lib.hid hp; have HXB := Lib.hid hxb; have HC := Lib.hid hc
  have CH := Lib.hid (fun W => refchains_t i hi W)
  have CO := Lib.hid (fun W => refcode_t i hi W)
  have hp9 := kd_p i hi
  have hcode4 : (kd i).code ≤ 4 := by rcases i with _ | _ | _ | i <;> simp [kd]
  have HXC := Lib.hid (code_eq xs (kd i).code (by omega) hxb (by omega))
  have HT4 := Lib.hid (show (xs.take 4).length = 4 ∧ Bytes (xs.take 4) from ⟨by rw [List.length_take]; omega, bytes_take hxb 4⟩)
  have hs4 := slice_high (P := Tryd.prog) (t := 27) (e := 5) Tryd.underlying27 byte_size P m c .i64 4 (by omega)
  rw [show ((4 : Nat) : Int) = 4 from rfl] at hs4
  obtain ⟨p, hpp⟩ : ∃ p, (kd i).p = p := ⟨_, rfl⟩
  obtain ⟨co, hco⟩ : ∃ c, (kd i).code = c := ⟨_, rfl⟩
  obtain ⟨v, hv⟩ : ∃ v, (kd i).w = v := ⟨_, rfl⟩
  rw [hpp] at hm CH hp9
  rw [hco] at CO hcode HXC hcode4
  rw [hv] at CH CO ⊢
  have e1 : IntKind.i64.wrap (32 * (p : Int)) = 32 * (p : Int) := IntWalk.i64_in _ (by omega)
  have e2 : IntKind.i64.wrap (36 + 32 * (p : Int)) = 36 + 32 * (p : Int) := IntWalk.i64_in _ (by omega)
  have t0 : ((m : Int) != 36 + 32 * (p : Int)) = false := by rw [bne_eq_false_iff_eq]; omega
  have HPP := Lib.hid hpp; have HV := Lib.hid hv; have HM := Lib.hid hm; have HCODE := Lib.hid hcode
  clear hpp hv hco hI hIb hx hp hxb hc hm hcode
  go_enter Tryd.func11, Tryd.ntmps11
  go_wp2_with fail
  refine (CH.out _).mono ?_
  rintro e w1 ⟨rfl, rfl⟩
  go_upto_region 2 with (fail)
  refine world_is (fun X => Blk X w.heap.size 22 (u8s I) ∧ Blk X (w.heap.size + 1) 24 (u8s z32) ∧ Below w.heap.size w X) ⟨(Blk.new w _ (u8s I)).alloc _, Blk.new2 w _ _ (u8s z32), ((Below.refl _ _).alloc (Nat.le_refl _) _).alloc (by simp) _⟩ ?_
  rintro X ⟨i0, r0, b0⟩
  have I0 := Lib.hid i0.drew; have R0 := Lib.hid r0.drew; have B0 := Lib.hid b0.drew
  clear r0 b0 i0
  refine wp_region_held (S := fun _ => True) (by kernel_rfl) ?_
  change wpAnyH _ _ _ _ _ _ _ _ X.drew
  obtain ⟨V, hV⟩ : ∃ V, X.drew = V := ⟨_, rfl⟩
  rw [hV] at I0 R0 B0 ⊢
  clear hV
  refine wpAnyH_take (i := 0) (v := ?_) rfl (by kernel_rfl) (by kernel_rfl) (by kernel_rfl) (fun _ _ _ h => h) (Or.inl ⟨by kernel_rfl, ?_⟩) trivial ?_
  rotate_left 1
  · (intro w hS; clear hS; go_simp; try (with_reducible rfl))
  refine wpAnyH_take (i := 1) (v := ?_) rfl (by kernel_rfl) (by kernel_rfl) (by kernel_rfl) (fun _ _ _ h => h) (Or.inl ⟨by kernel_rfl, ?_⟩) trivial ?_
  rotate_left 1
  · (intro w hS; clear hS; go_simp; try (with_reducible rfl))
  refine wpAnyH_take (i := 2) (v := ?_) rfl (by kernel_rfl) (by kernel_rfl) (by kernel_rfl) (fun _ _ _ h => h) (Or.inl ⟨by kernel_rfl, ?_⟩) trivial ?_
  rotate_left 1
  · (intro w hS; clear hS; go_simp; try (with_reducible rfl))
  refine wpAnyH_take (i := 3) (v := ?_) rfl (by kernel_rfl) (by kernel_rfl) (by kernel_rfl) (fun _ _ _ h => h) (Or.inl ⟨by kernel_rfl, ?_⟩) trivial ?_
  rotate_left 1
  · (intro w hS; clear hS; go_simp; try (with_reducible rfl))
  refine wpAnyH_take (i := 4) (v := ?_) rfl (by kernel_rfl) (by kernel_rfl) (by kernel_rfl) (fun _ _ _ h => h) (Or.inl ⟨by kernel_rfl, ?_⟩) trivial ?_
  rotate_left 1
  · (intro w hS; clear hS; go_simp; try (with_reducible rfl))
  refine wpAnyH_take (i := 5) (v := ?_) rfl (by kernel_rfl) (by kernel_rfl) (by kernel_rfl) (fun _ _ _ h => h) (Or.inl ⟨by kernel_rfl, ?_⟩) trivial ?_
  rotate_left 1
  · (intro w hS; clear hS; go_simp; try (with_reducible rfl))
  refine wpAnyH_take (i := 6) (v := ?_) rfl (by kernel_rfl) (by kernel_rfl) (by kernel_rfl) (fun _ _ _ h => h) (Or.inl ⟨by kernel_rfl, ?_⟩) trivial ?_
  rotate_left 1
  · (intro w hS; clear hS; go_simp; try (with_reducible rfl))
  refine wpAnyH_take (i := 7) (v := ?_) rfl (by kernel_rfl) (by kernel_rfl) (by kernel_rfl) (fun _ _ _ h => h) (Or.inl ⟨by kernel_rfl, ?_⟩) trivial ?_
  rotate_left 1
  · (intro w hS; clear hS; go_simp; try (with_reducible rfl))
  refine wpAnyH_take (i := 8) (v := ?_) rfl (by kernel_rfl) (by kernel_rfl) (by kernel_rfl) (fun _ _ _ h => h) (Or.inl ⟨by kernel_rfl, ?_⟩) trivial ?_
  rotate_left 1
  · (intro w hS; clear hS; go_simp; try (with_reducible rfl))
  refine wpAnyH_take (i := 9) (v := ?_) rfl (by kernel_rfl) (by kernel_rfl) (by kernel_rfl) (fun _ _ _ h => h) (Or.inl ⟨by kernel_rfl, ?_⟩) trivial ?_
  rotate_left 1
  · (intro w hS; clear hS; go_simp; try (with_reducible rfl))
  refine wpAnyH_ready (rs := [10]) (by kernel_rfl) (by simp) ?_
  refine AllReadyH.cons rfl (fun K hK => ?_) AllReadyH.nil
  go_simp
  refine (CO.out V).mono ?_
  rintro e w4 ⟨rfl, rfl⟩
  refine hK.out _ _ trivial (fun _ => ?_)
  clear hK K
  refine wpAnyH_ready (rs := [11]) (by kernel_rfl) (by simp) ?_
  refine AllReadyH.cons rfl (fun K hK => ?_) AllReadyH.nil
  go_simp
  refine (refnum_t co 4 V (by decide) (by decide)).mono ?_
  rintro e w5 ⟨u, rfl, f5⟩
  obtain ⟨A5, c5, rfl, hc5, s5, b5⟩ := fresh_op f5
  rw [beN_length] at hc5 ⊢
  have I5 := Lib.hid (I0.out.below b5 I0.out.lt); have R5 := Lib.hid (R0.out.below b5 R0.out.lt); have B5 := Lib.hid (B0.out.trans (b5.mono B0.out.size)); have S5 := Lib.hid s5
  clear f5 hc5 s5 b5 I0 R0 B0
  refine hK.out _ _ trivial (fun _ => ?_)
  clear hK K
  refine wpAnyH_ready (rs := [12]) (by kernel_rfl) (by simp) ?_
  refine AllReadyH.cons rfl (fun K hK => ?_) AllReadyH.nil
  go_simp
  refine (same_texts (xs.take 4) (beN co 4) P A5 4 4 c c5 w5 HT4.out.1 (beN_length _ _) ((HP.out.below B5.out).take 4) S5.out HT4.out.2 (beN_bytes _ _)).mono ?_
  rintro e w6 ⟨rfl, rfl⟩
  rw [show decide (xs.take 4 = beN co 4) = true from decide_eq_true (HXC.out.2 HCODE.out)]
  refine hK.out _ _ trivial (fun _ => ?_)
  clear hK K
  refine wpAnyH_take (i := 13) (v := ?_) rfl (by kernel_rfl) (by kernel_rfl) (by kernel_rfl) (fun _ _ _ h => h) (Or.inl ⟨by kernel_rfl, ?_⟩) trivial ?_
  rotate_left 1
  · (intro w hS; clear hS; go_simp; try (with_reducible rfl))
  refine wpAnyH_take (i := 14) (v := ?_) rfl (by kernel_rfl) (by kernel_rfl) (by kernel_rfl) (fun _ _ _ h => h) (Or.inl ⟨by kernel_rfl, ?_⟩) trivial ?_
  rotate_left 1
  · (intro w hS; clear hS; go_simp; try (with_reducible rfl))
  refine wpAnyH_done (by kernel_rfl) ?_ _
  go_simp
  clear e1 e2 t0 hs4
  rw [HPP.out] at HDL HCN HDK0 HPC HPS EOK HPOS ALO0
  rw [HV.out] at DIG ALO0 EDF HDK0 htop hw8
  obtain ⟨top, htp⟩ : ∃ t, 2 ^ v - 1 = t := ⟨_, rfl⟩
  rw [htp] at htop ALO0 HDK0
  simp only [htp] at EDF
  have hpos : 1 ≤ 2 ^ v := Nat.one_le_two_pow
  have f0 : IntKind.u64.wrap (v : Int) = (v : Int) := IntWalk.u64_in _ (by omega)
  have f1 : IntKind.i64.wrap ((2 : Int) ^ v) = ((top + 1 : Nat) : Int) := by
    rw [show (2 : Int) ^ v = ((top + 1 : Nat) : Int) from by rw [← htp, Nat.sub_add_cancel hpos]; simp]; exact IntWalk.i64_in _ (by omega)
  have f2 : IntKind.i64.wrap (top : Int) = (top : Int) := IntWalk.i64_in _ (by omega)
  have F0 := Lib.hid f0; have F1 := Lib.hid f1; have F2 := Lib.hid f2
  have hs36 := HS36.out
  clear f0 f1 f2 hpos htp
  go_upto_region 4 with (fail)
  have I6 := Lib.hid (I5.out.below (Below.refl _ w5).drew I5.out.lt); have R6 := Lib.hid (R5.out.below (Below.refl _ w5).drew R5.out.lt); have B6 := Lib.hid (B5.out.trans ((Below.refl _ w5).drew.mono B5.out.size))
  refine wp_region_held (S := fun X => X.rangeAt w.heap.size 0 (u8s I)) (by kernel_rfl) ?_
  change wpAnyH _ _ _ _ _ _ _ _ w5.drew
  obtain ⟨V4, hV⟩ : ∃ V, w5.drew = V := ⟨_, rfl⟩
  rw [hV] at I6 R6 B6 ⊢
  clear hV I5 R5 B5 S5
  have RS := Lib.hid (fun (X : World) (h : Below V4.heap.size V4 X) => range_of_blk (I6.out.below h I6.out.lt))
  have K0 := Lib.hid (Below.refl V4.heap.size V4)
  have r1 := RS.out _ K0.out
  refine wpAnyH_take (i := 0) (v := ?_) rfl (by kernel_rfl) (by kernel_rfl) (by kernel_rfl) (fun _ _ _ h => h) (Or.inl ⟨by kernel_rfl, ?_⟩) r1 ?_
  rotate_left 1
  · (intro w hS; clear hS; go_simp; try (with_reducible rfl))
  refine wpAnyH_take (i := 1) (v := .agg (u8s I).toArray) rfl (by kernel_rfl) (by kernel_rfl) (by kernel_rfl) (fun _ _ _ h => h) (yieldsIf_load_mid (by kernel_rfl) 22 (.tmp 5) rfl w.heap.size 0 (by go_simp) (u8s I) _ (fun _ h => h) Tryd.underlying22 rfl (size16 _ HI.out)) r1 ?_
  refine wpAnyH_take (i := 2) (v := ?_) rfl (by kernel_rfl) (by kernel_rfl) (by kernel_rfl) (fun _ _ _ h => h) (Or.inl ⟨by kernel_rfl, ?_⟩) r1 ?_
  rotate_left 1
  · (intro w hS; clear hS; go_simp; try (with_reducible rfl))
  refine wpAnyH_take (i := 3) (v := ?_) rfl (by kernel_rfl) (by kernel_rfl) (by kernel_rfl) (fun _ _ _ h => h) (Or.inl ⟨by kernel_rfl, ?_⟩) r1 ?_
  rotate_left 1
  · (intro w hS; clear hS; go_simp; try (with_reducible rfl))
  refine wpAnyH_take (i := 4) (v := ?_) rfl (by kernel_rfl) (by kernel_rfl) (by kernel_rfl) (fun _ _ _ h => h) (Or.inl ⟨by kernel_rfl, ?_⟩) r1 ?_
  rotate_left 1
  · (intro w hS; clear hS; go_simp; try (with_reducible rfl))
  refine wpAnyH_take (i := 5) (v := ?_) rfl (by kernel_rfl) (by kernel_rfl) (by kernel_rfl) (fun _ _ _ h => h) (Or.inl ⟨by kernel_rfl, ?_⟩) r1 ?_
  rotate_left 1
  · (intro w hS; clear hS; go_simp; try (with_reducible rfl))
  refine wpAnyH_ready (rs := [6]) (by kernel_rfl) (by simp) ?_
  refine AllReadyH.cons rfl (fun K hK => ?_) AllReadyH.nil
  go_simp
  refine (MSG.out V4 B6.out).mono ?_
  rintro e w7 ⟨rfl, b7⟩
  have K7 := Lib.hid (K0.out.trans (b7.mono K0.out.size))
  clear b7 r1
  refine hK.out _ _ (RS.out _ K7.out) (fun _ => ?_)
  clear hK K
  refine wpAnyH_ready (rs := [7]) (by kernel_rfl) (by simp) ?_
  refine AllReadyH.cons rfl (fun K hK => ?_) AllReadyH.nil
  go_simp
  refine (DIG.out w7).mono ?_
  rintro e w8 ⟨vd, rfl, fd⟩
  obtain ⟨gd, cd, rfl, hcd, -, lgd⟩ := own_cell fd.1 (by rw [HDL.out]; exact HPOS)
  have od := fd.1
  rw [HDL.out] at od hcd ⊢
  have K8 := Lib.hid (K7.out.trans (fd.2.mono K7.out.size))
  have OD8 := Lib.hid (own_base od (base' := w.heap.size) (fun k e => Nat.le_trans (Nat.le_trans B6.out.size K7.out.size) (od.lt k e).1))
  have r8 := RS.out _ K8.out
  clear fd od K7 hcd lgd
  refine hK.out _ _ r8 (fun _ => ?_)
  clear hK K
  refine wpAnyH_take (i := 8) (v := ?_) rfl (by kernel_rfl) (by kernel_rfl) (by kernel_rfl) (fun _ _ _ h => h) (Or.inl ⟨by kernel_rfl, ?_⟩) r8 ?_
  rotate_left 1
  · (intro w hS; clear hS; go_simp; try (with_reducible rfl))
  refine wpAnyH_done (by kernel_rfl) ?_ _
  go_simp
  have I8 := Lib.hid (I6.out.below K8.out I6.out.lt); have R8 := Lib.hid (R6.out.below K8.out R6.out.lt); have B8 := Lib.hid (B6.out.trans (K8.out.mono B6.out.size))
  clear r8 K0 K8 RS I6 R6 B6 hs36
  go_upto_region 7 with (fail)
  go_loopw [14, 15] (fun s x wr => ∃ (k : Nat) (A : Option Addr) (c : Nat), k ≤ p ∧ x = .int .i64 k ∧ s = .slice A (32 * k) c ∧ wr.ownsRow w.heap.size 5 1 s (32 * k) (u8s (catN E k)) ∧ wr.ownsRow w.heap.size 3 1 (.slice (some ⟨gd, 0, none⟩) p cd) p (ints D) ∧ Blk wr w.heap.size 22 (u8s I) ∧ Blk wr (w.heap.size + 1) 24 (u8s z32) ∧ Below w.heap.size w wr) (fun _ x _ => p - (intOf x).toNat)
  case atStart => exact ⟨0, none, 0, by omega, rfl, rfl, nil_own _ _, OD8.out, I8.out, R8.out, B8.out⟩
  case round =>
    clear I8 R8 B8 OD8
    obtain ⟨k, A', c', hk, rfl, rfl, oo, od, k0, k1, bw⟩ := hrel
    by_cases hlt : k < p
    · have i1 : (k : Int) < (p : Int) := by omega
      obtain ⟨oc, ol⟩ := own_at od HPOS
      have ck := oc k hlt
      obtain ⟨hd2, hd1⟩ := HDK0.out k hlt
      obtain ⟨hX1, hX2⟩ := HPC.out k hlt
      obtain ⟨pk, cc, srk, hsk⟩ := HPS.out k hlt
      have ED := Lib.hid (EDF.out k)
      rw [← hd2] at ED
      obtain ⟨d, hd⟩ : ∃ d, gt D k = d := ⟨_, rfl⟩
      rw [hd] at ck hd1 ED
      have ALO := Lib.hid (fun W => ALO0.out k hlt d hd1 W)
      obtain ⟨X, hX⟩ : ∃ X, piece xs (1 + k) = X := ⟨_, rfl⟩
      rw [hX] at ALO ED hX1 hX2 srk
      have TK := Lib.hid (EOK.out k hlt)
      obtain ⟨T, hT⟩ : ∃ T, walkN I q k d (top - d) X = T := ⟨_, rfl⟩
      rw [hT] at ALO ED
      have HT32 := Lib.hid (show T.length = 32 by rw [ED.out]; exact TK.out.1)
      have OO := Lib.hid oo; have OD := Lib.hid od; have K0 := Lib.hid k0; have K1 := Lib.hid k1; have BW := Lib.hid bw; have CK := Lib.hid ck; have HX1 := Lib.hid hX1; have SRK := Lib.hid srk; have HSK := Lib.hid hsk
      have olg : gd < wr.heap.size := ol
      clear oo od k0 k1 bw hX hT hd hd2 oc ol ck hd1 hX1 hX2 srk hsk
      go_upto_region 10 with (fail)
      refine world_is (fun Y => Blk Y wr.heap.size 24 (u8s z32) ∧ Below wr.heap.size wr Y) ⟨Blk.new wr _ (u8s z32), (Below.refl _ _).alloc (Nat.le_refl _) _⟩ ?_
      rintro Y ⟨x0, bx⟩
      have X0 := Lib.hid (show Blk Y.drew wr.heap.size 24 ([] ++ (u8s z32 ++ [])) by rw [List.nil_append, List.append_nil]; exact x0.drew); have BX := Lib.hid bx.drew
      clear x0 bx
      have hsk := HSK.out
      have g1 : IntKind.i64.wrap (32 * (k : Int)) = 32 * (k : Int) := IntWalk.i64_in _ (by omega)
      have g2 : IntKind.i64.wrap (36 + 32 * (k : Int)) = 36 + 32 * (k : Int) := IntWalk.i64_in _ (by omega)
      have g3 : IntKind.i64.wrap (68 + 32 * (k : Int)) = 68 + 32 * (k : Int) := IntWalk.i64_in _ (by omega)
      refine wp_region_held (S := fun _ => True) (by kernel_rfl) ?_
      change wpAnyH _ _ _ _ _ _ _ _ Y.drew
      obtain ⟨V, hV⟩ : ∃ V, Y.drew = V := ⟨_, rfl⟩
      rw [hV] at X0 BX ⊢
      clear hV
      refine wpAnyH_take (i := 0) (v := ?_) rfl (by kernel_rfl) (by kernel_rfl) (by kernel_rfl) (fun _ _ _ h => h) (Or.inl ⟨by kernel_rfl, ?_⟩) trivial ?_
      rotate_left 1
      · (intro w hS; clear hS; go_simp; try (with_reducible rfl))
      refine wpAnyH_take (i := 1) (v := ?_) rfl (by kernel_rfl) (by kernel_rfl) (by kernel_rfl) (fun _ _ _ h => h) (Or.inl ⟨by kernel_rfl, ?_⟩) trivial ?_
      rotate_left 1
      · (intro w hS; clear hS; go_simp; try (with_reducible rfl))
      refine wpAnyH_take (i := 2) (v := ?_) rfl (by kernel_rfl) (by kernel_rfl) (by kernel_rfl) (fun _ _ _ h => h) (Or.inl ⟨by kernel_rfl, ?_⟩) trivial ?_
      rotate_left 1
      · (intro w hS; clear hS; go_simp; try (with_reducible rfl))
      refine wpAnyH_take (i := 3) (v := ?_) rfl (by kernel_rfl) (by kernel_rfl) (by kernel_rfl) (fun _ _ _ h => h) (Or.inl ⟨by kernel_rfl, ?_⟩) trivial ?_
      rotate_left 1
      · (intro w hS; clear hS; go_simp; try (with_reducible rfl))
      refine wpAnyH_take (i := 4) (v := ?_) rfl (by kernel_rfl) (by kernel_rfl) (by kernel_rfl) (fun _ _ _ h => h) (Or.inl ⟨by kernel_rfl, ?_⟩) trivial ?_
      rotate_left 1
      · (intro w hS; clear hS; go_simp; try (with_reducible rfl))
      refine wpAnyH_take (i := 5) (v := ?_) rfl (by kernel_rfl) (by kernel_rfl) (by kernel_rfl) (fun _ _ _ h => h) (Or.inl ⟨by kernel_rfl, ?_⟩) trivial ?_
      rotate_left 1
      · (intro w hS; clear hS; go_simp; try (with_reducible rfl))
      refine wpAnyH_take (i := 6) (v := ?_) rfl (by kernel_rfl) (by kernel_rfl) (by kernel_rfl) (fun _ _ _ h => h) (Or.inl ⟨by kernel_rfl, ?_⟩) trivial ?_
      rotate_left 1
      · (intro w hS; clear hS; go_simp; try (with_reducible rfl))
      refine wpAnyH_take (i := 7) (v := ?_) rfl (by kernel_rfl) (by kernel_rfl) (by kernel_rfl) (fun _ _ _ h => h) (Or.inl ⟨by kernel_rfl, ?_⟩) trivial ?_
      rotate_left 1
      · (intro w hS; clear hS; go_simp; try (with_reducible rfl))
      refine wpAnyH_take (i := 8) (v := ?_) rfl (by kernel_rfl) (by kernel_rfl) (by kernel_rfl) (fun _ _ _ h => h) (Or.inl ⟨by kernel_rfl, ?_⟩) trivial ?_
      rotate_left 1
      · (intro w hS; clear hS; go_simp; try (with_reducible rfl))
      refine wpAnyH_ready (rs := [9]) (by kernel_rfl) (by simp) ?_
      refine AllReadyH.cons rfl (fun K hK => ?_) AllReadyH.nil
      rw [if_pos (by kernel_rfl)]
      have HL1 := Lib.hid (show (u8s z32).length = (u8s X).length by rw [u8s_length, u8s_length, HX1.out]; rfl)
      have HL2 := Lib.hid (show (u8s X).length = 32 by rw [u8s_length, HX1.out])
      refine wcopy_part (.tmp 48) (.tmp 56) 27 27 5 wr.heap.size 0 32 32 32 cc 32 (some ⟨wr.heap.size, 0, none⟩) pk 24 [] (u8s z32) [] (u8s X) rfl Tryd.underlying27 byte_size X0.out rfl HL1.out HL2.out (by go_simp) (by go_simp) (fun _ => ⟨rfl, (SRK.out.below (BW.out.trans (BX.out.mono BW.out.size))).cells (by rw [HX1.out]; decide)⟩) (u8s_each _) HL2.out ?_
      intro w3 a1 a2 a3
      have X3 := Lib.hid (show Blk w3 wr.heap.size 24 (u8s X) by have := a1.out; rwa [List.nil_append, List.append_nil] at this)
      have BX3 := Lib.hid (BX.out.trans (a2.out.below (B' := wr.heap.size) (Nat.le_refl _) BX.out.size))
      clear a1 a2 a3 X0 BX
      refine hK.out _ _ trivial (fun _ => ?_)
      clear hK K
      refine wpAnyH_done (by kernel_rfl) ?_ _
      go_simp
      clear hsk g1 g2 g3
      obtain ⟨gx, hgx⟩ : ∃ g, wr.heap.size = g := ⟨_, rfl⟩
      have hgx2 : gd < gx := by rw [← hgx]; exact olg
      have I3 := Lib.hid (K0.out.below BX3.out K0.out.lt); have C3 := Lib.hid (show w3.cell? ⟨gd, k, none⟩ = some (.int .i64 (d : Int)) from (BX3.out.cell (p := ⟨gd, k, none⟩) olg).trans CK.out)
      rw [hgx] at X3 ⊢
      go_upto_region 11 with (fail)
      have I4 := Lib.hid I3.out.drew; have C4 := Lib.hid (show w3.drew.cell? ⟨gd, k, none⟩ = some (.int .i64 (d : Int)) from C3.out); have X4 := Lib.hid X3.out.drew; have BX4 := Lib.hid BX3.out.drew
      have hgI : w.heap.size < w3.drew.heap.size := I4.out.lt
      refine wp_region_E (fun X' => X'.rangeAt w.heap.size 0 (u8s I) ∧ X'.cell? ⟨gd, k, none⟩ = some (.int .i64 (d : Int)) ∧ X'.rangeAt gx 0 (u8s X)) (fun i => i == 13) (by kernel_rfl) ?_
      change wpAnyE _ _ _ _ _ _ _ _ _ w3.drew
      obtain ⟨V, hV⟩ : ∃ V, w3.drew = V := ⟨_, rfl⟩
      rw [hV] at I4 C4 X4 BX4 hgI ⊢
      clear hV I3 C3 X3 BX3
      have r1 : V.rangeAt w.heap.size 0 (u8s I) ∧ V.cell? ⟨gd, k, none⟩ = some (.int .i64 (d : Int)) ∧ V.rangeAt gx 0 (u8s X) := ⟨range_of_blk I4.out, C4.out, range_of_blk X4.out⟩
      have f0 := F0.out; have f1 := F1.out; have f2 := F2.out
      refine wpAnyE_take (i := 0) (v := .agg (u8s I).toArray) rfl (by kernel_rfl) (by kernel_rfl) (by kernel_rfl) (by kernel_rfl) (fun _ _ _ h => h) (yieldsIf_load_mid (by kernel_rfl) 22 (.tmp 5) rfl w.heap.size 0 (by go_simp) (u8s I) _ (fun _ h => h.1) Tryd.underlying22 rfl (size16 _ HI.out)) r1 ?_
      refine wpAnyE_take (i := 1) (v := ?_) rfl (by kernel_rfl) (by kernel_rfl) (by kernel_rfl) (by kernel_rfl) (fun _ _ _ h => h) (Or.inl ⟨by kernel_rfl, ?_⟩) r1 ?_
      rotate_left 1
      · (intro w hS; clear hS; go_simp; try (with_reducible rfl))
      refine wpAnyE_take (i := 2) (v := ?_) rfl (by kernel_rfl) (by kernel_rfl) (by kernel_rfl) (by kernel_rfl) (fun _ _ _ h => h) (Or.inl ⟨by kernel_rfl, ?_⟩) r1 ?_
      rotate_left 1
      · (intro w hS; clear hS; go_simp; try (with_reducible rfl))
      refine wpAnyE_take (i := 3) (v := ?_) rfl (by kernel_rfl) (by kernel_rfl) (by kernel_rfl) (by kernel_rfl) (fun _ _ _ h => h) (Or.inl ⟨by kernel_rfl, ?_⟩) r1 ?_
      rotate_left 1
      · (intro w hS; clear hS; go_simp; try (with_reducible rfl))
      refine wpAnyE_take (i := 4) (v := ?_) rfl (by kernel_rfl) (by kernel_rfl) (by kernel_rfl) (by kernel_rfl) (fun _ _ _ h => h) (Or.inl ⟨by kernel_rfl, ?_⟩) r1 ?_
      rotate_left 1
      · (intro w hS; clear hS; go_simp; try (with_reducible rfl))
      refine wpAnyE_take (i := 5) (v := ?_) rfl (by kernel_rfl) (by kernel_rfl) (by kernel_rfl) (by kernel_rfl) (fun _ _ _ h => h) (Or.inl ⟨by kernel_rfl, ?_⟩) r1 ?_
      rotate_left 1
      · (intro w hS; clear hS; go_simp; try (with_reducible rfl))
      refine wpAnyE_take (i := 6) (v := ?_) rfl (by kernel_rfl) (by kernel_rfl) (by kernel_rfl) (by kernel_rfl) (fun _ _ _ h => h) (Or.inl ⟨by kernel_rfl, ?_⟩) r1 ?_
      rotate_left 1
      · (intro w hS; have hs := hS.2.1; clear hS; go_simp; try (with_reducible rfl))
      refine wpAnyE_take (i := 7) (v := ?_) rfl (by kernel_rfl) (by kernel_rfl) (by kernel_rfl) (by kernel_rfl) (fun _ _ _ h => h) (Or.inl ⟨by kernel_rfl, ?_⟩) r1 ?_
      rotate_left 1
      · (intro w hS; clear hS; go_simp; try (with_reducible rfl))
      refine wpAnyE_take (i := 8) (v := ?_) rfl (by kernel_rfl) (by kernel_rfl) (by kernel_rfl) (by kernel_rfl) (fun _ _ _ h => h) (Or.inl ⟨by kernel_rfl, ?_⟩) r1 ?_
      rotate_left 1
      · (intro w hS; clear hS; go_simp; try (with_reducible rfl))
      refine wpAnyE_take (i := 9) (v := ?_) rfl (by kernel_rfl) (by kernel_rfl) (by kernel_rfl) (by kernel_rfl) (fun _ _ _ h => h) (Or.inl ⟨by kernel_rfl, ?_⟩) r1 ?_
      rotate_left 1
      · (intro w hS; clear hS; go_simp; try (with_reducible rfl))
      refine wpAnyE_take (i := 10) (v := ?_) rfl (by kernel_rfl) (by kernel_rfl) (by kernel_rfl) (by kernel_rfl) (fun _ _ _ h => h) (Or.inl ⟨by kernel_rfl, ?_⟩) r1 ?_
      rotate_left 1
      · (intro w hS; clear hS; go_simp; try (with_reducible rfl))
      refine wpAnyE_take (i := 11) (v := .agg (u8s X).toArray) rfl (by kernel_rfl) (by kernel_rfl) (by kernel_rfl) (by kernel_rfl) (fun _ _ _ h => h) (yieldsIf_load_mid (by kernel_rfl) 24 (.tmp 16) rfl gx 0 (by go_simp) (u8s X) _ (fun _ h => h.2.2) Tryd.underlying24 rfl (size32 _ HX1.out)) r1 ?_
      clear f0 f1 f2
      refine wpAnyE_one (i := 12) (by kernel_rfl) rfl (by kernel_rfl) (fun K hK => ?_)
      go_simp
      refine (ALO.out V).mono ?_
      rintro e w5' ⟨rfl, b5⟩
      have hgd5 : gd < V.heap.size := Nat.lt_of_lt_of_le olg BX4.out.size
      have r5 : w5'.rangeAt w.heap.size 0 (u8s I) ∧ w5'.cell? ⟨gd, k, none⟩ = some (.int .i64 (d : Int)) ∧ w5'.rangeAt gx 0 (u8s X) := ⟨range_of_blk (I4.out.below b5 I4.out.lt), (b5.cell (p := ⟨gd, k, none⟩) hgd5).trans C4.out, range_of_blk (X4.out.below b5 X4.out.lt)⟩
      have X5 := Lib.hid (X4.out.below b5 X4.out.lt); have BX5 := Lib.hid (BX4.out.trans (b5.mono BX4.out.size))
      refine hK.out _ _ (.inr r5) ?_
      clear hK K
      refine wpAnyE_one (i := 13) (by kernel_rfl) rfl (by kernel_rfl) (fun K hK => ?_)
      refine wstore_part 24 (.tmp 16) (.tmp 70) gx 0 24 [] (u8s X) [] (u8s T) rfl (by rw [List.nil_append, List.append_nil]; exact X5.out) rfl (by rw [u8s_length, u8s_length, HX1.out, HT32.out]) (size32 _ HT32.out) (u8s_one _) rfl rfl ?_
      intro w6 a1 a2 a3
      have DZ := Lib.hid (show Blk w6 gx 24 (u8s T) by have := a1.out; rwa [List.nil_append, List.append_nil] at this)
      have bz : Below wr.heap.size wr w6 := BX5.out.trans (a2.out.below (by rw [hgx]; exact Nat.le_refl _) BX5.out.size)
      refine hK.out _ _ (.inl rfl) ?_
      clear hK K
      refine wpAnyE_done (by kernel_rfl) ?_ _
      go_simp
      have O2 := Lib.hid (own_below OO.out bz); have OD2 := Lib.hid (own_below OD.out bz); have J0 := Lib.hid (K0.out.below bz K0.out.lt); have J1 := Lib.hid (K1.out.below bz K1.out.lt); have B2 := Lib.hid (BW.out.trans (bz.mono BW.out.size))
      have SZ := Lib.hid (Sr.of_blk (xs := T) (rest := []) DZ.out (by simp))
      have HCL := Lib.hid (catN_length E k (fun j hj => (EOK.out j (by omega)).1))
      have HCS := Lib.hid (show catN E (k + 1) = catN E k ++ T by rw [catN, ED.out])
      obtain ⟨Z, hZ⟩ : ∃ Z, catN E k = Z := ⟨_, rfl⟩
      rw [hZ] at O2 HCS HCL
      clear a1 a2 a3 bz OO OD K0 K1 BW hZ CK DZ X5 BX5 r1 r5 I4 C4 X4 BX4 ALO ED TK
      go_wp2_with ((with_reducible refine at_op (.call { callee := .builtin .append, args := #[.tmp 71, .tmp 72], argTypes := #[27, 27] }) rfl ?_); go_must (refine append_bytes (.tmp 71) (.tmp 72) 27 rfl rfl 5 Tryd.underlying27 byte_info w.heap.size (.slice A' (32 * k) c') (32 * k) Z T rfl O2.out (some ⟨gx, 0, none⟩) 32 32 rfl HT32.out SZ.out (by omega) B2.out.size ?_); intro v3 w9 a1 a2 a3)
      obtain ⟨A3, c3, rfl, hc3⟩ := own_form a1.out
      have Q0 := Lib.hid (own_kept_blk O2.out a2.out J0.out (by decide))
      have Q1 := Lib.hid (own_kept_blk O2.out a2.out J1.out (by decide))
      have QD := Lib.hid (own_kept (F := fun z => (Value.slice A' (32 * k) c').ownBlock = some z) OD2.out ((Kept.refl (fun z => (Value.slice A' (32 * k) c').ownBlock = some z) _).grown a2.out (fun z e => .inl e)) (fun z e he => own_types OD2.out O2.out (by decide) z e he))
      have B3 := Lib.hid (B2.out.grown a2.out B2.out.size (fun i e => (O2.out.lt i e).1))
      clear hc3
      go_roundw
      case rel =>
        refine ⟨k + 1, A3, c3, by omega, by go_num, rfl, ?_, QD.out, Q0.out, Q1.out, B3.out⟩
        rw [HCS.out]
        exact a1.out
      case measure => simp [intOf]; omega
    · obtain rfl : k = p := by omega
      have HCL := Lib.hid (catN_length E k (fun j hj => (EOK.out j hj).1))
      have HCB := Lib.hid (catN_bytes E k (fun j hj => (EOK.out j hj).2))
      obtain ⟨Z, hZ⟩ : ∃ Z, catN E k = Z := ⟨_, rfl⟩
      rw [hZ] at oo HCL HCB HCN
      have SY := Lib.hid (Sr.of_own oo); have K0 := Lib.hid k0; have K1 := Lib.hid k1; have BW := Lib.hid bw
      clear oo od k0 k1 bw hZ
      go_wp2_with ((with_reducible refine load_blk 22 (.tmp 5) w.heap.size 22 (u8s I) _ rfl rfl ?_ Tryd.underlying22 ?_ ?_ ?_ ?_); exact K0.out; exact rfl; exact size16 _ HI.out; exact rfl)
      refine (ENDS.out Z (32 * k) A' c' wr HCL.out SY.out HCB.out (by rw [HCL.out]; omega)).mono ?_
      rintro e w3 ⟨rfl, b3⟩
      rw [← HCN.out]
      have HPL := Lib.hid (show (candN I q i ys xs).length = 32 from rfl)
      obtain ⟨S, hS⟩ : ∃ S, candN I q i ys xs = S := ⟨_, rfl⟩
      rw [hS] at HPL ⊢
      have HSS := Lib.hid hS
      have R3 := Lib.hid (K1.out.below b3 K1.out.lt); have B3 := Lib.hid (BW.out.trans (b3.mono BW.out.size))
      clear b3 hS
      go_wp2_with ((with_reducible refine store_blk 24 (.tmp 10) (.tmp 77) (w.heap.size + 1) 24 (u8s z32) (u8s S) rfl rfl ?_ ?_ ?_ ?_ ?_ ?_ ?_); exact R3.out; exact hash_len _ HPL.out; exact size32 _ HPL.out; exact u8s_one _; exact rfl; exact rfl)
      refine ret_blk2 (p := 10) (u := 11) (ty := 24) rfl rfl (w.heap.size + 1) 24 (u8s S) _ rfl (R3.out.setRow _) Tryd.underlying24 rfl (size32 _ HPL.out) (.int .i64 0) rfl ?_
      exact ⟨by rw [HSS.out], below_setRow B3.out (by omega) _⟩
end Go.Proofs.YthcebaegijlbdaaDoor
namespace Go.Proofs.YthcebaegijlbdaaDoor
open Go Go.RowKit Sh

/-- wide: one of the widths 1, 2, 4. -/
theorem widths_h (n : Int) (w : World) : ∃ i, i < 3 ∧ Calls Tryd.prog 6 #[.int .i64 n] w fun e w' => e = .returned (.int .i64 ((kd i).w : Int)) ∧ Below w.heap.size w w' := by
  obtain ⟨k, hk, hke⟩ := mod_of 4 (by decide) (by decide) n
  rw [show ((4 : Nat) : Int) = 4 from rfl] at hke
  have : k = 0 ∨ k = 1 ∨ k = 2 ∨ k = 3 := by omega
  have h : ∃ i, i < 3 ∧ ((k = 0 ∧ i = 0) ∨ (k = 1 ∧ i = 1) ∨ (k = 2 ∧ i = 2) ∨ (k = 3 ∧ i = 1)) := by
    rcases this with rfl | rfl | rfl | rfl
    · exact ⟨0, by decide, .inl ⟨rfl, rfl⟩⟩
    · exact ⟨1, by decide, .inr (.inl ⟨rfl, rfl⟩)⟩
    · exact ⟨2, by decide, .inr (.inr (.inl ⟨rfl, rfl⟩))⟩
    · exact ⟨1, by decide, .inr (.inr (.inr ⟨rfl, rfl⟩))⟩
  obtain ⟨i, hi, h⟩ := h
  refine ⟨i, hi, ?_⟩
  rcases h with ⟨rfl, rfl⟩ | ⟨rfl, rfl⟩ | ⟨rfl, rfl⟩ | ⟨rfl, rfl⟩
  all_goals
    go_enter Tryd.func6, Tryd.ntmps6
    go_wp2
    go_ret
    exact ⟨rfl, (Below.refl _ _).alloc (Nat.le_refl _) _⟩
theorem neq_hash (xs ys : List Nat) (hx : xs.length = 32) (hy : ys.length = 32) (w : World) : (binOp .neq 24 (.agg (u8s xs).toArray) (.agg (u8s ys).toArray)).run Tryd.prog w = .ok (.bool (!decide (xs = ys))) w := by
  rw [run_neq_struct, eqIn_u8s 9998 24 32 Tryd.underlying24 xs ys hx hy w]
  rfl
theorem neq_self (xs : List Nat) (hx : xs.length = 32) (w : World) : (binOp .neq 24 (.agg (u8s xs).toArray) (.agg (u8s xs).toArray)).run Tryd.prog w = .ok (.bool false) w := by
  rw [neq_hash xs xs hx hx w]; simp
theorem eql_self (xs : List Nat) (hx : xs.length = 32) (w : World) : (binOp .eql 24 (.agg (u8s xs).toArray) (.agg (u8s xs).toArray)).run Tryd.prog w = .ok (.bool true) w := by
  rw [eql_hash xs xs hx hx w]; simp
theorem xor_u8n (a x : Nat) (ha : a < 256) (hx : x < 256) : bits .xor .u8 (a : Int) (x : Int) = ((a ^^^ x : Nat) : Int) := by
  show IntKind.u8.wrap ((BitVec.ofInt 8 (a : Int) ^^^ BitVec.ofInt 8 (x : Int)).toNat : Int) = _
  have e1 : ∀ y : Nat, y < 256 → (BitVec.ofInt 8 (y : Int)).toNat = y := fun y hy => by simp; omega
  have h : a ^^^ x < 256 := Nat.xor_lt_two_pow (n := 8) ha hx
  rw [BitVec.toNat_xor, e1 a ha, e1 x hx]
  exact IntWalk.u8_in _ (by omega)
/-- A row of bytes of the call's own, as a block. -/
theorem own_blk {w : World} {base : Nat} {v : Value} {l : List Nat} {n : Nat} (h : w.ownsRow base 5 1 v n (u8s l)) (hn : 0 < n) : ∃ g c rest, v = .slice (some ⟨g, 0, none⟩) n c ∧ n ≤ c ∧ base ≤ g ∧ Blk w g 5 (u8s l ++ rest) := by
  rcases h.2 with ⟨_, h0⟩ | ⟨g, cap, cur, rfl, hb, hh, hc, _, hs, ht⟩
  · omega
  · refine ⟨g, cap, cur.toList.drop n, rfl, hc, hb, ?_⟩
    have e : u8s l ++ cur.toList.drop n = cur.toList := by
      rw [← ht, Nat.mul_one, List.take_append_drop]
    unfold Blk
    rw [e]
    simpa using hh
theorem mod_big (m : Nat) (hm : 0 < m) (hm2 : m ≤ 1000000) (n : Int) : ∃ k : Nat, k < m ∧ wrap64 ((IntKind.u64.wrap n).tmod (m : Int)) = (k : Int) := by
  have h0 : 0 ≤ IntKind.u64.wrap n := by simp [IntKind.wrap, IntKind.bits, IntKind.signed]; omega
  rw [Int.tmod_eq_emod_of_nonneg h0]
  generalize IntKind.u64.wrap n = x at *
  have h3 : 0 ≤ x % (m : Int) := Int.emod_nonneg _ (by omega)
  have h4 : x % (m : Int) < (m : Int) := Int.emod_lt_of_pos _ (by omega)
  refine ⟨(x % (m : Int)).toNat, by omega, ?_⟩
  generalize x % (m : Int) = y at *
  unfold wrap64
  omega
/-- What Candidate tells of a signature of the right length: the key, and the error. -/
def candR (I : List Nat) (q i : Nat) (ys xs : List Nat) : List Nat × Nat := if val (xs.take 4) = (kd i).code then (candN I q i ys xs, 0) else (z32, 3)
theorem candR_length (I : List Nat) (q i : Nat) (ys xs : List Nat) : (candR I q i ys xs).1.length = 32 := by
  unfold candR; split <;> rfl
theorem candR_yes (I : List Nat) (q i : Nat) (ys xs : List Nat) (h : val (xs.take 4) = (kd i).code) : candR I q i ys xs = (candN I q i ys xs, 0) := if_pos h
theorem candR_no (I : List Nat) (q i : Nat) (ys xs : List Nat) (h : val (xs.take 4) ≠ (kd i).code) : candR I q i ys xs = (z32, 3) := if_neg h
theorem prog_cand (I xs ys : List Nat) (q i : Nat) (n : Int) (A P : Option Addr) (ma ca m c : Nat) (w : World) (hn : n = ((kd i).w : Int)) (hI : I.length = 16) (hIb : Bytes I) (hq : q < 32) (hi : i < 4) (hy : ys.length = ma) (ha : Sr w A ys) (hyb : Bytes ys) (hca : ma ≤ ca) (hma : ma ≤ 100000) (hx : xs.length = m) (hp : Sr w P xs) (hxb : Bytes xs) (hc : m ≤ c) (hm : m = 36 + 32 * (kd i).p) (hk : KAt w) (hki : KI w) :
    Calls Tryd.prog 10 #[.agg (u8s I).toArray, .int .i64 (q : Int), .int .i64 n, .slice A ma ca, .slice P m c] w fun e w' => e = .returned (.tuple #[.agg (u8s (candR I q i ys xs).1).toArray, .int .i64 ((candR I q i ys xs).2 : Int)]) ∧ Below w.heap.size w w' := by
  have hp9 := kd_p i hi
  by_cases hcode : val (xs.take 4) = (kd i).code
  · rw [candR_yes _ _ _ _ _ hcode]
    exact cand_t I xs ys q i n A P ma ca m c w hn hI hIb hq hi hy ha hyb hca (by omega) hx hp hxb hc hm hcode hk hki
  · rw [candR_no _ _ _ _ _ hcode]
    exact cand_sig I xs q i n A P ma ca m c w hn hI hq hi hx hp hxb hc (by omega) (.inr hcode) hki
theorem ref_cand (I xs ys : List Nat) (q i : Nat) (A P : Option Addr) (ma ca m c : Nat) (w : World) (hI : I.length = 16) (hIb : Bytes I) (hq : q < 1000) (hi : i < 4) (hy : ys.length = ma) (ha : Sr w A ys) (hyb : Bytes ys) (hma : ma ≤ 100000) (hx : xs.length = m) (hp : Sr w P xs) (hxb : Bytes xs) (hc : m ≤ c) (hm : m = 36 + 32 * (kd i).p) :
    Calls Tryd.prog 11 #[.agg (u8s I).toArray, .int .i64 (q : Int), .int .i64 ((kd i).w : Int), .slice A ma ca, .slice P m c] w fun e w' => e = .returned (.tuple #[.agg (u8s (candR I q i ys xs).1).toArray, .int .i64 ((candR I q i ys xs).2 : Int)]) ∧ Below w.heap.size w w' := by
  by_cases hcode : val (xs.take 4) = (kd i).code
  · rw [candR_yes _ _ _ _ _ hcode]
    exact refcand_t I xs ys q i A P ma ca m c w hI hIb hq hi hy ha hyb hma hx hp hxb hc hm hcode
  · rw [candR_no _ _ _ _ _ hcode]
    exact refcand_code I xs (q : Int) i A P ma ca m c w hI hIb hi hx hp hxb hc hm hcode
/-- A byte turned in the typecode is a fault, elsewhere it is none. -/
theorem turned (I ys xs : List Nat) (q i n x : Nat) (hi : i < 4) (hb : Bytes xs) (hl : 4 ≤ xs.length) (hn : n < xs.length) (hx : x ≠ 0) (hx2 : x < 256) (hcode : val (xs.take 4) = (kd i).code) :
    Bytes (xs.set n (gt xs n ^^^ x)) ∧ (n < 4 ∧ (candR I q i ys (xs.set n (gt xs n ^^^ x))).2 = 3 ∨ ¬ n < 4 ∧ (candR I q i ys (xs.set n (gt xs n ^^^ x))).2 = 0) := by
  have hc4 : (kd i).code ≤ 4 := by rcases i with _ | _ | _ | i <;> simp [kd]
  have hz : gt xs n ^^^ x < 256 := Nat.xor_lt_two_pow (n := 8) (hb n) hx2
  have hb2 : Bytes (xs.set n (gt xs n ^^^ x)) := sl_bytes (fun y hy => by
    rcases List.mem_or_eq_of_mem_set hy with h | rfl
    · obtain ⟨q, hq, rfl⟩ := List.getElem_of_mem h
      have := hb q
      rwa [gt_of_lt hq] at this
    · exact hz)
  refine ⟨hb2, ?_⟩
  by_cases h4 : n < 4
  · refine .inl ⟨h4, ?_⟩
    have hne : val ((xs.set n (gt xs n ^^^ x)).take 4) ≠ (kd i).code := fun h => by
      have e1 := (code_eq _ _ (by rw [List.length_set]; exact hl) hb2 (by omega)).2 h
      have e2 := (code_eq xs _ hl hb (by omega)).2 hcode
      have e3 : (xs.set n (gt xs n ^^^ x)).take 4 = xs.take 4 := e1.trans e2.symm
      have e4 : ((xs.set n (gt xs n ^^^ x)).take 4)[n]? = (xs.take 4)[n]? := by rw [e3]
      rw [List.getElem?_take, List.getElem?_take, if_pos h4, if_pos h4, List.getElem?_set_self hn, List.getElem?_eq_getElem hn] at e4
      have e5 := Option.some.inj e4
      rw [gt_of_lt hn] at e5
      have e6 : xs[n] ^^^ (xs[n] ^^^ x) = xs[n] ^^^ xs[n] := by rw [e5]
      rw [← Nat.xor_assoc, Nat.xor_self, Nat.zero_xor] at e6
      exact hx e6
    rw [candR_no _ _ _ _ _ hne]
  · refine .inr ⟨h4, ?_⟩
    have e : (xs.set n (gt xs n ^^^ x)).take 4 = xs.take 4 := by
      apply List.ext_getElem?
      intro j
      rw [List.getElem?_take, List.getElem?_take]
      split
      · rw [List.getElem?_set_ne (by omega)]
      · rfl
    rw [candR_yes _ _ _ _ _ (by rw [e]; exact hcode)]
/-- The load of ONE operation, named by the slot that it writes. -/
theorem load_at {P : Program} {ops : Array Oper} {rest : List Oper} {o : Oper} {a : Act} {w : World} {Q : Exit → Act → World → Prop} (D : Nat) (ty : TypeId) (x : Operand) (g : Nat) (t : TypeId) (cs : List Value) (d : TypeDesc)
    (_hD : o.dst = some D) (hw : Region.wanted o (yielded ops a.tmps) = true) (ho : o.op = .load ty x) (hg : Blk w g t cs) (hu : P.underlying ty = some d) (hd : d.isRow = true) (hi : (P.info? ty).map (·.size) = some cs.length)
    (hx : a.eval x = .pointer (some ⟨g, 0, none⟩)) (h : wpList P ops Q rest (a.put o.dst (.agg cs.toArray)) w) : wpList P ops Q (o :: rest) a w :=
  load_blk_g ty x g t cs d hw ho hg hu hd hi hx h
/-- What the law has laid down so far: the secret, the signature, the hashes. -/
structure HCap (w0 w : World) (gs : Nat) (I seed : List Nat) (A : Option Addr) (sg : List Nat) (L : List (Nat × List Nat)) : Prop where
  cap : LCap w0 w gs I seed
  sr : Sr w A sg
  blk : ∀ x, x ∈ L → Blk w x.1 24 (u8s x.2)
theorem HCap.below {w0 w w' : World} {gs : Nat} {I seed : List Nat} {A : Option Addr} {sg : List Nat} {L : List (Nat × List Nat)} (h : HCap w0 w gs I seed A sg L) (hb : Below w.heap.size w w') : HCap w0 w' gs I seed A sg L :=
  ⟨h.cap.below hb, h.sr.below hb, fun x hx => (h.blk x hx).below hb (h.blk x hx).lt⟩
theorem HCap.push {w0 w : World} {gs : Nat} {I seed : List Nat} {A : Option Addr} {sg : List Nat} {L : List (Nat × List Nat)} (h : HCap w0 w gs I seed A sg L) (X : List Nat) :
    HCap w0 ((w.alloc (.cells (u8s z32).toArray 24)).setRow w.heap.size (u8s X).toArray) gs I seed A sg ((w.heap.size, X) :: L) := by
  have hb := below_store w (u8s z32) 24 (u8s X).toArray
  refine ⟨h.cap.below hb, h.sr.below hb, fun x hx => ?_⟩
  rcases List.mem_cons.1 hx with rfl | hx
  · exact (Blk.new w _ (u8s z32)).setRow (u8s X)
  · exact (h.blk x hx).below hb (h.blk x hx).lt
set_option maxRecDepth 100000 in
set_option maxHeartbeats 4000000 in
theorem holds_t (I seed xs ys : List Nat) (q n at_ : Int) (x : Nat) (P R : Option Addr) (m cc m2 c2 : Nat) (w : World) (hI : I.length = 16) (hIb : Bytes I) (hs : seed.length = 32) (hsb : Bytes seed) (hx : xs.length = m) (hp : Sr w P xs) (hxb : Bytes xs) (hcc : m ≤ cc) (hml : m ≤ 9223372036854775807) (hy : ys.length = m2) (hr : Sr w R ys) (hyb : Bytes ys) (hc2 : m2 ≤ c2) (hml2 : m2 ≤ 9223372036854775807) (hx8 : x < 256) (hk : KAt w) (hki : KI w) :
    Calls Tryd.prog 3 #[.agg (u8s (I ++ seed)).toArray, .int .i64 q, .int .i64 n, .slice P m cc, .slice R m2 c2, .int .i64 at_, .int .u8 (x : Int)] w fun e w' => e = .returned (.bool true) ∧ Below w.heap.size w w' := by
  have HI := Lib.hid hI; have HIB := Lib.hid hIb; have HS := Lib.hid hs; have HSB := Lib.hid hsb; have HX := Lib.hid hx; have HP := Lib.hid hp; have HXB := Lib.hid hxb; have HCC := Lib.hid hcc
  have HY := Lib.hid hy; have HR := Lib.hid hr; have HYB := Lib.hid hyb; have HC2 := Lib.hid hc2; have HK := Lib.hid hk; have HKI := Lib.hid hki; have HG := Lib.hid hk.lt
  have B0 := Lib.hid ((Below.refl w.heap.size w).alloc (Nat.le_refl _) (.cells (u8s (I ++ seed)).toArray 26))
  have C0 := Lib.hid (show LCap w (w.alloc (.cells (u8s (I ++ seed)).toArray 26)) w.heap.size I seed from ⟨Blk.new w _ _, B0.out⟩)
  clear hI hIb hs hsb hx hp hxb hcc hk hki hy hr hyb hc2
  by_cases hbig : 100 < m ∨ 100 < m2
  · by_cases h1 : 100 < m
    · clear hbig
      go_enter Tryd.func3, Tryd.ntmps3
      go_wp2_with fail
      refine (told_t _ (HKI.out.kept B0.out)).mono ?_
      rintro e w2 ⟨rfl, b2⟩
      go_wp2_with fail
      go_ret
      exact ⟨rfl, B0.out.trans (b2.mono B0.out.size)⟩
    · have h2 : 100 < m2 := by omega
      have h3 : m ≤ 100 := by omega
      clear hbig h1
      go_enter Tryd.func3, Tryd.ntmps3
      go_wp2_with fail
      refine (told_t _ (HKI.out.kept B0.out)).mono ?_
      rintro e w2 ⟨rfl, b2⟩
      go_wp2_with fail
      go_ret
      exact ⟨rfl, B0.out.trans (b2.mono B0.out.size)⟩
  · have m1 : (m : Int) ≤ 100 := by omega
    have m21 : (m2 : Int) ≤ 100 := by omega
    have hS48 := Lib.hid (show (I ++ seed).length = 48 by rw [List.length_append, HI.out, HS.out])
    obtain ⟨k, hk32, hke⟩ := mod_of 32 (by decide) (by decide) q
    rw [show ((32 : Nat) : Int) = 32 from rfl] at hke
    obtain ⟨i, hi3, hw⟩ := widths_h n (w.alloc (.cells (u8s (I ++ seed)).toArray 26))
    have hi : i < 4 := by omega
    have HW := Lib.hid hw
    clear hbig hw
    have hp9 := kd_p i hi
    obtain ⟨k2, hk2⟩ : ∃ k2, (k + 1) % 32 = k2 := ⟨_, rfl⟩
    have hk22 : k2 < 32 := by omega
    have PB := Lib.hid (fun W (h : Below w.heap.size w W) => public_t I seed k i ((kd i).w : Int) W rfl HI.out HIB.out HS.out HSB.out hk32 hi (HK.out.below h HG.out) (HKI.out.kept h))
    have SG := Lib.hid (fun W (h : Below w.heap.size w W) => sign_t I seed xs k i ((kd i).w : Int) P m cc W rfl HI.out HIB.out HS.out HSB.out hk32 hi HX.out (HP.out.below h) HXB.out HCC.out (by omega) (HK.out.below h HG.out) (HKI.out.kept h))
    have CX := Lib.hid (fun W (h : Below w.heap.size w W) (zs : List Nat) (A : Option Addr) (c k : Nat) (hk32 : k < 32) (hz : zs.length = 36 + 32 * (kd i).p) (hsr : Sr W A zs) (hzb : Bytes zs) (hc : 36 + 32 * (kd i).p ≤ c) => prog_cand I zs xs k i ((kd i).w : Int) P A m cc (36 + 32 * (kd i).p) c W rfl HI.out HIB.out hk32 hi HX.out (HP.out.below h) HXB.out HCC.out (by omega) hz hsr hzb hc rfl (HK.out.below h HG.out) (HKI.out.kept h))
    have CY := Lib.hid (fun W (h : Below w.heap.size w W) (zs : List Nat) (A : Option Addr) (c k : Nat) (hk32 : k < 32) (hz : zs.length = 36 + 32 * (kd i).p) (hsr : Sr W A zs) (hzb : Bytes zs) (hc : 36 + 32 * (kd i).p ≤ c) => prog_cand I zs ys k i ((kd i).w : Int) R A m2 c2 (36 + 32 * (kd i).p) c W rfl HI.out HIB.out hk32 hi HY.out (HR.out.below h) HYB.out HC2.out (by omega) hz hsr hzb hc rfl (HK.out.below h HG.out) (HKI.out.kept h))
    have RX := Lib.hid (fun W (h : Below w.heap.size w W) (zs : List Nat) (A : Option Addr) (c k : Nat) (hk32 : k < 32) (hz : zs.length = 36 + 32 * (kd i).p) (hsr : Sr W A zs) (hzb : Bytes zs) (hc : 36 + 32 * (kd i).p ≤ c) => ref_cand I zs xs k i P A m cc (36 + 32 * (kd i).p) c W HI.out HIB.out (by omega) hi HX.out (HP.out.below h) HXB.out (by omega) hz hsr hzb hc rfl)
    have RY := Lib.hid (fun W (h : Below w.heap.size w W) (zs : List Nat) (A : Option Addr) (c k : Nat) (hk32 : k < 32) (hz : zs.length = 36 + 32 * (kd i).p) (hsr : Sr W A zs) (hzb : Bytes zs) (hc : 36 + 32 * (kd i).p ≤ c) => ref_cand I zs ys k i R A m2 c2 (36 + 32 * (kd i).p) c W HI.out HIB.out (by omega) hi HY.out (HR.out.below h) HYB.out (by omega) hz hsr hzb hc rfl)
    have CH := Lib.hid (fun W (h : Below w.heap.size w W) => show Calls Tryd.prog 9 #[.int .i64 ((kd i).w : Int)] W fun e w' => e = .returned (.int .i64 ((kd i).p : Int)) ∧ Below W.heap.size W w' from
      chains_t _ W (HKI.out.kept h) _ (fun i' w' hi' hn b => by obtain rfl := kd_inj hi hi' (by omega); exact ⟨rfl, b⟩) (fun w' hn b => absurd rfl (hn i hi)))
    have PL := Lib.hid (pubN_length I seed k i)
    have SB := Lib.hid (sigN_bytes I seed k i xs hi HIB.out HSB.out)
    have SL := Lib.hid (sigN_length I seed k i xs)
    have SC := Lib.hid (sig_code I seed k i xs hi)
    have EA := Lib.hid (show (candR I k i xs (sigN I seed k i xs)).1 = pubN I seed k i ∧ (candR I k i xs (sigN I seed k i xs)).2 = 0 by rw [candR_yes _ _ _ _ _ (sig_code I seed k i xs hi), cand_sign]; exact ⟨rfl, rfl⟩)
    have TU := Lib.hid (fun (zs : List Nat) (n : Nat) => turned I xs zs k i n x hi)
    have LR := Lib.hid (fun q (ys zs : List Nat) => candR_length I q i ys zs)
    obtain ⟨N, hN⟩ : ∃ N, 36 + 32 * (kd i).p = N := ⟨_, rfl⟩
    obtain ⟨pub, hpub⟩ : ∃ x, pubN I seed k i = x := ⟨_, rfl⟩
    obtain ⟨sg, hsg⟩ : ∃ x, sigN I seed k i xs = x := ⟨_, rfl⟩
    obtain ⟨v, hv⟩ : ∃ v, (kd i).w = v := ⟨_, rfl⟩
    obtain ⟨p, hpp⟩ : ∃ p, (kd i).p = p := ⟨_, rfl⟩
    obtain ⟨r1, hr1⟩ : ∃ f : Nat → List Nat → List Nat → List Nat, ∀ q ys zs, (candR I q i ys zs).1 = f q ys zs := ⟨fun q ys zs => (candR I q i ys zs).1, fun _ _ _ => rfl⟩
    obtain ⟨r2, hr2⟩ : ∃ f : Nat → List Nat → List Nat → Nat, ∀ q ys zs, (candR I q i ys zs).2 = f q ys zs := ⟨fun q ys zs => (candR I q i ys zs).2, fun _ _ _ => rfl⟩
    simp only [hr1, hr2] at CX CY RX RY EA TU LR
    rw [hpub] at PB PL EA
    rw [hsg] at SG SB SL SC EA
    have TUS := Lib.hid (fun (j : Nat) (hj : j < sg.length) (hx0 : x ≠ 0) => TU.out sg j SB.out (by rw [SL.out]; omega) hj hx0 hx8 SC.out)
    simp only [hN] at CX CY RX RY SL
    rw [hpp] at CH hN hp9
    simp only [hv] at PB SG CX CY RX RY CH HW
    clear hpub hsg hv hr1 hr2 hpp TU SC
    go_enter Tryd.func3, Tryd.ntmps3
    go_wp2_with fail
    refine HW.out.mono ?_
    rintro e w0 ⟨rfl, b0⟩
    have C1 := Lib.hid (C0.out.below b0)
    clear b0 C0 B0 HW
    go_wp2_with ((with_reducible refine load_blk 26 (.tmp 7) w.heap.size 26 (u8s (I ++ seed)) _ rfl rfl ?_ Tryd.underlying26 ?_ ?_ ?_ ?_); exact C1.out.sec; exact rfl; exact size48 _ hS48.out; exact rfl)
    clear hke
    refine (PB.out w0 C1.out.bel).mono ?_
    rintro e w1 ⟨rfl, b1⟩
    have R1 := Lib.hid (Blk.new w1 24 (u8s z32))
    have C2 := Lib.hid ((C1.out.below b1).below (below_store w1 (u8s z32) 24 (u8s pub).toArray))
    have A2 := Lib.hid (R1.out.setRow (u8s pub))
    clear b1 C1
    go_wp2_with (first
      | ((with_reducible refine store_blk 24 (.tmp 17) (.tmp 57) w1.heap.size 24 (u8s z32) (u8s pub) rfl rfl ?_ ?_ ?_ ?_ ?_ ?_ ?_); exact R1.out; exact hash_len _ PL.out; exact size32 _ PL.out; exact u8s_one _; exact rfl; exact rfl)
      | ((with_reducible refine load_blk 26 (.tmp 7) w.heap.size 26 (u8s (I ++ seed)) _ rfl rfl ?_ Tryd.underlying26 ?_ ?_ ?_ ?_); exact C2.out.sec; exact rfl; exact size48 _ hS48.out; exact rfl))
    refine (SG.out _ C2.out.bel).mono ?_
    rintro e w2 ⟨u, rfl, f2⟩
    obtain ⟨A, ca, rfl, hca, sr2, b2⟩ := fresh_open f2
    rw [SL.out] at hca ⊢
    have C3 := Lib.hid (C2.out.below b2); have A3 := Lib.hid (A2.out.below b2 A2.out.lt); have S3 := Lib.hid sr2; have HCA := Lib.hid hca
    obtain ⟨ga, hga⟩ : ∃ g, w1.heap.size = g := ⟨_, rfl⟩
    rw [hga] at A3 ⊢
    clear f2 hca sr2 b2 C2 A2 R1 hga
    go_wp2_with fail
    refine (CH.out w2 C3.out.bel).mono ?_
    rintro e w3 ⟨rfl, b3⟩
    have H3 := Lib.hid (show HCap w w3 w.heap.size I seed A sg [(ga, pub)] from ⟨C3.out.below b3, S3.out.below b3, fun y hy => by
      obtain rfl := List.mem_singleton.1 hy
      exact A3.out.below b3 A3.out.lt⟩)
    clear b3 C3 A3 S3
    have e1 : IntKind.i64.wrap (32 * (p : Int)) = 32 * (p : Int) := IntWalk.i64_in _ (by omega)
    have e2 : IntKind.i64.wrap (36 + 32 * (p : Int)) = 36 + 32 * (p : Int) := IntWalk.i64_in _ (by omega)
    have t0 : ((N : Int) != 36 + 32 * (p : Int)) = false := by rw [bne_eq_false_iff_eq]; omega
    have k2a : ((k : Int) + 1).tmod 32 = (k2 : Int) := by rw [Int.tmod_eq_emod_of_nonneg (by omega)]; omega
    have PLR := Lib.hid (fun (q : Nat) (ys : List Nat) => LR.out q ys sg)
    go_wp2_with ((with_reducible refine load_part 22 (.tmp 83) w.heap.size 0 26 [] (u8s I) (u8s seed) _ rfl rfl ?_ rfl Tryd.underlying22 ?_ ?_ ?_ ?_); exact H3.out.cap.part; exact rfl; exact size16 _ HI.out; exact rfl)
    clear e1 e2 t0
    refine (CX.out _ H3.out.cap.bel sg A ca k hk32 SL.out H3.out.sr SB.out HCA.out).mono ?_
    rintro e v1 ⟨rfl, b⟩
    rw [EA.out.1, EA.out.2]
    have HL1 := PL
    have J1 := Lib.hid (H3.out.below b)
    clear b H3
    have Q1 := Lib.hid (Blk.new v1 24 (u8s z32))
    have K1 := Lib.hid (J1.out.push pub)
    clear J1
    go_wp2_with (first
      | ((with_reducible refine store_blk 24 (.tmp 21) (.tmp 90) v1.heap.size 24 (u8s z32) (u8s pub) rfl rfl ?_ ?_ ?_ ?_ ?_ ?_ ?_); exact Q1.out; exact hash_len _ HL1.out; exact size32 _ HL1.out; exact u8s_one _; exact rfl; exact rfl)
      | ((with_reducible refine load_part 22 (.tmp 93) w.heap.size 0 26 [] (u8s I) (u8s seed) _ rfl rfl ?_ rfl Tryd.underlying22 ?_ ?_ ?_ ?_); exact K1.out.cap.part; exact rfl; exact size16 _ HI.out; exact rfl))
    refine (CY.out _ K1.out.cap.bel sg A ca k hk32 SL.out K1.out.sr SB.out HCA.out).mono ?_
    rintro e v2 ⟨rfl, b⟩
    have HL2 := Lib.hid (LR.out k ys sg)
    obtain ⟨bv, hb2⟩ : ∃ x, r1 k ys sg = x := ⟨_, rfl⟩
    obtain ⟨z2, hz2⟩ : ∃ x, r2 k ys sg = x := ⟨_, rfl⟩
    rw [hb2] at HL2
    rw [hb2, hz2]
    have HV2 := Lib.hid hb2
    clear hz2
    have J2 := Lib.hid (K1.out.below b)
    obtain ⟨g1, hg⟩ : ∃ g, v1.heap.size = g := ⟨_, rfl⟩
    rw [hg] at J2 ⊢
    clear b hg K1 Q1
    have Q2 := Lib.hid (Blk.new v2 24 (u8s z32))
    have K2 := Lib.hid (J2.out.push bv)
    clear J2
    go_wp2_with (first
      | ((with_reducible refine store_blk 24 (.tmp 23) (.tmp 100) v2.heap.size 24 (u8s z32) (u8s bv) rfl rfl ?_ ?_ ?_ ?_ ?_ ?_ ?_); exact Q2.out; exact hash_len _ HL2.out; exact size32 _ HL2.out; exact u8s_one _; exact rfl; exact rfl)
      | ((with_reducible refine load_part 22 (.tmp 103) w.heap.size 0 26 [] (u8s I) (u8s seed) _ rfl rfl ?_ rfl Tryd.underlying22 ?_ ?_ ?_ ?_); exact K2.out.cap.part; exact rfl; exact size16 _ HI.out; exact rfl))
    refine (CX.out _ K2.out.cap.bel sg A ca k2 hk22 SL.out K2.out.sr SB.out HCA.out).mono ?_
    rintro e v3 ⟨rfl, b⟩
    have HL3 := Lib.hid (LR.out k2 xs sg)
    obtain ⟨cv, hb3⟩ : ∃ x, r1 k2 xs sg = x := ⟨_, rfl⟩
    obtain ⟨z3, hz3⟩ : ∃ x, r2 k2 xs sg = x := ⟨_, rfl⟩
    rw [hb3] at HL3
    rw [hb3, hz3]
    have HV3 := Lib.hid hb3
    clear hz3
    have J3 := Lib.hid (K2.out.below b)
    obtain ⟨g2, hg⟩ : ∃ g, v2.heap.size = g := ⟨_, rfl⟩
    rw [hg] at J3 ⊢
    clear b hg K2 Q2
    have Q3 := Lib.hid (Blk.new v3 24 (u8s z32))
    have K3 := Lib.hid (J3.out.push cv)
    clear J3
    go_wp2_with (first
      | ((with_reducible refine store_blk 24 (.tmp 25) (.tmp 112) v3.heap.size 24 (u8s z32) (u8s cv) rfl rfl ?_ ?_ ?_ ?_ ?_ ?_ ?_); exact Q3.out; exact hash_len _ HL3.out; exact size32 _ HL3.out; exact u8s_one _; exact rfl; exact rfl)
      | ((with_reducible refine load_part 22 (.tmp 115) w.heap.size 0 26 [] (u8s I) (u8s seed) _ rfl rfl ?_ rfl Tryd.underlying22 ?_ ?_ ?_ ?_); exact K3.out.cap.part; exact rfl; exact size16 _ HI.out; exact rfl))
    refine (RY.out _ K3.out.cap.bel sg A ca k hk32 SL.out K3.out.sr SB.out HCA.out).mono ?_
    rintro e v4 ⟨rfl, b⟩
    rw [HV2.out]
    obtain ⟨z4, hz4⟩ : ∃ x, r2 k ys sg = x := ⟨_, rfl⟩
    rw [hz4]
    have HL4 := HL2
    clear hz4
    have J4 := Lib.hid (K3.out.below b)
    obtain ⟨g3, hg⟩ : ∃ g, v3.heap.size = g := ⟨_, rfl⟩
    rw [hg] at J4 ⊢
    clear b hg K3 Q3
    have Q4 := Lib.hid (Blk.new v4 24 (u8s z32))
    have K4 := Lib.hid (J4.out.push bv)
    clear J4
    go_wp2_with (first
      | ((with_reducible refine store_blk 24 (.tmp 27) (.tmp 122) v4.heap.size 24 (u8s z32) (u8s bv) rfl rfl ?_ ?_ ?_ ?_ ?_ ?_ ?_); exact Q4.out; exact hash_len _ HL4.out; exact size32 _ HL4.out; exact u8s_one _; exact rfl; exact rfl)
      | ((with_reducible refine load_part 22 (.tmp 125) w.heap.size 0 26 [] (u8s I) (u8s seed) _ rfl rfl ?_ rfl Tryd.underlying22 ?_ ?_ ?_ ?_); exact K4.out.cap.part; exact rfl; exact size16 _ HI.out; exact rfl))
    refine (RX.out _ K4.out.cap.bel sg A ca k2 hk22 SL.out K4.out.sr SB.out HCA.out).mono ?_
    rintro e v5 ⟨rfl, b⟩
    rw [HV3.out]
    obtain ⟨z5, hz5⟩ : ∃ x, r2 k2 xs sg = x := ⟨_, rfl⟩
    rw [hz5]
    have HL5 := HL3
    clear hz5
    have J5 := Lib.hid (K4.out.below b)
    obtain ⟨g4, hg⟩ : ∃ g, v4.heap.size = g := ⟨_, rfl⟩
    rw [hg] at J5 ⊢
    clear b hg K4 Q4
    have Q5 := Lib.hid (Blk.new v5 24 (u8s z32))
    have K5 := Lib.hid (J5.out.push cv)
    clear J5
    go_upto_region 13 with ((with_reducible refine store_blk 24 (.tmp 29) (.tmp 134) v5.heap.size 24 (u8s z32) (u8s cv) rfl rfl ?_ ?_ ?_ ?_ ?_ ?_ ?_); exact Q5.out; exact hash_len _ HL5.out; exact size32 _ HL5.out; exact u8s_one _; exact rfl; exact rfl)
    clear PB SG CY RY CH PLR k2a HV3 hk2 hi3
    refine world_is (fun X => HCap w X w.heap.size I seed A sg [(v5.heap.size, cv), (g4, bv), (g3, cv), (g2, bv), (g1, pub), (ga, pub)]) K5.out ?_
    rintro W h
    obtain ⟨g5, hg⟩ : ∃ g, v5.heap.size = g := ⟨_, rfl⟩
    rw [hg] at h ⊢
    have H := Lib.hid h
    have ZA := Lib.hid (h.blk (ga, pub) (by simp)); have Z1 := Lib.hid (h.blk (g1, pub) (by simp)); have Z2 := Lib.hid (h.blk (g2, bv) (by simp)); have Z3 := Lib.hid (h.blk (g3, cv) (by simp)); have Z4 := Lib.hid (h.blk (g4, bv) (by simp)); have Z5 := Lib.hid (h.blk (g5, cv) (by simp))
    clear h hg K5 Q5
    have n1 : ∀ W, (binOp .neq 24 (.agg (u8s pub).toArray) (.agg (u8s pub).toArray)).run Tryd.prog W = .ok (.bool false) W := fun W => neq_self pub PL.out W
    have n2 : ∀ W, (binOp .neq 24 (.agg (u8s bv).toArray) (.agg (u8s bv).toArray)).run Tryd.prog W = .ok (.bool false) W := fun W => neq_self bv HL2.out W
    have n3 : ∀ W, (binOp .neq 24 (.agg (u8s cv).toArray) (.agg (u8s cv).toArray)).run Tryd.prog W = .ok (.bool false) W := fun W => neq_self cv HL3.out W
    have ST := Lib.hid (fun W (h : Below w.heap.size w W) => same_texts xs ys P R m m2 cc c2 W HX.out HY.out (HP.out.below h) (HR.out.below h) HXB.out HYB.out)
    by_cases hxy : xs = ys
    · have hbp : bv = pub := by rw [← HV2.out, ← EA.out.1, hxy]
      rw [decide_eq_true hxy] at ST
      subst hbp
      clear hxy n2
      go_upto_region 15 with (first
        | ((with_reducible refine load_at 139 24 (.tmp 21) g1 24 (u8s bv) _ ?_ ?_ rfl ?_ Tryd.underlying24 ?_ ?_ ?_ ?_); exact rfl; kernel_rfl; exact Z1.out; exact rfl; exact size32 _ HL2.out; exact rfl)
        | ((with_reducible refine load_at 140 24 (.tmp 17) ga 24 (u8s bv) _ ?_ ?_ rfl ?_ Tryd.underlying24 ?_ ?_ ?_ ?_); exact rfl; kernel_rfl; exact ZA.out; exact rfl; exact size32 _ HL2.out; exact rfl)
        | ((with_reducible refine load_at 144 24 (.tmp 23) g2 24 (u8s bv) _ ?_ ?_ rfl ?_ Tryd.underlying24 ?_ ?_ ?_ ?_); exact rfl; kernel_rfl; exact Z2.out; exact rfl; exact size32 _ HL2.out; exact rfl)
        | ((with_reducible refine load_at 145 24 (.tmp 27) g4 24 (u8s bv) _ ?_ ?_ rfl ?_ Tryd.underlying24 ?_ ?_ ?_ ?_); exact rfl; kernel_rfl; exact Z4.out; exact rfl; exact size32 _ HL2.out; exact rfl)
        | ((with_reducible refine load_at 149 24 (.tmp 25) g3 24 (u8s cv) _ ?_ ?_ rfl ?_ Tryd.underlying24 ?_ ?_ ?_ ?_); exact rfl; kernel_rfl; exact Z3.out; exact rfl; exact size32 _ HL3.out; exact rfl)
        | ((with_reducible refine load_at 150 24 (.tmp 29) g5 24 (u8s cv) _ ?_ ?_ rfl ?_ Tryd.underlying24 ?_ ?_ ?_ ?_); exact rfl; kernel_rfl; exact Z5.out; exact rfl; exact size32 _ HL3.out; exact rfl)
        | (go_at_call 12; refine (ST.out W H.out.cap.bel).mono ?_; rintro e w' ⟨rfl, rfl⟩)
        | ((with_reducible refine load_at 158 24 (.tmp 23) g2 24 (u8s bv) _ ?_ ?_ rfl ?_ Tryd.underlying24 ?_ ?_ ?_ ?_); exact rfl; kernel_rfl; exact Z2.out; exact rfl; exact size32 _ HL2.out; exact rfl)
        | ((with_reducible refine load_at 159 24 (.tmp 17) ga 24 (u8s bv) _ ?_ ?_ rfl ?_ Tryd.underlying24 ?_ ?_ ?_ ?_); exact rfl; kernel_rfl; exact ZA.out; exact rfl; exact size32 _ HL2.out; exact rfl))
      clear ST n1 n3 Z1 Z2 Z3 Z4 Z5 ZA
      by_cases hx0 : x = 0
      · have tx : ((x : Int) == 0) = true := by rw [beq_iff_eq]; omega
        clear hx0
        go_wp2_with fail
        refine (told_t _ (HKI.out.kept H.out.cap.bel)).mono ?_
        rintro e w9 ⟨rfl, b9⟩
        go_wp2_with fail
        go_ret
        exact ⟨rfl, H.out.cap.bel.trans (b9.mono H.out.cap.bel.size)⟩
      · have tx : ((x : Int) == 0) = false := by rw [beq_eq_false_iff_ne]; omega
        have TUX := Lib.hid (fun j hj => TUS.out j hj hx0)
        have SA := Lib.hid (H.out.sr.below ((Below.refl W.heap.size W).alloc (Nat.le_refl _) (.cells #[] 5)))
        have hN1 : N ≤ 10000 := by omega
        have hN0 : 0 < N := by omega
        clear hx0
        go_upto_region 18 with ((with_reducible refine at_op (.call { callee := .builtin .append, args := #[.tmp 166, .tmp 167], argTypes := #[27, 27] }) rfl ?_); go_must (refine append_bytes (.tmp 166) (.tmp 167) 27 rfl rfl 5 Tryd.underlying27 byte_info W.heap.size (.slice (some ⟨W.heap.size, 0, none⟩) 0 0) 0 [] sg rfl (own_empty _ _ _ (Nat.le_refl _) rfl) A N ca rfl SL.out SA.out (by omega) (by simp) ?_); intro v1 w1 a1 a2 a3)
        have bk : Below W.heap.size W w1 := ((Below.refl W.heap.size W).alloc (Nat.le_refl _) (.cells #[] 5)).grown a2.out (by simp) (fun k e => by have := Option.some.inj e; simp at this; omega)
        have o1 := a1.out
        rw [List.nil_append, Nat.zero_add] at o1
        obtain ⟨g, c1, rest, rfl, hc1, hg1, b1⟩ := own_blk o1 hN0
        obtain ⟨j, hj, hje⟩ := mod_big N hN0 (by omega) at_
        have BK := Lib.hid bk; have P1 := Lib.hid b1; have HC1 := Lib.hid hc1
        obtain ⟨hTB, hTE⟩ := TUX.out j (by rw [SL.out]; exact hj)
        have HTB := Lib.hid hTB; have HTE := Lib.hid hTE
        have hxx := xor_u8n (gt sg j) x (SB.out j) hx8
        have cj : w1.cell? ⟨g, j, none⟩ = some (.int .u8 ((gt sg j : Nat) : Int)) := by rw [P1.out.cell, List.getElem?_append_left (by rw [u8s_length, SL.out]; exact hj), u8s_get _ _ (by rw [SL.out]; exact hj)]
        have fj := P1.out.frozen j
        have j1 : (j : Int) < (N : Int) := by omega
        have N1 : (N : Int) ≤ 10000 := by omega
        have N0 : (N : Int) ≠ 0 := by omega
        clear bk o1 b1 hc1 a1 a2 a3 SA hTB hTE TUS TUX
        go_upto_region 20 with (fail)
        rw [hje]
        clear cj fj hje hxx N1 N0
        have m3 := P1.out.store j (.int .u8 ((gt sg j ^^^ x : Nat) : Int))
        rw [List.set_append_left _ _ (by rw [u8s_length, SL.out]; exact hj), u8s_set] at m3
        have HTL := Lib.hid (show (sg.set j (gt sg j ^^^ x)).length = N by rw [List.length_set, SL.out])
        obtain ⟨T, hT⟩ : ∃ T, sg.set j (gt sg j ^^^ x) = T := ⟨_, rfl⟩
        rw [hT] at m3 HTB HTE HTL
        clear hT
        refine world_is (fun X => HCap w X w.heap.size I seed (some ⟨g, 0, none⟩) T []) ⟨(H.out.cap.below (BK.out.setCell (p := ⟨g, j, none⟩) hg1 _)), Sr.of_blk m3 rfl, fun _ h => absurd h List.not_mem_nil⟩ ?_
        clear m3 P1 BK H
        rintro Y h
        have H := Lib.hid h
        clear h
        go_wp2_with ((with_reducible refine load_part 22 (.tmp 186) w.heap.size 0 26 [] (u8s I) (u8s seed) _ rfl rfl ?_ rfl Tryd.underlying22 ?_ ?_ ?_ ?_); exact H.out.cap.part; exact rfl; exact size16 _ HI.out; exact rfl)
        refine (CX.out _ H.out.cap.bel T (some ⟨g, 0, none⟩) c1 k hk32 HTL.out H.out.sr HTB.out HC1.out).mono ?_
        rintro e v6 ⟨rfl, b⟩
        have HDL := Lib.hid (LR.out k xs T)
        obtain ⟨dv, hd⟩ : ∃ x, r1 k xs T = x := ⟨_, rfl⟩
        obtain ⟨zz, hz⟩ : ∃ x, r2 k xs T = x := ⟨_, rfl⟩
        rw [hd] at HDL
        rw [hz] at HTE
        rw [hd, hz]
        have HDV := Lib.hid hd
        have J6 := Lib.hid (H.out.below b)
        clear b hz hd H
        have Q6 := Lib.hid (Blk.new v6 24 (u8s z32))
        have K6 := Lib.hid (J6.out.push dv)
        clear J6
        go_wp2_with (first
          | ((with_reducible refine store_blk 24 (.tmp 33) (.tmp 193) v6.heap.size 24 (u8s z32) (u8s dv) rfl rfl ?_ ?_ ?_ ?_ ?_ ?_ ?_); exact Q6.out; exact hash_len _ HDL.out; exact size32 _ HDL.out; exact u8s_one _; exact rfl; exact rfl)
          | ((with_reducible refine load_part 22 (.tmp 196) w.heap.size 0 26 [] (u8s I) (u8s seed) _ rfl rfl ?_ rfl Tryd.underlying22 ?_ ?_ ?_ ?_); exact K6.out.cap.part; exact rfl; exact size16 _ HI.out; exact rfl))
        refine (RX.out _ K6.out.cap.bel T (some ⟨g, 0, none⟩) c1 k hk32 HTL.out K6.out.sr HTB.out HC1.out).mono ?_
        rintro e v7 ⟨rfl, b⟩
        rw [HDV.out]
        obtain ⟨z7, hz⟩ : ∃ x, r2 k xs T = x := ⟨_, rfl⟩
        rw [hz]
        have J7 := Lib.hid (K6.out.below b)
        obtain ⟨g6, hg⟩ : ∃ g, v6.heap.size = g := ⟨_, rfl⟩
        rw [hg] at J7 ⊢
        clear b hz hg K6 Q6
        have Q7 := Lib.hid (Blk.new v7 24 (u8s z32))
        have K7 := Lib.hid (J7.out.push dv)
        clear J7
        go_upto_region 22 with ((with_reducible refine store_blk 24 (.tmp 35) (.tmp 203) v7.heap.size 24 (u8s z32) (u8s dv) rfl rfl ?_ ?_ ?_ ?_ ?_ ?_ ?_); exact Q7.out; exact hash_len _ HDL.out; exact size32 _ HDL.out; exact u8s_one _; exact rfl; exact rfl)
        refine world_is (fun X => HCap w X w.heap.size I seed (some ⟨g, 0, none⟩) T [(v7.heap.size, dv), (g6, dv)]) K7.out ?_
        rintro Y7 h
        obtain ⟨g7, hg⟩ : ∃ g, v7.heap.size = g := ⟨_, rfl⟩
        rw [hg] at h ⊢
        have H := Lib.hid h
        clear h hg K7 Q7
        go_wp2_with fail
        refine (told_t _ (HKI.out.kept H.out.cap.bel)).mono ?_
        rintro e v8 ⟨rfl, b⟩
        have H8 := Lib.hid (H.out.below b)
        have Z6 := Lib.hid (H8.out.blk (g6, dv) (by simp)); have Z7 := Lib.hid (H8.out.blk (g7, dv) (by simp))
        clear b H
        have n8 : ∀ W, (binOp .eql 24 (.agg (u8s dv).toArray) (.agg (u8s dv).toArray)).run Tryd.prog W = .ok (.bool true) W := fun W => eql_self dv HDL.out W
        rcases HTE.out with ⟨h4, rfl⟩ | ⟨h4, rfl⟩
        · have h5 : (j : Int) < 4 := by omega
          clear h4
          go_wp2_with (first
            | ((with_reducible refine load_at 214 24 (.tmp 33) g6 24 (u8s dv) _ ?_ ?_ rfl ?_ Tryd.underlying24 ?_ ?_ ?_ ?_); exact rfl; kernel_rfl; exact Z6.out; exact rfl; exact size32 _ HDL.out; exact rfl)
            | ((with_reducible refine load_at 215 24 (.tmp 35) g7 24 (u8s dv) _ ?_ ?_ rfl ?_ Tryd.underlying24 ?_ ?_ ?_ ?_); exact rfl; kernel_rfl; exact Z7.out; exact rfl; exact size32 _ HDL.out; exact rfl))
          go_ret
          exact ⟨rfl, H8.out.cap.bel⟩
        · have h5 : decide ((j : Int) < 4) = false := decide_eq_false (by omega)
          clear h4
          go_wp2_with (first
            | ((with_reducible refine load_at 214 24 (.tmp 33) g6 24 (u8s dv) _ ?_ ?_ rfl ?_ Tryd.underlying24 ?_ ?_ ?_ ?_); exact rfl; kernel_rfl; exact Z6.out; exact rfl; exact size32 _ HDL.out; exact rfl)
            | ((with_reducible refine load_at 215 24 (.tmp 35) g7 24 (u8s dv) _ ?_ ?_ rfl ?_ Tryd.underlying24 ?_ ?_ ?_ ?_); exact rfl; kernel_rfl; exact Z7.out; exact rfl; exact size32 _ HDL.out; exact rfl))
          go_ret
          exact ⟨rfl, H8.out.cap.bel⟩
    · rw [decide_eq_false hxy] at ST
      clear hxy
      go_upto_region 15 with (first
        | ((with_reducible refine load_at 139 24 (.tmp 21) g1 24 (u8s pub) _ ?_ ?_ rfl ?_ Tryd.underlying24 ?_ ?_ ?_ ?_); exact rfl; kernel_rfl; exact Z1.out; exact rfl; exact size32 _ PL.out; exact rfl)
        | ((with_reducible refine load_at 140 24 (.tmp 17) ga 24 (u8s pub) _ ?_ ?_ rfl ?_ Tryd.underlying24 ?_ ?_ ?_ ?_); exact rfl; kernel_rfl; exact ZA.out; exact rfl; exact size32 _ PL.out; exact rfl)
        | ((with_reducible refine load_at 144 24 (.tmp 23) g2 24 (u8s bv) _ ?_ ?_ rfl ?_ Tryd.underlying24 ?_ ?_ ?_ ?_); exact rfl; kernel_rfl; exact Z2.out; exact rfl; exact size32 _ HL2.out; exact rfl)
        | ((with_reducible refine load_at 145 24 (.tmp 27) g4 24 (u8s bv) _ ?_ ?_ rfl ?_ Tryd.underlying24 ?_ ?_ ?_ ?_); exact rfl; kernel_rfl; exact Z4.out; exact rfl; exact size32 _ HL2.out; exact rfl)
        | ((with_reducible refine load_at 149 24 (.tmp 25) g3 24 (u8s cv) _ ?_ ?_ rfl ?_ Tryd.underlying24 ?_ ?_ ?_ ?_); exact rfl; kernel_rfl; exact Z3.out; exact rfl; exact size32 _ HL3.out; exact rfl)
        | ((with_reducible refine load_at 150 24 (.tmp 29) g5 24 (u8s cv) _ ?_ ?_ rfl ?_ Tryd.underlying24 ?_ ?_ ?_ ?_); exact rfl; kernel_rfl; exact Z5.out; exact rfl; exact size32 _ HL3.out; exact rfl)
        | (go_at_call 12; refine (ST.out W H.out.cap.bel).mono ?_; rintro e w' ⟨rfl, rfl⟩))
      clear n2
      clear ST n1 n3 Z1 Z2 Z3 Z4 Z5 ZA
      by_cases hx0 : x = 0
      · have tx : ((x : Int) == 0) = true := by rw [beq_iff_eq]; omega
        clear hx0
        go_wp2_with fail
        refine (told_t _ (HKI.out.kept H.out.cap.bel)).mono ?_
        rintro e w9 ⟨rfl, b9⟩
        go_wp2_with fail
        go_ret
        exact ⟨rfl, H.out.cap.bel.trans (b9.mono H.out.cap.bel.size)⟩
      · have tx : ((x : Int) == 0) = false := by rw [beq_eq_false_iff_ne]; omega
        have TUX := Lib.hid (fun j hj => TUS.out j hj hx0)
        have SA := Lib.hid (H.out.sr.below ((Below.refl W.heap.size W).alloc (Nat.le_refl _) (.cells #[] 5)))
        have hN1 : N ≤ 10000 := by omega
        have hN0 : 0 < N := by omega
        clear hx0
        go_upto_region 18 with ((with_reducible refine at_op (.call { callee := .builtin .append, args := #[.tmp 166, .tmp 167], argTypes := #[27, 27] }) rfl ?_); go_must (refine append_bytes (.tmp 166) (.tmp 167) 27 rfl rfl 5 Tryd.underlying27 byte_info W.heap.size (.slice (some ⟨W.heap.size, 0, none⟩) 0 0) 0 [] sg rfl (own_empty _ _ _ (Nat.le_refl _) rfl) A N ca rfl SL.out SA.out (by omega) (by simp) ?_); intro v1 w1 a1 a2 a3)
        have bk : Below W.heap.size W w1 := ((Below.refl W.heap.size W).alloc (Nat.le_refl _) (.cells #[] 5)).grown a2.out (by simp) (fun k e => by have := Option.some.inj e; simp at this; omega)
        have o1 := a1.out
        rw [List.nil_append, Nat.zero_add] at o1
        obtain ⟨g, c1, rest, rfl, hc1, hg1, b1⟩ := own_blk o1 hN0
        obtain ⟨j, hj, hje⟩ := mod_big N hN0 (by omega) at_
        have BK := Lib.hid bk; have P1 := Lib.hid b1; have HC1 := Lib.hid hc1
        obtain ⟨hTB, hTE⟩ := TUX.out j (by rw [SL.out]; exact hj)
        have HTB := Lib.hid hTB; have HTE := Lib.hid hTE
        have hxx := xor_u8n (gt sg j) x (SB.out j) hx8
        have cj : w1.cell? ⟨g, j, none⟩ = some (.int .u8 ((gt sg j : Nat) : Int)) := by rw [P1.out.cell, List.getElem?_append_left (by rw [u8s_length, SL.out]; exact hj), u8s_get _ _ (by rw [SL.out]; exact hj)]
        have fj := P1.out.frozen j
        have j1 : (j : Int) < (N : Int) := by omega
        have N1 : (N : Int) ≤ 10000 := by omega
        have N0 : (N : Int) ≠ 0 := by omega
        clear bk o1 b1 hc1 a1 a2 a3 SA hTB hTE TUS TUX
        go_upto_region 20 with (fail)
        rw [hje]
        clear cj fj hje hxx N1 N0
        have m3 := P1.out.store j (.int .u8 ((gt sg j ^^^ x : Nat) : Int))
        rw [List.set_append_left _ _ (by rw [u8s_length, SL.out]; exact hj), u8s_set] at m3
        have HTL := Lib.hid (show (sg.set j (gt sg j ^^^ x)).length = N by rw [List.length_set, SL.out])
        obtain ⟨T, hT⟩ : ∃ T, sg.set j (gt sg j ^^^ x) = T := ⟨_, rfl⟩
        rw [hT] at m3 HTB HTE HTL
        clear hT
        refine world_is (fun X => HCap w X w.heap.size I seed (some ⟨g, 0, none⟩) T []) ⟨(H.out.cap.below (BK.out.setCell (p := ⟨g, j, none⟩) hg1 _)), Sr.of_blk m3 rfl, fun _ h => absurd h List.not_mem_nil⟩ ?_
        clear m3 P1 BK H
        rintro Y h
        have H := Lib.hid h
        clear h
        go_wp2_with ((with_reducible refine load_part 22 (.tmp 186) w.heap.size 0 26 [] (u8s I) (u8s seed) _ rfl rfl ?_ rfl Tryd.underlying22 ?_ ?_ ?_ ?_); exact H.out.cap.part; exact rfl; exact size16 _ HI.out; exact rfl)
        refine (CX.out _ H.out.cap.bel T (some ⟨g, 0, none⟩) c1 k hk32 HTL.out H.out.sr HTB.out HC1.out).mono ?_
        rintro e v6 ⟨rfl, b⟩
        have HDL := Lib.hid (LR.out k xs T)
        obtain ⟨dv, hd⟩ : ∃ x, r1 k xs T = x := ⟨_, rfl⟩
        obtain ⟨zz, hz⟩ : ∃ x, r2 k xs T = x := ⟨_, rfl⟩
        rw [hd] at HDL
        rw [hz] at HTE
        rw [hd, hz]
        have HDV := Lib.hid hd
        have J6 := Lib.hid (H.out.below b)
        clear b hz hd H
        have Q6 := Lib.hid (Blk.new v6 24 (u8s z32))
        have K6 := Lib.hid (J6.out.push dv)
        clear J6
        go_wp2_with (first
          | ((with_reducible refine store_blk 24 (.tmp 33) (.tmp 193) v6.heap.size 24 (u8s z32) (u8s dv) rfl rfl ?_ ?_ ?_ ?_ ?_ ?_ ?_); exact Q6.out; exact hash_len _ HDL.out; exact size32 _ HDL.out; exact u8s_one _; exact rfl; exact rfl)
          | ((with_reducible refine load_part 22 (.tmp 196) w.heap.size 0 26 [] (u8s I) (u8s seed) _ rfl rfl ?_ rfl Tryd.underlying22 ?_ ?_ ?_ ?_); exact K6.out.cap.part; exact rfl; exact size16 _ HI.out; exact rfl))
        refine (RX.out _ K6.out.cap.bel T (some ⟨g, 0, none⟩) c1 k hk32 HTL.out K6.out.sr HTB.out HC1.out).mono ?_
        rintro e v7 ⟨rfl, b⟩
        rw [HDV.out]
        obtain ⟨z7, hz⟩ : ∃ x, r2 k xs T = x := ⟨_, rfl⟩
        rw [hz]
        have J7 := Lib.hid (K6.out.below b)
        obtain ⟨g6, hg⟩ : ∃ g, v6.heap.size = g := ⟨_, rfl⟩
        rw [hg] at J7 ⊢
        clear b hz hg K6 Q6
        have Q7 := Lib.hid (Blk.new v7 24 (u8s z32))
        have K7 := Lib.hid (J7.out.push dv)
        clear J7
        go_upto_region 22 with ((with_reducible refine store_blk 24 (.tmp 35) (.tmp 203) v7.heap.size 24 (u8s z32) (u8s dv) rfl rfl ?_ ?_ ?_ ?_ ?_ ?_ ?_); exact Q7.out; exact hash_len _ HDL.out; exact size32 _ HDL.out; exact u8s_one _; exact rfl; exact rfl)
        refine world_is (fun X => HCap w X w.heap.size I seed (some ⟨g, 0, none⟩) T [(v7.heap.size, dv), (g6, dv)]) K7.out ?_
        rintro Y7 h
        obtain ⟨g7, hg⟩ : ∃ g, v7.heap.size = g := ⟨_, rfl⟩
        rw [hg] at h ⊢
        have H := Lib.hid h
        clear h hg K7 Q7
        go_wp2_with fail
        refine (told_t _ (HKI.out.kept H.out.cap.bel)).mono ?_
        rintro e v8 ⟨rfl, b⟩
        have H8 := Lib.hid (H.out.below b)
        have Z6 := Lib.hid (H8.out.blk (g6, dv) (by simp)); have Z7 := Lib.hid (H8.out.blk (g7, dv) (by simp))
        clear b H
        have n8 : ∀ W, (binOp .eql 24 (.agg (u8s dv).toArray) (.agg (u8s dv).toArray)).run Tryd.prog W = .ok (.bool true) W := fun W => eql_self dv HDL.out W
        rcases HTE.out with ⟨h4, rfl⟩ | ⟨h4, rfl⟩
        · have h5 : (j : Int) < 4 := by omega
          clear h4
          go_wp2_with (first
            | ((with_reducible refine load_at 214 24 (.tmp 33) g6 24 (u8s dv) _ ?_ ?_ rfl ?_ Tryd.underlying24 ?_ ?_ ?_ ?_); exact rfl; kernel_rfl; exact Z6.out; exact rfl; exact size32 _ HDL.out; exact rfl)
            | ((with_reducible refine load_at 215 24 (.tmp 35) g7 24 (u8s dv) _ ?_ ?_ rfl ?_ Tryd.underlying24 ?_ ?_ ?_ ?_); exact rfl; kernel_rfl; exact Z7.out; exact rfl; exact size32 _ HDL.out; exact rfl))
          go_ret
          exact ⟨rfl, H8.out.cap.bel⟩
        · have h5 : decide ((j : Int) < 4) = false := decide_eq_false (by omega)
          clear h4
          go_wp2_with (first
            | ((with_reducible refine load_at 214 24 (.tmp 33) g6 24 (u8s dv) _ ?_ ?_ rfl ?_ Tryd.underlying24 ?_ ?_ ?_ ?_); exact rfl; kernel_rfl; exact Z6.out; exact rfl; exact size32 _ HDL.out; exact rfl)
            | ((with_reducible refine load_at 215 24 (.tmp 35) g7 24 (u8s dv) _ ?_ ?_ rfl ?_ Tryd.underlying24 ?_ ?_ ?_ ?_); exact rfl; kernel_rfl; exact Z7.out; exact rfl; exact size32 _ HDL.out; exact rfl))
          go_ret
          exact ⟨rfl, H8.out.cap.bel⟩
end Go.Proofs.YthcebaegijlbdaaDoor
