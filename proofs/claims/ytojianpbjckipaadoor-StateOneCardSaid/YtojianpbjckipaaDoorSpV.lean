/-
  LAW 8: told.
-/
import Derived.Test.YtojianpbjckipaaDoorSpU
import Derived.Test.YtojianpbjckipaaDoorSpG
namespace Go.Proofs.YtojianpbjckipaaDoor
open Go Go.RowKit Sh

def fA : Fld := ⟨5, 0, eS⟩
def fI (n : Int) : Fld := ⟨1, n, eS⟩
def q1 : Rq := ⟨0, 1, 5, 0, 1, fun _ => fA, 0, fun _ => f0⟩
def q2 : Rq := ⟨1, 1, 1, 9, 0, fun _ => f0, 1, fun _ => fI 4⟩
def tA : Sp := ⟨1, [], [⟨0, 1, true, [fA]⟩], 15, 15, [⟨0, 1, 4, [], false⟩, ⟨1, 0, 0, [], false⟩, ⟨2, 0, 0, [], false⟩, ⟨3, 0, 0, [], false⟩]⟩
def tB : Sp := ⟨2, [], [], 15, 15, [⟨0, 1, 2, [fI 4], true⟩, ⟨1, 1, 1, [], false⟩, ⟨2, 0, 0, [], false⟩, ⟨3, 0, 0, [], false⟩]⟩
def tC : Sp := ⟨3, [], [], 15, 15, [⟨0, 1, 2, [fI 4], true⟩, ⟨1, 1, 1, [], false⟩, ⟨2, 0, 0, [], false⟩, ⟨3, 0, 0, [], false⟩]⟩
theorem do_A : doP (newS 15 15) 1 q1 = (tA, [⟨0, 1, 4, [], false⟩]) := by kernel_rfl
theorem do_B : doP tA 2 q2 = (tB, [⟨1, 1, 1, [], false⟩, ⟨0, 1, 2, [fI 4], true⟩]) := by kernel_rfl
theorem do_C : doP tB 3 q1 = (tC, [⟨0, 1, 2, [fI 4], true⟩]) := by kernel_rfl
theorem may_new : spMay (newS 15 15) = true := by kernel_rfl
theorem small_A : Small tA := ⟨by decide, by decide, by decide, by decide, by decide⟩
theorem small_B : Small tB := ⟨by decide, by decide, by decide, by decide, by decide⟩
theorem small_C : Small tC := ⟨by decide, by decide, by decide, by decide, by decide⟩
theorem small_new : Small (newS 15 15) := ⟨by decide, by decide, by decide, by decide, by decide⟩
def zS : List Value := [.int .i64 0, .slice none 0 0, .slice none 0 0, .int .i64 0, .int .i64 0, .int .i64 0, .int .i64 0, .int .i64 0, .slice none 0 0, .bool false, .int .i64 0, .int .i64 0, .int .i64 0, .slice none 0 0, .bool false, .int .i64 0, .int .i64 0, .int .i64 0, .slice none 0 0, .bool false, .int .i64 0, .int .i64 0, .int .i64 0, .slice none 0 0, .bool false]
/-- A space kept in a block of its own. -/
structure KSp (W : World) (g : Nat) (x : Spv) : Prop where
  box : Blk W g 31 (sv x)
  w : SpW W x
theorem KSp.below {W W' : World} {g : Nat} {x : Spv} (h : KSp W g x) (hb : Below W.heap.size W W') : KSp W' g x := ⟨h.box.below hb h.box.lt, h.w.below hb⟩
theorem KSp.new {w1 : World} {x : Spv} (h : SpW w1 x) : KSp ((w1.alloc (.cells #[.int .i64 0, .slice none 0 0, .slice none 0 0, .int .i64 0, .int .i64 0, .int .i64 0, .int .i64 0, .int .i64 0, .slice none 0 0, .bool false, .int .i64 0, .int .i64 0, .int .i64 0, .slice none 0 0, .bool false, .int .i64 0, .int .i64 0, .int .i64 0, .slice none 0 0, .bool false, .int .i64 0, .int .i64 0, .int .i64 0, .slice none 0 0, .bool false] 31)).setRow w1.heap.size (sv x).toArray) w1.heap.size x ∧ Below w1.heap.size w1 ((w1.alloc (.cells #[.int .i64 0, .slice none 0 0, .slice none 0 0, .int .i64 0, .int .i64 0, .int .i64 0, .int .i64 0, .int .i64 0, .slice none 0 0, .bool false, .int .i64 0, .int .i64 0, .int .i64 0, .slice none 0 0, .bool false, .int .i64 0, .int .i64 0, .int .i64 0, .slice none 0 0, .bool false, .int .i64 0, .int .i64 0, .int .i64 0, .slice none 0 0, .bool false] 31)).setRow w1.heap.size (sv x).toArray) := by
  have b := below_setRow (g := w1.heap.size) ((Below.refl w1.heap.size w1).alloc (Nat.le_refl _) (.cells #[.int .i64 0, .slice none 0 0, .slice none 0 0, .int .i64 0, .int .i64 0, .int .i64 0, .int .i64 0, .int .i64 0, .slice none 0 0, .bool false, .int .i64 0, .int .i64 0, .int .i64 0, .slice none 0 0, .bool false, .int .i64 0, .int .i64 0, .int .i64 0, .slice none 0 0, .bool false, .int .i64 0, .int .i64 0, .int .i64 0, .slice none 0 0, .bool false] 31)) (Nat.le_refl _) (sv x).toArray
  exact ⟨⟨(Blk.new w1 31 [.int .i64 0, .slice none 0 0, .slice none 0 0, .int .i64 0, .int .i64 0, .int .i64 0, .int .i64 0, .int .i64 0, .slice none 0 0, .bool false, .int .i64 0, .int .i64 0, .int .i64 0, .slice none 0 0, .bool false, .int .i64 0, .int .i64 0, .int .i64 0, .slice none 0 0, .bool false, .int .i64 0, .int .i64 0, .int .i64 0, .slice none 0 0, .bool false]).setRow (sv x), h.below b⟩, b⟩
theorem rows_one {W : World} {B c : Nat} {q : Option Addr} {R : List Rpv} {r : Rp} (h : W.ownsRow B 28 5 (.slice q R.length c) R.length (R.flatMap pv)) (hr : R.map (·.r) = [r]) : ∃ y b, R = [y] ∧ y.r = r ∧ q = some ⟨b, 0, none⟩ ∧ b < W.heap.size ∧ W.rangeAt b 0 (pv y) := by
  match R, hr, h with
  | [y], hr, h =>
    obtain ⟨b, hb, _, hl, hc, _⟩ := own_block h (by simp)
    refine ⟨y, b, rfl, by simpa using hr, hb, hl, fun j v hv => ?_⟩
    have hj : j < 5 := by have := (List.getElem?_eq_some_iff.1 hv).1; rwa [pv_len] at this
    rw [Nat.zero_add, hc j (by simp; omega)]
    simpa using hv
theorem rows_two {W : World} {B c : Nat} {q : Option Addr} {R : List Rpv} {r r' : Rp} (h : W.ownsRow B 28 5 (.slice q R.length c) R.length (R.flatMap pv)) (hr : R.map (·.r) = [r, r']) : ∃ y y' b, R = [y, y'] ∧ y.r = r ∧ y'.r = r' ∧ q = some ⟨b, 0, none⟩ ∧ b < W.heap.size ∧ W.rangeAt b 0 (pv y) ∧ W.rangeAt b 5 (pv y') := by
  match R, hr, h with
  | [y, y'], hr, h =>
    obtain ⟨b, hb, _, hl, hc, _⟩ := own_block h (by simp)
    have h1 : y.r = r ∧ y'.r = r' := by simpa using hr
    refine ⟨y, y', b, rfl, h1.1, h1.2, hb, hl, fun j v hv => ?_, fun j v hv => ?_⟩
    · have hj : j < 5 := by have := (List.getElem?_eq_some_iff.1 hv).1; rwa [pv_len] at this
      rw [Nat.zero_add, hc j (by simp; omega)]
      simp only [List.flatMap_cons, List.flatMap_nil, List.append_nil]
      rw [List.getElem?_append_left (by rw [pv_len]; exact hj)]
      exact hv
    · have hj : j < 5 := by have := (List.getElem?_eq_some_iff.1 hv).1; rwa [pv_len] at this
      rw [hc (5 + j) (by simp; omega)]
      simp only [List.flatMap_cons, List.flatMap_nil, List.append_nil]
      rw [List.getElem?_append_right (by rw [pv_len]; omega), pv_len, show 5 + j - 5 = j by omega]
      exact hv
theorem rw_one {W : World} {g : Nat} {f : Fld} (h : Blk W g 55 (fv f)) : Rw W (some ⟨g, 0, none⟩) 1 (fun _ => f) := fun j hj => by
  obtain rfl : j = 0 := by omega
  exact ⟨g, 0, rfl, h.lt, by simpa using rows_of_blk h⟩
theorem built_q1 (a : Addr) : Tryd.prog.built 35 [(0, .int .i64 0), (1, .int .i64 1), (2, .int .i64 5), (3, .slice (some a) 1 1)] = some (rv ⟨q1, some a, 1, none, 0⟩).toArray := by kernel_rfl
theorem built_q2 (a : Addr) : Tryd.prog.built 35 [(0, .int .i64 1), (1, .int .i64 1), (2, .int .i64 1), (4, .slice (some a) 1 1), (5, .int .i64 9)] = some (rv ⟨q2, none, 0, some a, 1⟩).toArray := by kernel_rfl
theorem none_rw (w : World) (p : Option Addr) (G : Nat → Fld) : Rw w p 0 G := fun j hj => absurd hj (by omega)
set_option maxRecDepth 100000 in
set_option maxHeartbeats 8000000 in
theorem tolds_t (w : World) (hu : UT w) : Calls Tryd.prog 5 #[] w fun e w' => e = .returned (.bool true) ∧ Below w.heap.size w w' := by
  have NW_ := Lib.hid (New_t 15 15 w)
  have HU := Lib.hid hu
  clear hu
  go_enter Tryd.func5, Tryd.ntmps5
  go_wp2_with fail
  refine NW_.out.mono ?_
  rintro e w1 ⟨rfl, b1⟩
  obtain ⟨x0, hx0⟩ : ∃ x, nsp 15 15 0 1 2 3 = x := ⟨_, rfl⟩
  have W0 : SpW w1 x0 := by rw [← hx0]; exact nsp_w 15 15 0 1 2 3 w1
  have P0 : x0.sp = newS 15 15 := by rw [← hx0]; exact nsp_sp 15 15
  rw [hx0]
  have BW1 := Lib.hid b1
  clear hx0 b1 NW_
  have FX_x0 := Lib.hid (sv_size x0 W0.l4); have FO_x0 := Lib.hid (sv_one x0); have SL_x0 := Lib.hid (sv_len x0 W0.l4)
  have Z_x0 := Lib.hid (Blk.new w1 31 [.int .i64 0, .slice none 0 0, .slice none 0 0, .int .i64 0, .int .i64 0, .int .i64 0, .int .i64 0, .int .i64 0, .slice none 0 0, .bool false, .int .i64 0, .int .i64 0, .int .i64 0, .slice none 0 0, .bool false, .int .i64 0, .int .i64 0, .int .i64 0, .slice none 0 0, .bool false, .int .i64 0, .int .i64 0, .int .i64 0, .slice none 0 0, .bool false])
  have KN_x0 := Lib.hid (KSp.new (w1 := w1) (x := x0) W0)
  go_upto_region 2 with ((with_reducible refine at_op (.store 31 (.tmp 1) (.tmp 10)) rfl ?_); go_must (refine store_blk 31 (.tmp 1) (.tmp 10) (w1).heap.size 31 _ (sv x0) rfl rfl Z_x0.out SL_x0.out.symm FX_x0.out FO_x0.out rfl rfl ?_))
  obtain ⟨V1, hV1⟩ : ∃ V, ((w1).alloc (.cells #[.int .i64 0, .slice none 0 0, .slice none 0 0, .int .i64 0, .int .i64 0, .int .i64 0, .int .i64 0, .int .i64 0, .slice none 0 0, .bool false, .int .i64 0, .int .i64 0, .int .i64 0, .slice none 0 0, .bool false, .int .i64 0, .int .i64 0, .int .i64 0, .slice none 0 0, .bool false, .int .i64 0, .int .i64 0, .int .i64 0, .slice none 0 0, .bool false] 31)).setRow (w1).heap.size (sv x0).toArray = V := ⟨_, rfl⟩
  rw [hV1] at KN_x0 ⊢
  have K_x0 := Lib.hid KN_x0.out.1
  have B_x0 := Lib.hid KN_x0.out.2
  clear hV1 KN_x0 Z_x0 FO_x0 SL_x0
  obtain ⟨g0, hg0⟩ : ∃ g, w1.heap.size = g := ⟨_, rfl⟩
  have BV1 := Lib.hid (BW1.out.trans (B_x0.out.mono BW1.out.size))
  rw [hg0] at K_x0 ⊢
  clear hg0 B_x0 BW1
  go_upto_region 3 with (fail)
  obtain ⟨V2, hV2⟩ : ∃ V, (V1.alloc (.cells #[.int .i64 5, .int .i64 0, .string { data := #[] }] 55)).alloc (.cells #[.int .i64 1, .int .i64 4, .string { data := #[] }] 55) = V := ⟨_, rfl⟩
  have C2 : Below V1.heap.size V1 V2 := by rw [← hV2]; exact ((Below.refl _ _).alloc (Nat.le_refl _) _).alloc (by simp) _
  have F1 := Lib.hid (show Blk V2 V1.heap.size 55 (fv fA) from by rw [← hV2]; exact (Blk.new V1 55 (fv fA)).alloc _)
  have F2 := Lib.hid (show Blk V2 (V1.heap.size + 1) 55 (fv (fI 4)) from by rw [← hV2]; exact Blk.new2 V1 _ _ _)
  have K0 := Lib.hid (K_x0.out.below C2)
  have C2H := Lib.hid (BV1.out.trans (C2.mono BV1.out.size))
  obtain ⟨h1, hh1⟩ : ∃ g, V1.heap.size = g := ⟨_, rfl⟩
  rw [hV2, hh1]
  rw [hh1] at F1 F2
  clear hV2 hh1 C2 K_x0 BV1
  have DA := Lib.hid (Do_t x0 1 ⟨q1, some ⟨h1, 0, none⟩, 1, none, 0⟩ V2 K0.out.w (by rw [P0]; exact small_new) ⟨rw_one F1.out, none_rw _ _ _, (show q1.n ≤ _ by decide), (show q1.m ≤ _ by decide)⟩ (show q1.n ≤ _ by decide) (show q1.m ≤ _ by decide) (HU.out.below C2H.out))
  rw [P0, show (⟨q1, some ⟨h1, 0, none⟩, 1, none, 0⟩ : Rv).r = q1 from rfl, do_A] at DA
  have BT1 := built_q1 ⟨h1, 0, none⟩
  have BT2 := built_q2 ⟨h1 + 1, 0, none⟩
  have K0B := Lib.hid K0.out.box
  go_wp2_with ((with_reducible refine load_blk 31 (.tmp 1) g0 31 (sv x0) _ rfl rfl ?_ Tryd.underlying31 ?_ ?_ ?_ ?_); exact K0B.out; exact rfl; exact FX_x0.out; exact rfl)
  refine DA.out.mono ?_
  rintro e w3 ⟨xA, R, q, c, rfl, pA, rA, sA, oA, tA_, -, bA⟩
  obtain ⟨y1, gl, rfl, hy1, rfl, hl1, rg1⟩ := rows_one oA rA
  have WA : SpW w3 xA := sA.w (by rw [pA]; exact small_A)
  have L1 := Lib.hid (And.intro hl1 rg1); have HY1 := Lib.hid hy1; have PA := Lib.hid pA
  have K0 := Lib.hid (K0.out.below bA); have F1 := Lib.hid (F1.out.below bA F1.out.lt); have F2 := Lib.hid (F2.out.below bA F2.out.lt)
  have C3H := Lib.hid (C2H.out.trans (bA.mono C2H.out.size))
  clear sA oA tA_ bA rA rg1 hl1 hy1 pA DA
  have FX_xA := Lib.hid (sv_size xA WA.l4); have FO_xA := Lib.hid (sv_one xA); have SL_xA := Lib.hid (sv_len xA WA.l4)
  have Z_xA := Lib.hid (Blk.new w3 31 [.int .i64 0, .slice none 0 0, .slice none 0 0, .int .i64 0, .int .i64 0, .int .i64 0, .int .i64 0, .int .i64 0, .slice none 0 0, .bool false, .int .i64 0, .int .i64 0, .int .i64 0, .slice none 0 0, .bool false, .int .i64 0, .int .i64 0, .int .i64 0, .slice none 0 0, .bool false, .int .i64 0, .int .i64 0, .int .i64 0, .slice none 0 0, .bool false])
  have KN_xA := Lib.hid (KSp.new (w1 := w3) (x := xA) WA)
  go_upto_region 4 with ((with_reducible refine at_op (.store 31 (.tmp 4) (.tmp 20)) rfl ?_); go_must (refine store_blk 31 (.tmp 4) (.tmp 20) (w3).heap.size 31 _ (sv xA) rfl rfl Z_xA.out SL_xA.out.symm FX_xA.out FO_xA.out rfl rfl ?_))
  obtain ⟨V3, hV3⟩ : ∃ V, ((w3).alloc (.cells #[.int .i64 0, .slice none 0 0, .slice none 0 0, .int .i64 0, .int .i64 0, .int .i64 0, .int .i64 0, .int .i64 0, .slice none 0 0, .bool false, .int .i64 0, .int .i64 0, .int .i64 0, .slice none 0 0, .bool false, .int .i64 0, .int .i64 0, .int .i64 0, .slice none 0 0, .bool false, .int .i64 0, .int .i64 0, .int .i64 0, .slice none 0 0, .bool false] 31)).setRow (w3).heap.size (sv xA).toArray = V := ⟨_, rfl⟩
  rw [hV3] at KN_xA ⊢
  have K_xA := Lib.hid KN_xA.out.1
  have B_xA := Lib.hid KN_xA.out.2
  clear hV3 KN_xA Z_xA FO_xA SL_xA
  have K0 := Lib.hid (K0.out.below B_xA.out); have F1 := Lib.hid (F1.out.below B_xA.out F1.out.lt); have F2 := Lib.hid (F2.out.below B_xA.out F2.out.lt)
  have L1 := Lib.hid (And.intro (Nat.lt_of_lt_of_le L1.out.1 B_xA.out.size) (rows_below L1.out.2 B_xA.out L1.out.1))
  have C4H := Lib.hid (C3H.out.trans (B_xA.out.mono C3H.out.size))
  obtain ⟨ga, hga⟩ : ∃ g, w3.heap.size = g := ⟨_, rfl⟩
  rw [hga] at K_xA ⊢
  clear hga B_xA C3H WA
  have DB := Lib.hid (Do_t xA 2 ⟨q2, none, 0, some ⟨h1 + 1, 0, none⟩, 1⟩ V3 K_xA.out.w (by rw [PA.out]; exact small_A) ⟨none_rw _ _ _, rw_one F2.out, (show q2.n ≤ _ by decide), (show q2.m ≤ _ by decide)⟩ (show q2.n ≤ _ by decide) (show q2.m ≤ _ by decide) (HU.out.below C4H.out))
  rw [PA.out, show (⟨q2, none, 0, some ⟨h1 + 1, 0, none⟩, 1⟩ : Rv).r = q2 from rfl, do_B] at DB
  have KAB := Lib.hid K_xA.out.box
  go_wp2_with ((with_reducible refine load_blk 31 (.tmp 4) ga 31 (sv xA) _ rfl rfl ?_ Tryd.underlying31 ?_ ?_ ?_ ?_); exact KAB.out; exact rfl; exact FX_xA.out; exact rfl)
  refine DB.out.mono ?_
  rintro e w4 ⟨xB, R2, q2', c2, rfl, pB, rB, sB, oB, tB_, -, bB⟩
  obtain ⟨y2, y3, gm, rfl, hy2, hy3, rfl, hl2, rg2, rg3⟩ := rows_two oB rB
  have WB : SpW w4 xB := sB.w (by rw [pB]; exact small_B)
  have L2 := Lib.hid (And.intro hl2 (And.intro rg2 rg3)); have HY2 := Lib.hid hy2; have HY3 := Lib.hid hy3; have PB := Lib.hid pB
  have K0 := Lib.hid (K0.out.below bB); have F1 := Lib.hid (F1.out.below bB F1.out.lt)
  have L1 := Lib.hid (And.intro (Nat.lt_of_lt_of_le L1.out.1 bB.size) (rows_below L1.out.2 bB L1.out.1))
  have C5H := Lib.hid (C4H.out.trans (bB.mono C4H.out.size))
  clear sB oB tB_ bB rB rg2 rg3 hl2 hy2 hy3 pB DB
  have FX_xB := Lib.hid (sv_size xB WB.l4); have FO_xB := Lib.hid (sv_one xB); have SL_xB := Lib.hid (sv_len xB WB.l4)
  have Z_xB := Lib.hid (Blk.new w4 31 [.int .i64 0, .slice none 0 0, .slice none 0 0, .int .i64 0, .int .i64 0, .int .i64 0, .int .i64 0, .int .i64 0, .slice none 0 0, .bool false, .int .i64 0, .int .i64 0, .int .i64 0, .slice none 0 0, .bool false, .int .i64 0, .int .i64 0, .int .i64 0, .slice none 0 0, .bool false, .int .i64 0, .int .i64 0, .int .i64 0, .slice none 0 0, .bool false])
  have KN_xB := Lib.hid (KSp.new (w1 := w4) (x := xB) WB)
  go_upto_region 5 with ((with_reducible refine at_op (.store 31 (.tmp 6) (.tmp 27)) rfl ?_); go_must (refine store_blk 31 (.tmp 6) (.tmp 27) (w4).heap.size 31 _ (sv xB) rfl rfl Z_xB.out SL_xB.out.symm FX_xB.out FO_xB.out rfl rfl ?_))
  obtain ⟨V4, hV4⟩ : ∃ V, ((w4).alloc (.cells #[.int .i64 0, .slice none 0 0, .slice none 0 0, .int .i64 0, .int .i64 0, .int .i64 0, .int .i64 0, .int .i64 0, .slice none 0 0, .bool false, .int .i64 0, .int .i64 0, .int .i64 0, .slice none 0 0, .bool false, .int .i64 0, .int .i64 0, .int .i64 0, .slice none 0 0, .bool false, .int .i64 0, .int .i64 0, .int .i64 0, .slice none 0 0, .bool false] 31)).setRow (w4).heap.size (sv xB).toArray = V := ⟨_, rfl⟩
  rw [hV4] at KN_xB ⊢
  have K_xB := Lib.hid KN_xB.out.1
  have B_xB := Lib.hid KN_xB.out.2
  clear hV4 KN_xB Z_xB FO_xB SL_xB
  have K0 := Lib.hid (K0.out.below B_xB.out); have F1 := Lib.hid (F1.out.below B_xB.out F1.out.lt)
  have L1 := Lib.hid (And.intro (Nat.lt_of_lt_of_le L1.out.1 B_xB.out.size) (rows_below L1.out.2 B_xB.out L1.out.1))
  have L2 := Lib.hid (And.intro (Nat.lt_of_lt_of_le L2.out.1 B_xB.out.size) (And.intro (rows_below L2.out.2.1 B_xB.out L2.out.1) (rows_below L2.out.2.2 B_xB.out L2.out.1)))
  have C6H := Lib.hid (C5H.out.trans (B_xB.out.mono C5H.out.size))
  obtain ⟨gb, hgb⟩ : ∃ g, w4.heap.size = g := ⟨_, rfl⟩
  rw [hgb] at K_xB ⊢
  clear hgb B_xB C5H WB
  have DC := Lib.hid (Do_t xB 3 ⟨q1, some ⟨h1, 0, none⟩, 1, none, 0⟩ V4 K_xB.out.w (by rw [PB.out]; exact small_B) ⟨rw_one F1.out, none_rw _ _ _, (show q1.n ≤ _ by decide), (show q1.m ≤ _ by decide)⟩ (show q1.n ≤ _ by decide) (show q1.m ≤ _ by decide) (HU.out.below C6H.out))
  rw [PB.out, show (⟨q1, some ⟨h1, 0, none⟩, 1, none, 0⟩ : Rv).r = q1 from rfl, do_C] at DC
  have KBB := Lib.hid K_xB.out.box
  go_wp2_with ((with_reducible refine load_blk 31 (.tmp 6) gb 31 (sv xB) _ rfl rfl ?_ Tryd.underlying31 ?_ ?_ ?_ ?_); exact KBB.out; exact rfl; exact FX_xB.out; exact rfl)
  refine DC.out.mono ?_
  rintro e w5 ⟨xC, R3, q3', c3, rfl, pC, rC, sC, oC, tC_, -, bC⟩
  obtain ⟨y4, gn, rfl, hy4, rfl, hl4, rg4⟩ := rows_one oC rC
  have WC : SpW w5 xC := sC.w (by rw [pC]; exact small_C)
  have L4 := Lib.hid (And.intro hl4 rg4); have HY4 := Lib.hid hy4; have PC := Lib.hid pC
  have K0 := Lib.hid (K0.out.below bC); have F1 := Lib.hid (F1.out.below bC F1.out.lt); have K_xB := Lib.hid (K_xB.out.below bC)
  have L1 := Lib.hid (And.intro (Nat.lt_of_lt_of_le L1.out.1 bC.size) (rows_below L1.out.2 bC L1.out.1))
  have L2 := Lib.hid (And.intro (Nat.lt_of_lt_of_le L2.out.1 bC.size) (And.intro (rows_below L2.out.2.1 bC L2.out.1) (rows_below L2.out.2.2 bC L2.out.1)))
  have C7H := Lib.hid (C6H.out.trans (bC.mono C6H.out.size))
  clear sC oC tC_ bC rC rg4 hl4 hy4 pC DC
  have FX_xC := Lib.hid (sv_size xC WC.l4); have FO_xC := Lib.hid (sv_one xC); have SL_xC := Lib.hid (sv_len xC WC.l4)
  have Z_xC := Lib.hid (Blk.new w5 31 [.int .i64 0, .slice none 0 0, .slice none 0 0, .int .i64 0, .int .i64 0, .int .i64 0, .int .i64 0, .int .i64 0, .slice none 0 0, .bool false, .int .i64 0, .int .i64 0, .int .i64 0, .slice none 0 0, .bool false, .int .i64 0, .int .i64 0, .int .i64 0, .slice none 0 0, .bool false, .int .i64 0, .int .i64 0, .int .i64 0, .slice none 0 0, .bool false])
  have KN_xC := Lib.hid (KSp.new (w1 := w5) (x := xC) WC)
  go_upto_region 6 with ((with_reducible refine at_op (.store 31 (.tmp 8) (.tmp 34)) rfl ?_); go_must (refine store_blk 31 (.tmp 8) (.tmp 34) (w5).heap.size 31 _ (sv xC) rfl rfl Z_xC.out SL_xC.out.symm FX_xC.out FO_xC.out rfl rfl ?_))
  obtain ⟨V5, hV5⟩ : ∃ V, ((w5).alloc (.cells #[.int .i64 0, .slice none 0 0, .slice none 0 0, .int .i64 0, .int .i64 0, .int .i64 0, .int .i64 0, .int .i64 0, .slice none 0 0, .bool false, .int .i64 0, .int .i64 0, .int .i64 0, .slice none 0 0, .bool false, .int .i64 0, .int .i64 0, .int .i64 0, .slice none 0 0, .bool false, .int .i64 0, .int .i64 0, .int .i64 0, .slice none 0 0, .bool false] 31)).setRow (w5).heap.size (sv xC).toArray = V := ⟨_, rfl⟩
  rw [hV5] at KN_xC ⊢
  have K_xC := Lib.hid KN_xC.out.1
  have B_xC := Lib.hid KN_xC.out.2
  clear hV5 KN_xC Z_xC FO_xC SL_xC
  have K0 := Lib.hid (K0.out.below B_xC.out); have F1 := Lib.hid (F1.out.below B_xC.out F1.out.lt); have K_xB := Lib.hid (K_xB.out.below B_xC.out)
  have L1 := Lib.hid (And.intro (Nat.lt_of_lt_of_le L1.out.1 B_xC.out.size) (rows_below L1.out.2 B_xC.out L1.out.1))
  have L2 := Lib.hid (And.intro (Nat.lt_of_lt_of_le L2.out.1 B_xC.out.size) (And.intro (rows_below L2.out.2.1 B_xC.out L2.out.1) (rows_below L2.out.2.2 B_xC.out L2.out.1)))
  have L4 := Lib.hid (And.intro (Nat.lt_of_lt_of_le L4.out.1 B_xC.out.size) (rows_below L4.out.2 B_xC.out L4.out.1))
  have C8H := Lib.hid (C7H.out.trans (B_xC.out.mono C7H.out.size))
  obtain ⟨gc, hgc⟩ : ∃ g, w5.heap.size = g := ⟨_, rfl⟩
  rw [hgc] at K_xC ⊢
  clear hgc B_xC C7H WC
  have MY := Lib.hid (SpMay_t x0 V5 K0.out.w)
  rw [P0, may_new] at MY
  have K0B' := Lib.hid K0.out.box
  go_step
  dsimp only [List.append]
  go_wp2_with ((with_reducible refine load_blk_gdO 36 31 (.tmp 1) g0 31 (sv x0) _ ?_ ?_ rfl ?_ Tryd.underlying31 ?_ ?_ ?_ ?_); exact rfl; kernel_rfl; exact K0B'.out; exact rfl; exact FX_x0.out; exact rfl)
  refine MY.out.mono ?_
  rintro e w6 ⟨rfl, b6⟩
  have F1 := Lib.hid (F1.out.below b6 F1.out.lt); have K_xB := Lib.hid (K_xB.out.below b6); have K_xC := Lib.hid (K_xC.out.below b6)
  have C9H := Lib.hid (C8H.out.trans (b6.mono C8H.out.size))
  have l1 : w6.cell? ⟨gl, 2, none⟩ = some (.int .i64 4) := by
    have := rows_below L1.out.2 b6 L1.out.1 2 (.int .i64 y1.r.kd) rfl
    rw [HY1.out] at this
    exact this
  have l2 : w6.cell? ⟨gm, 2, none⟩ = some (.int .i64 1) := by
    have := rows_below L2.out.2.1 b6 L2.out.1 2 (.int .i64 y2.r.kd) rfl
    rw [HY2.out] at this
    exact this
  have l3 : w6.cell? ⟨gm, 9, none⟩ = some (.bool true) := by
    have := rows_below L2.out.2.2 b6 L2.out.1 4 (.bool y3.r.lt) rfl
    rw [HY3.out] at this
    exact this
  have l4 : w6.cell? ⟨gm, 5, none⟩ = some (.int .i64 0) := by
    have := rows_below L2.out.2.2 b6 L2.out.1 0 (.int .i64 y3.r.cl) rfl
    rw [HY3.out] at this
    exact this
  have l5 : w6.cell? ⟨gm, 7, none⟩ = some (.int .i64 2) := by
    have := rows_below L2.out.2.2 b6 L2.out.1 2 (.int .i64 y3.r.kd) rfl
    rw [HY3.out] at this
    exact this
  have l6 : w6.cell? ⟨gn, 4, none⟩ = some (.bool true) := by
    have := rows_below L4.out.2 b6 L4.out.1 4 (.bool y4.r.lt) rfl
    rw [HY4.out] at this
    exact this
  have nB : xB.its.length = 0 := by
    have := congrArg (fun s : Sp => s.its.length) PB.out
    rw [show xB.its.length = xB.sp.its.length from (List.length_map _).symm]
    exact this
  have mB : xB.wts.length = 0 := by
    have := congrArg (fun s : Sp => s.wts.length) PB.out
    rw [show xB.wts.length = xB.sp.wts.length from (List.length_map _).symm]
    exact this
  have nC : xC.now = 3 := congrArg Sp.now PC.out
  have b1 := (sv_cells K_xB.out.box).2.1
  have b2 := (sv_cells K_xB.out.box).2.2.1
  have b3 := (sv_cells K_xC.out.box).1
  rw [nB] at b1
  rw [mB] at b2
  rw [nC] at b3
  have KBB2 := Lib.hid K_xB.out.box
  have FD := Lib.hid (Find_t xB (some ⟨h1, 0, none⟩) 1 1 (fun _ => fA) w6 (by decide) (rw_one F1.out) K_xB.out.w)
  rw [PB.out, show fndI (fl 1 (fun _ => fA)) tB.its = -1 from rfl] at FD
  clear b6 K0 K0B K0B' KAB KBB L1 L2 L4 C8H F1 MY nB mB nC
  go_wp2_with ((with_reducible refine load_blk_gdO 111 31 (.tmp 6) gb 31 (sv xB) _ ?_ ?_ rfl ?_ Tryd.underlying31 ?_ ?_ ?_ ?_); exact rfl; kernel_rfl; exact KBB2.out; exact rfl; exact FX_xB.out; exact rfl)
  refine FD.out.mono ?_
  rintro e w7 ⟨rfl, b7⟩
  go_wp2_with fail
  go_ret
  exact ⟨rfl, C9H.out.trans (b7.mono C9H.out.size)⟩
end Go.Proofs.YtojianpbjckipaaDoor
