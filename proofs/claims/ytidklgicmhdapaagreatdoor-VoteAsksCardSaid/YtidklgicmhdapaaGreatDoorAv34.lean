/-
  PACKAGE vote
-/
import Derived.Test.YtidklgicmhdapaaGreatDoorAv10
import Derived.Test.YtidklgicmhdapaaGreatDoorAv33
namespace Go.Proofs.YtidklgicmhdapaaGreatDoor
open Go Go.RowKit Sh

theorem load_mid_gdV {P : Program} {ops : Array Oper} {rest : List Oper} {o : Oper} {a : Act} {w : World} {Q : Exit → Act → World → Prop} (D : Nat) (ty : TypeId) (x : Operand) (b off : Nat) (cs : List Value) (d : TypeDesc)
    (_hD : o.dst = some D) (hw : Region.wanted o (yielded ops a.tmps) = true) (ho : o.op = .load ty x) (hc : w.rangeAt b off cs) (hu : P.underlying ty = some d) (hd : d.isRow = true) (hi : (P.info? ty).map (·.size) = some cs.length)
    (hx : a.eval x = .pointer (some ⟨b, off, none⟩)) (h : wpList P ops Q rest (a.put o.dst (.agg cs.toArray)) w) : wpList P ops Q (o :: rest) a w :=
  BigFrame.wpList_want hw fun _ hK => wp_load_mid ty x ho b off hx cs d hc hu hd hi (hK _ _ h)
def sameV (x y : Vt) : Bool := (x.p == y.p) && ((x.f == y.f) && (decide (x.l = y.l) && decide (x.s = y.s)))
theorem sameV_iff {x y : Vt} : sameV x y = true ↔ x = y := by
  obtain ⟨a1, a2, a3, a4⟩ := x
  obtain ⟨b1, b2, b3, b4⟩ := y
  simp only [sameV, Bool.and_eq_true, beq_iff_eq, decide_eq_true_eq, Vt.mk.injEq]
structure VS (w0 W : World) (x y : Vv) : Prop where
  a : Blk W w0.heap.size 26 (vv x)
  b : Blk W (w0.heap.size + 1) 26 (vv y)
  rx : VvW W x
  ry : VvW W y
  bel : Below w0.heap.size w0 W
theorem VS.new {w : World} {x y : Vv} (hx : VvW w x) (hy : VvW w y) : VS w ((w.alloc (.cells (vv x).toArray 26)).alloc (.cells (vv y).toArray 26)) x y := by
  have b0 : Below w.heap.size w ((w.alloc (.cells (vv x).toArray 26)).alloc (.cells (vv y).toArray 26)) := ((Below.refl _ _).alloc (Nat.le_refl _) _).alloc (by simp) _
  exact ⟨(Blk.new w 26 (vv x)).alloc _, Blk.new2 w _ 26 (vv y), hx.below b0, hy.below b0, b0⟩
theorem vv_range {W : World} {g : Nat} {t : TypeId} {x : Vv} (h : Blk W g t (vv x)) : W.rangeAt g 2 (u8s x.l) := fun j v hv => by
  have h34 := h.cell (2 + j)
  rw [h34, show 2 + j = j + 1 + 1 by omega]
  show (u8s x.l ++ [Value.slice x.A x.s.length x.c])[j]? = _
  rw [List.getElem?_append_left (List.getElem?_eq_some_iff.1 hv).1]
  exact hv
set_option maxRecDepth 100000 in
set_option maxHeartbeats 1000000 in
theorem vSame_t (x y : Vv) (w : World) (hx : VvW w x) (hy : VvW w y) :
    Calls Tryz.prog 12 #[.agg (vv x).toArray, .agg (vv y).toArray] w fun e w' => e = .returned (.bool (sameV x.vt y.vt)) ∧ Below w.heap.size w w' := by
  have S0 := Lib.hid (VS.new hx hy)
  have HM := Lib.hid (show sameV x.vt y.vt = ((x.p == y.p) && ((x.f == y.f) && (decide (x.l = y.l) && decide (x.s = y.s)))) from rfl)
  obtain ⟨r, hr⟩ : ∃ r, sameV x.vt y.vt = r := ⟨_, rfl⟩
  rw [hr] at HM ⊢
  clear hx hy hr
  go_enter Tryz.func12, Tryz.ntmps12
  go_upto_region 1 with (fail)
  refine world_at (fun Y => VS w Y x y) S0.out ?_
  rintro V s1
  have S1 := Lib.hid s1
  clear s1 S0
  obtain ⟨c0, c1, c34⟩ := vv_cells S1.out.a S1.out.rx.ll
  obtain ⟨d0, d1, d34⟩ := vv_cells S1.out.b S1.out.ry.ll
  by_cases p0 : x.p = y.p
  · have ep : (x.p == y.p) = true := by rw [p0]; exact beq_self_eq_true _
    by_cases f0 : x.f = y.f
    · have ef : (x.f == y.f) = true := by rw [f0]; exact beq_self_eq_true _
      have RX := Lib.hid (vv_range S1.out.a); have RY := Lib.hid (vv_range S1.out.b)
      have ZX := Lib.hid (hash_size x.l S1.out.rx.ll); have ZY := Lib.hid (hash_size y.l S1.out.ry.ll)
      have el := eqIn_u8sS 9998 23 32 Tryz.underlying23 x.l y.l S1.out.rx.ll S1.out.ry.ll
      by_cases l0 : x.l = y.l
      · rw [decide_eq_true l0] at el
        have BE := Lib.hid (bEqual_t x.s y.s x.A y.A x.s.length y.s.length x.c y.c V rfl rfl S1.out.rx.s S1.out.ry.s S1.out.rx.sb S1.out.ry.sb)
        obtain ⟨sb, hsb⟩ : ∃ b, decide (x.s = y.s) = b := ⟨_, rfl⟩
        rw [hsb] at BE HM
        have hr : r = sb := by rw [HM.out, ep, ef, decide_eq_true l0]; rfl
        clear hsb HM l0
        go_wp2_with (first
          | ((with_reducible refine load_mid_gdV 19 23 (.tmp 18) w.heap.size 2 (u8s x.l) _ ?_ ?_ rfl ?_ Tryz.underlying23 ?_ ?_ ?_ ?_); exact rfl; kernel_rfl; exact RX.out; exact rfl; exact ZX.out; exact rfl)
          | ((with_reducible refine load_mid_gdV 21 23 (.tmp 20) (w.heap.size + 1) 2 (u8s y.l) _ ?_ ?_ rfl ?_ Tryz.underlying23 ?_ ?_ ?_ ?_); exact rfl; kernel_rfl; exact RY.out; exact rfl; exact ZY.out; exact rfl))
        refine BE.out.mono ?_
        rintro e w2 ⟨rfl, rfl⟩
        go_wp2_with fail
        go_ret
        subst hr
        exact ⟨rfl, S1.out.bel⟩
      · rw [decide_eq_false l0] at el
        have hr : r = false := by rw [HM.out, decide_eq_false l0, Bool.false_and, Bool.and_false, Bool.and_false]
        clear HM l0
        go_wp2_with (first
          | ((with_reducible refine load_mid_gdV 19 23 (.tmp 18) w.heap.size 2 (u8s x.l) _ ?_ ?_ rfl ?_ Tryz.underlying23 ?_ ?_ ?_ ?_); exact rfl; kernel_rfl; exact RX.out; exact rfl; exact ZX.out; exact rfl)
          | ((with_reducible refine load_mid_gdV 21 23 (.tmp 20) (w.heap.size + 1) 2 (u8s y.l) _ ?_ ?_ rfl ?_ Tryz.underlying23 ?_ ?_ ?_ ?_); exact rfl; kernel_rfl; exact RY.out; exact rfl; exact ZY.out; exact rfl))
        go_ret
        subst hr
        exact ⟨rfl, S1.out.bel⟩
    · have ef : (x.f == y.f) = false := by rw [beq_eq_false_iff_ne]; exact f0
      have hr : r = false := by rw [HM.out, ef, Bool.false_and, Bool.and_false]
      go_wp2_with fail
      go_ret
      subst hr
      exact ⟨rfl, S1.out.bel⟩
  · have ep : (x.p == y.p) = false := by rw [beq_eq_false_iff_ne]; exact p0
    have hr : r = false := by rw [HM.out, ep, Bool.false_and]
    go_wp2_with fail
    go_ret
    subst hr
    exact ⟨rfl, S1.out.bel⟩
end Go.Proofs.YtidklgicmhdapaaGreatDoor
