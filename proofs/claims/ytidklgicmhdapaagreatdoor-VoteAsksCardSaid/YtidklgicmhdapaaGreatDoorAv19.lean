/-
  PACKAGE space
  PACKAGE space
  PACKAGE space
  PACKAGE space
  PACKAGE space
  PACKAGE space
  PACKAGE state
-/
import Derived.Test.YtidklgicmhdapaaGreatDoorAv18
import Derived.ArgAppend
import Derived.Test.YtidklgicmhdapaaGreatDoorAv16
namespace Go.Proofs.YtidklgicmhdapaaGreatDoor
open Go Go.RowKit Sh

structure SF (B : Nat) (W : World) (x : Spv) : Prop where
  its : W.ownsRow B 108 3 (.slice x.ip x.its.length x.ic) x.its.length (x.its.flatMap iv)
  it : ∀ y ∈ x.its, FT W B y.p y.c y.i.t
  wts : W.ownsRow B 113 4 (.slice x.wp x.wts.length x.wc) x.wts.length (x.wts.flatMap wv)
  wt : ∀ y ∈ x.wts, FT W B y.p y.c y.x.p
  l4 : x.last.length = 4
  la : ∀ y ∈ x.last, FT W B y.p y.c y.r.t
def svL (x : Spv) (j : Nat) : List Value := svA x ++ (x.last.take j).flatMap pv
def svR (x : Spv) (j : Nat) : List Value := (x.last.drop (j + 1)).flatMap pv
theorem svL_len (x : Spv) (j : Nat) (h : j ≤ x.last.length) : (svL x j).length = 5 + j * 5 := by
  unfold svL
  rw [List.length_append, flat_length pv_len, List.length_take, Nat.min_eq_left h]
  rfl
theorem sv_at (x : Spv) (j : Nat) (y : Rpv) (hy : x.last[j]? = some y) : sv x = svL x j ++ (pv y ++ svR x j) := by
  obtain ⟨hj, rfl⟩ := List.getElem?_eq_some_iff.1 hy
  have e : x.last = x.last.take j ++ (x.last[j] :: x.last.drop (j + 1)) := by rw [← List.drop_eq_getElem_cons hj, List.take_append_drop]
  show svA x ++ x.last.flatMap pv = _
  conv => lhs; rw [e]
  unfold svL svR
  rw [List.flatMap_append, List.flatMap_cons, List.append_assoc]
theorem sv_put (x : Spv) (j : Nat) (y y' : Rpv) (hy : x.last[j]? = some y) : sv { x with last := x.last.set j y' } = svL x j ++ (pv y' ++ svR x j) := by
  obtain ⟨hj, rfl⟩ := List.getElem?_eq_some_iff.1 hy
  show svA x ++ (x.last.set j y').flatMap pv = _
  rw [List.set_eq_take_append_cons_drop, if_pos hj]
  unfold svL svR
  rw [List.flatMap_append, List.flatMap_cons, List.append_assoc]
theorem sv_one (x : Spv) : (sv x).toArray.all (·.oneCell') = true := by
  rw [Array.all_eq_true']
  intro v hv
  have hv : v ∈ sv x := by simpa using hv
  unfold sv at hv
  rcases List.mem_append.1 hv with h | h
  · simp only [List.mem_cons, List.not_mem_nil, or_false] at h
    rcases h with rfl | rfl | rfl | rfl | rfl <;> rfl
  · exact flat_one pv_one x.last v h
end Go.Proofs.YtidklgicmhdapaaGreatDoor
namespace Go.Proofs.YtidklgicmhdapaaGreatDoor
open Go Go.RowKit Sh

section
variable {P : Program} {ops : Array Oper} {rest : List Oper} {o : Oper} {a : Act} {w : World} {Q : Exit → Act → World → Prop}
end
end Go.Proofs.YtidklgicmhdapaaGreatDoor
namespace Go.Proofs.YtidklgicmhdapaaGreatDoor
open Go Go.RowKit Sh

end Go.Proofs.YtidklgicmhdapaaGreatDoor
namespace Go.Proofs.YtidklgicmhdapaaGreatDoor
open Go Go.RowKit Sh

section
variable {P : Program} {ops : Array Oper} {o : Oper} {a : Act} {w : World} {Q : Exit → Act → World → Prop} {sz : Nat}
end
end Go.Proofs.YtidklgicmhdapaaGreatDoor
namespace Go.Proofs.YtidklgicmhdapaaGreatDoor
open Go Go.RowKit Sh

structure SM (wB W : World) (g : Nat) (x : Spv) : Prop where
  box : Blk W g 82 (sv x)
  ge : wB.heap.size ≤ g
  bel : Below wB.heap.size wB W
  sf : SF wB.heap.size W x
end Go.Proofs.YtidklgicmhdapaaGreatDoor
namespace Go.Proofs.YtidklgicmhdapaaGreatDoor
open Go Go.RowKit Sh

theorem row_one {α : Type} (f : α → List Value) (sz : Nat) (x : α) (w : World) (e : TypeId) : RowL (w.alloc (.cells (f x).toArray e)) (some ⟨w.heap.size, 0, none⟩) sz f [x] := fun j y hy => by
  cases j with
  | zero =>
    obtain rfl : x = y := by simpa using hy
    exact ⟨w.heap.size, 0, rfl, by simp, by simpa using rows_of_blk (Blk.new w e (f x))⟩
  | succ j => simp at hy
section
variable {P : Program} {ops : Array Oper} {rest : List Oper} {o : Oper} {a : Act} {w : World} {Q : Exit → Act → World → Prop}
theorem wp_build1 {K : Act → World → Prop} (t e : TypeId) (x : Operand) (ho : o.op = .buildSlice t 1 #[(0, x)]) (cs : List Value) (hx : a.eval x = .agg cs.toArray)
    (hb : (Instr.buildSlice t 1 #[(0, .agg cs.toArray)]).run P w = .ok (.slice (some ⟨w.heap.size, 0, none⟩) 1 1) (w.alloc (.cells cs.toArray e)))
    (h : K (a.put o.dst (.slice (some ⟨w.heap.size, 0, none⟩) 1 1)) (w.alloc (.cells cs.toArray e))) : o.wp P a w K Q := by
  have e : ((#[(0, x)] : Array (Nat × Operand)).map fun (i, x) => (i, a.eval x)) = #[(0, .agg cs.toArray)] := by simp [hx]
  unfold Oper.wp execOp
  simp only [ho, e, Sem.run_bind, hb, Result.andThen_ok]
  exact h
theorem build1 (t e : TypeId) (x : Operand) (hgd : o.guard = none) (ho : o.op = .buildSlice t 1 #[(0, x)]) (cs : List Value) (hx : a.eval x = .agg cs.toArray)
    (hb : (Instr.buildSlice t 1 #[(0, .agg cs.toArray)]).run P w = .ok (.slice (some ⟨w.heap.size, 0, none⟩) 1 1) (w.alloc (.cells cs.toArray e)))
    (h : wpList P ops Q rest (a.put o.dst (.slice (some ⟨w.heap.size, 0, none⟩) 1 1)) (w.alloc (.cells cs.toArray e))) : wpList P ops Q (o :: rest) a w :=
  wpList_plain hgd fun _ hK => wp_build1 t e x ho cs hx hb (hK _ _ h)
end
theorem build_wv (y : Wtv) (W : World) : (Instr.buildSlice 76 1 #[(0, .agg (wv y).toArray)]).run Tryz.prog W = .ok (.slice (some ⟨W.heap.size, 0, none⟩) 1 1) (W.alloc (.cells (wv y).toArray 113)) := by
  kernel_rfl
theorem build_iv (y : Itv) (W : World) : (Instr.buildSlice 75 1 #[(0, .agg (iv y).toArray)]).run Tryz.prog W = .ok (.slice (some ⟨W.heap.size, 0, none⟩) 1 1) (W.alloc (.cells (iv y).toArray 108)) := by
  kernel_rfl
end Go.Proofs.YtidklgicmhdapaaGreatDoor
namespace Go.Proofs.YtidklgicmhdapaaGreatDoor
open Go Go.RowKit Sh

structure SR (B : Nat) (W : World) (gs g : Nat) (s : Src) : Prop where
  bx : Blk W gs 105 [.pointer (some ⟨g, 0, none⟩), .bool s.wr]
  rd : RdF (fun k => k < B) W g s.xs s.bad
  ne : gs ≠ g
  by_ : Bytes s.xs
  lb : B ≤ gs
theorem SR.below {W W' : World} {B gs g : Nat} {s : Src} (h : SR B W gs g s) (hb : Below W.heap.size W W') : SR B W' gs g s := ⟨h.bx.below hb h.bx.lt, h.rd.below hb, h.ne, h.by_, h.lb⟩
theorem gNum_len (s : Src) (n : Nat) : (gNum s n).2.xs.length ≤ s.xs.length := by
  unfold gNum rNum
  dsimp only
  split
  · simp
  · simp
theorem SR.set {W : World} {B gs g : Nat} {s : Src} (h : SR B W gs g s) (b : Bool) : SR B (W.setCell ⟨gs, 1, none⟩ (.bool b)) gs g { s with wr := b } ∧ Kept (fun k => k = gs) W (W.setCell ⟨gs, 1, none⟩ (.bool b)) := by
  have k : Kept (fun k => k = gs) W (W.setCell ⟨gs, 1, none⟩ (.bool b)) := (Kept.refl (fun k => k = gs) W).setCell (p := ⟨gs, 1, none⟩) (.inl rfl) _
  exact ⟨⟨h.bx.store 1 (.bool b), h.rd.stays k h.ne.symm (fun i hi e => by have := h.lb; omega), h.ne, h.by_, h.lb⟩, k⟩
set_option maxRecDepth 100000 in
theorem snum_t (B gs g n : Nat) (s : Src) (W : World) (x : SR B W gs g s) (h1 : 1 ≤ n) (h2 : n ≤ 8) :
    Calls Tryz.prog 65 #[.pointer (some ⟨gs, 0, none⟩), .int .i64 n] W fun e W' => e = .returned (.int .i64 (i64N (gNum s n).1)) ∧ SR B W' gs g (gNum s n).2 ∧ Kept (fun k => k = g) W W' := by
  have RT := Lib.hid (rnum_F _ g s.xs s.bad n W x.rd x.by_ h1 h2)
  have X := Lib.hid x
  have c0 : W.cell? ⟨gs, 0, none⟩ = some (.pointer (some ⟨g, 0, none⟩)) := x.bx.cell 0
  obtain ⟨v, hv⟩ : ∃ v, (rNum s.xs s.bad n).1 = v := ⟨_, rfl⟩
  have E := Lib.hid (show i64N (gNum s n).1 = IntKind.i64.wrap (v : Int) from by unfold i64N gNum; rw [hv])
  rw [hv] at RT
  rw [E.out]
  obtain ⟨z, hz⟩ : ∃ z, IntKind.i64.wrap (v : Int) = z := ⟨_, rfl⟩
  rw [hz]
  clear x hv E
  go_enter Tryz.func65, Tryz.ntmps65
  go_wp2_with fail
  refine RT.out.mono ?_
  rintro e W2 ⟨rfl, r2, k2⟩
  have S2 := Lib.hid (show SR B W2 gs g (gNum s n).2 from ⟨X.out.bx.kept k2 X.out.ne, r2, X.out.ne, gNum_bytes n X.out.by_, X.out.lb⟩)
  have K2 := Lib.hid k2
  clear r2 k2 c0 X RT
  go_wp2_with fail
  go_ret
  exact ⟨rfl, S2.out, K2.out⟩
set_option maxRecDepth 100000 in
theorem sflag_t (B gs g : Nat) (s : Src) (W : World) (x : SR B W gs g s) :
    Calls Tryz.prog 71 #[.pointer (some ⟨gs, 0, none⟩)] W fun e W' => e = .returned (.bool (gFlag s).1) ∧ SR B W' gs g (gFlag s).2 ∧ Kept (fun k => k = g ∨ k = gs) W W' := by
  have RT := Lib.hid (rnum_F _ g s.xs s.bad 1 W x.rd x.by_ (by decide) (by decide))
  have X := Lib.hid x
  have c0 : W.cell? ⟨gs, 0, none⟩ = some (.pointer (some ⟨g, 0, none⟩)) := x.bx.cell 0
  have HV := Lib.hid (rNum_bytes s.xs s.bad 1 x.by_).2.2
  obtain ⟨⟨v, u⟩, hv⟩ : ∃ r, gNum s 1 = r := ⟨_, rfl⟩
  have hv1 : (rNum s.xs s.bad 1).1 = v := congrArg Prod.fst hv
  have E1 := Lib.hid (show (gFlag s).1 = (v == 1) from by unfold gFlag; rw [hv])
  have E2 := Lib.hid (show (gFlag s).2 = { u with wr := s.wr || decide (1 < v) } from by unfold gFlag; rw [hv])
  have HU := Lib.hid (congrArg Prod.snd hv)
  rw [hv1] at RT HV
  obtain ⟨sw, hsw⟩ : ∃ b, s.wr = b := ⟨_, rfl⟩
  rw [E1.out, E2.out, hsw]
  have HSW := Lib.hid hsw
  clear x hv hv1 E1 E2 hsw
  go_enter Tryz.func71, Tryz.ntmps71
  go_wp2_with fail
  refine RT.out.mono ?_
  rintro e W2 ⟨rfl, r2, k2⟩
  have S2 := Lib.hid (show SR B W2 gs g u from by
    have h : SR B W2 gs g (gNum s 1).2 := ⟨X.out.bx.kept k2 X.out.ne, r2, X.out.ne, gNum_bytes 1 X.out.by_, X.out.lb⟩
    rwa [HU.out] at h)
  have HW := Lib.hid (show u.wr = sw from by have := HU.out; exact (congrArg Src.wr this).symm.trans HSW.out)
  have K2 := Lib.hid k2
  clear r2 k2 c0 RT
  have c1 : W2.cell? ⟨gs, 1, none⟩ = some (.bool u.wr) := S2.out.bx.cell 1
  have fz := S2.out.bx.frozen 1
  rw [HW.out] at c1
  have hb1 : ((v : Int) == 1) = (v == 1) := by
    by_cases h : v = 1
    · subst h; rfl
    · rw [beq_eq_false_iff_ne.2 h, beq_eq_false_iff_ne]; omega
  have S3 := Lib.hid (S2.out.set (sw || decide (1 < v)))
  have hb9 : v < 256 := HV.out
  clear HW X HSW
  cases sw with
  | true =>
    go_wp2_with fail
    go_ret
    exact ⟨rfl, S3.out.1, (K2.out.mono fun k e => .inl e).trans (S3.out.2.mono fun k e => .inr e)⟩
  | false =>
    by_cases h1 : 1 < v
    · have e1 : decide ((1 : Int) < (v : Int)) = true := decide_eq_true (by omega)
      have e2 : decide (1 < v) = true := decide_eq_true h1
      rw [e2] at S3
      go_wp2_with fail
      go_ret
      exact ⟨rfl, by rw [e2]; exact S3.out.1, (K2.out.mono fun k e => .inl e).trans (S3.out.2.mono fun k e => .inr e)⟩
    · have e1 : decide ((1 : Int) < (v : Int)) = false := decide_eq_false (by omega)
      have e2 : decide (1 < v) = false := decide_eq_false h1
      rw [e2] at S3
      go_wp2_with fail
      go_ret
      exact ⟨rfl, by rw [e2]; exact S3.out.1, (K2.out.mono fun k e => .inl e).trans (S3.out.2.mono fun k e => .inr e)⟩
set_option maxRecDepth 100000 in
theorem send_t (B gs g : Nat) (s : Src) (W : World) (x : SR B W gs g s) :
    Calls Tryz.prog 72 #[.pointer (some ⟨gs, 0, none⟩)] W fun e W' => e = .returned (.int .i64 (endS s : Nat)) ∧ W = W' := by
  have ET := Lib.hid (end_t g s.xs s.bad W x.rd.rd)
  have c0 : W.cell? ⟨gs, 0, none⟩ = some (.pointer (some ⟨g, 0, none⟩)) := x.bx.cell 0
  have c1 : W.cell? ⟨gs, 1, none⟩ = some (.bool s.wr) := x.bx.cell 1
  have E := Lib.hid (show endS s = if s.wr then 2 else endN s.xs s.bad from rfl)
  obtain ⟨en, hen⟩ : ∃ n, endN s.xs s.bad = n := ⟨_, rfl⟩
  obtain ⟨b, hb⟩ : ∃ n, s.wr = n := ⟨_, rfl⟩
  rw [hen] at ET E
  rw [hb] at c1 E
  rw [E.out]
  clear x hen hb E
  cases b with
  | true =>
    go_enter Tryz.func72, Tryz.ntmps72
    go_wp2_with fail
    go_ret
    exact ⟨rfl, rfl⟩
  | false =>
    go_enter Tryz.func72, Tryz.ntmps72
    go_wp2_with fail
    refine ET.out.mono ?_
    rintro e W2 ⟨rfl, rfl⟩
    go_wp2_with fail
    go_ret
    exact ⟨rfl, rfl⟩
end Go.Proofs.YtidklgicmhdapaaGreatDoor
