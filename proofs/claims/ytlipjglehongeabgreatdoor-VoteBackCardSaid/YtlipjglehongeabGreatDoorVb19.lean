/-
  PACKAGE space
  PACKAGE space
  PACKAGE space
  PACKAGE space
  PACKAGE space
  PACKAGE space
-/
import Derived.Test.YtlipjglehongeabGreatDoorVb18
import Derived.ArgAppend
namespace Go.Proofs.YtlipjglehongeabGreatDoor
open Go Go.RowKit Sh

structure SF (B : Nat) (W : World) (x : Spv) : Prop where
  its : W.ownsRow B 101 3 (.slice x.ip x.its.length x.ic) x.its.length (x.its.flatMap iv)
  it : ∀ y ∈ x.its, FT W B y.p y.c y.i.t
  wts : W.ownsRow B 106 4 (.slice x.wp x.wts.length x.wc) x.wts.length (x.wts.flatMap wv)
  wt : ∀ y ∈ x.wts, FT W B y.p y.c y.x.p
  l4 : x.last.length = 4
  la : ∀ y ∈ x.last, FT W B y.p y.c y.r.t
def svL (x : Spv) (j : Nat) : List Value := svA x ++ (x.last.take j).flatMap pv
def svR (x : Spv) (j : Nat) : List Value := (x.last.drop (j + 1)).flatMap pv
theorem svL_len (x : Spv) (j : Nat) (h : j ≤ x.last.length) : (svL x j).length = 5 + j * 5 := by
  unfold svL
  rw [List.length_append, flat_length pv_len, List.length_take, Nat.min_eq_left h]
  rfl
theorem sv_at (x : Spv) (j : Nat) (y : Rpv) (hy : x.last[j]? = some y) : sv x = svL x j ++ (pv y ++ svR x j) := by
  obtain ⟨hj, rfl⟩ := List.getElem?_eq_some_iff.1 hy
  have e : x.last = x.last.take j ++ (x.last[j] :: x.last.drop (j + 1)) := by rw [← List.drop_eq_getElem_cons hj, List.take_append_drop]
  show svA x ++ x.last.flatMap pv = _
  conv => lhs; rw [e]
  unfold svL svR
  rw [List.flatMap_append, List.flatMap_cons, List.append_assoc]
theorem sv_put (x : Spv) (j : Nat) (y y' : Rpv) (hy : x.last[j]? = some y) : sv { x with last := x.last.set j y' } = svL x j ++ (pv y' ++ svR x j) := by
  obtain ⟨hj, rfl⟩ := List.getElem?_eq_some_iff.1 hy
  show svA x ++ (x.last.set j y').flatMap pv = _
  rw [List.set_eq_take_append_cons_drop, if_pos hj]
  unfold svL svR
  rw [List.flatMap_append, List.flatMap_cons, List.append_assoc]
theorem sv_one (x : Spv) : (sv x).toArray.all (·.oneCell') = true := by
  rw [Array.all_eq_true']
  intro v hv
  have hv : v ∈ sv x := by simpa using hv
  unfold sv at hv
  rcases List.mem_append.1 hv with h | h
  · simp only [List.mem_cons, List.not_mem_nil, or_false] at h
    rcases h with rfl | rfl | rfl | rfl | rfl <;> rfl
  · exact flat_one pv_one x.last v h
end Go.Proofs.YtlipjglehongeabGreatDoor
namespace Go.Proofs.YtlipjglehongeabGreatDoor
open Go Go.RowKit Sh

section
variable {P : Program} {ops : Array Oper} {rest : List Oper} {o : Oper} {a : Act} {w : World} {Q : Exit → Act → World → Prop}
end
end Go.Proofs.YtlipjglehongeabGreatDoor
namespace Go.Proofs.YtlipjglehongeabGreatDoor
open Go Go.RowKit Sh

end Go.Proofs.YtlipjglehongeabGreatDoor
namespace Go.Proofs.YtlipjglehongeabGreatDoor
open Go Go.RowKit Sh

section
variable {P : Program} {ops : Array Oper} {o : Oper} {a : Act} {w : World} {Q : Exit → Act → World → Prop} {sz : Nat}
end
end Go.Proofs.YtlipjglehongeabGreatDoor
namespace Go.Proofs.YtlipjglehongeabGreatDoor
open Go Go.RowKit Sh

structure SM (wB W : World) (g : Nat) (x : Spv) : Prop where
  box : Blk W g 75 (sv x)
  ge : wB.heap.size ≤ g
  bel : Below wB.heap.size wB W
  sf : SF wB.heap.size W x
end Go.Proofs.YtlipjglehongeabGreatDoor
namespace Go.Proofs.YtlipjglehongeabGreatDoor
open Go Go.RowKit Sh

theorem row_one {α : Type} (f : α → List Value) (sz : Nat) (x : α) (w : World) (e : TypeId) : RowL (w.alloc (.cells (f x).toArray e)) (some ⟨w.heap.size, 0, none⟩) sz f [x] := fun j y hy => by
  cases j with
  | zero =>
    obtain rfl : x = y := by simpa using hy
    exact ⟨w.heap.size, 0, rfl, by simp, by simpa using rows_of_blk (Blk.new w e (f x))⟩
  | succ j => simp at hy
section
variable {P : Program} {ops : Array Oper} {rest : List Oper} {o : Oper} {a : Act} {w : World} {Q : Exit → Act → World → Prop}
theorem wp_build1 {K : Act → World → Prop} (t e : TypeId) (x : Operand) (ho : o.op = .buildSlice t 1 #[(0, x)]) (cs : List Value) (hx : a.eval x = .agg cs.toArray)
    (hb : (Instr.buildSlice t 1 #[(0, .agg cs.toArray)]).run P w = .ok (.slice (some ⟨w.heap.size, 0, none⟩) 1 1) (w.alloc (.cells cs.toArray e)))
    (h : K (a.put o.dst (.slice (some ⟨w.heap.size, 0, none⟩) 1 1)) (w.alloc (.cells cs.toArray e))) : o.wp P a w K Q := by
  have e : ((#[(0, x)] : Array (Nat × Operand)).map fun (i, x) => (i, a.eval x)) = #[(0, .agg cs.toArray)] := by simp [hx]
  unfold Oper.wp execOp
  simp only [ho, e, Sem.run_bind, hb, Result.andThen_ok]
  exact h
theorem build1 (t e : TypeId) (x : Operand) (hgd : o.guard = none) (ho : o.op = .buildSlice t 1 #[(0, x)]) (cs : List Value) (hx : a.eval x = .agg cs.toArray)
    (hb : (Instr.buildSlice t 1 #[(0, .agg cs.toArray)]).run P w = .ok (.slice (some ⟨w.heap.size, 0, none⟩) 1 1) (w.alloc (.cells cs.toArray e)))
    (h : wpList P ops Q rest (a.put o.dst (.slice (some ⟨w.heap.size, 0, none⟩) 1 1)) (w.alloc (.cells cs.toArray e))) : wpList P ops Q (o :: rest) a w :=
  wpList_plain hgd fun _ hK => wp_build1 t e x ho cs hx hb (hK _ _ h)
end
theorem build_wv (y : Wtv) (W : World) : (Instr.buildSlice 69 1 #[(0, .agg (wv y).toArray)]).run Tryz.prog W = .ok (.slice (some ⟨W.heap.size, 0, none⟩) 1 1) (W.alloc (.cells (wv y).toArray 106)) := by
  kernel_rfl
theorem build_iv (y : Itv) (W : World) : (Instr.buildSlice 68 1 #[(0, .agg (iv y).toArray)]).run Tryz.prog W = .ok (.slice (some ⟨W.heap.size, 0, none⟩) 1 1) (W.alloc (.cells (iv y).toArray 101)) := by
  kernel_rfl
end Go.Proofs.YtlipjglehongeabGreatDoor
