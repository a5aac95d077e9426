/-
  PACKAGE space
  PACKAGE space
  PACKAGE space
  PACKAGE space
  PACKAGE space
-/
import Derived.Test.YtlipjglehongeabGreatDoorVt19
import Derived.ArgAppend
namespace Go.Proofs.YtlipjglehongeabGreatDoor
open Go Go.RowKit Sh

section
variable {P : Program} {ops : Array Oper} {rest : List Oper} {o : Oper} {a : Act} {w : World} {Q : Exit → Act → World → Prop}
end
end Go.Proofs.YtlipjglehongeabGreatDoor
namespace Go.Proofs.YtlipjglehongeabGreatDoor
open Go Go.RowKit Sh

end Go.Proofs.YtlipjglehongeabGreatDoor
namespace Go.Proofs.YtlipjglehongeabGreatDoor
open Go Go.RowKit Sh

section
variable {P : Program} {ops : Array Oper} {o : Oper} {a : Act} {w : World} {Q : Exit → Act → World → Prop} {sz : Nat}
end
end Go.Proofs.YtlipjglehongeabGreatDoor
namespace Go.Proofs.YtlipjglehongeabGreatDoor
open Go Go.RowKit Sh

structure SM (wB W : World) (g : Nat) (x : Spv) : Prop where
  box : Blk W g 75 (sv x)
  ge : wB.heap.size ≤ g
  bel : Below wB.heap.size wB W
  sf : SF wB.heap.size W x
end Go.Proofs.YtlipjglehongeabGreatDoor
namespace Go.Proofs.YtlipjglehongeabGreatDoor
open Go Go.RowKit Sh

theorem row_one {α : Type} (f : α → List Value) (sz : Nat) (x : α) (w : World) (e : TypeId) : RowL (w.alloc (.cells (f x).toArray e)) (some ⟨w.heap.size, 0, none⟩) sz f [x] := fun j y hy => by
  cases j with
  | zero =>
    obtain rfl : x = y := by simpa using hy
    exact ⟨w.heap.size, 0, rfl, by simp, by simpa using rows_of_blk (Blk.new w e (f x))⟩
  | succ j => simp at hy
section
variable {P : Program} {ops : Array Oper} {rest : List Oper} {o : Oper} {a : Act} {w : World} {Q : Exit → Act → World → Prop}
theorem wp_build1 {K : Act → World → Prop} (t e : TypeId) (x : Operand) (ho : o.op = .buildSlice t 1 #[(0, x)]) (cs : List Value) (hx : a.eval x = .agg cs.toArray)
    (hb : (Instr.buildSlice t 1 #[(0, .agg cs.toArray)]).run P w = .ok (.slice (some ⟨w.heap.size, 0, none⟩) 1 1) (w.alloc (.cells cs.toArray e)))
    (h : K (a.put o.dst (.slice (some ⟨w.heap.size, 0, none⟩) 1 1)) (w.alloc (.cells cs.toArray e))) : o.wp P a w K Q := by
  have e : ((#[(0, x)] : Array (Nat × Operand)).map fun (i, x) => (i, a.eval x)) = #[(0, .agg cs.toArray)] := by simp [hx]
  unfold Oper.wp execOp
  simp only [ho, e, Sem.run_bind, hb, Result.andThen_ok]
  exact h
theorem build1 (t e : TypeId) (x : Operand) (hgd : o.guard = none) (ho : o.op = .buildSlice t 1 #[(0, x)]) (cs : List Value) (hx : a.eval x = .agg cs.toArray)
    (hb : (Instr.buildSlice t 1 #[(0, .agg cs.toArray)]).run P w = .ok (.slice (some ⟨w.heap.size, 0, none⟩) 1 1) (w.alloc (.cells cs.toArray e)))
    (h : wpList P ops Q rest (a.put o.dst (.slice (some ⟨w.heap.size, 0, none⟩) 1 1)) (w.alloc (.cells cs.toArray e))) : wpList P ops Q (o :: rest) a w :=
  wpList_plain hgd fun _ hK => wp_build1 t e x ho cs hx hb (hK _ _ h)
end
theorem build_wv (y : Wtv) (W : World) : (Instr.buildSlice 69 1 #[(0, .agg (wv y).toArray)]).run Tryz.prog W = .ok (.slice (some ⟨W.heap.size, 0, none⟩) 1 1) (W.alloc (.cells (wv y).toArray 106)) := by
  kernel_rfl
theorem build_iv (y : Itv) (W : World) : (Instr.buildSlice 68 1 #[(0, .agg (iv y).toArray)]).run Tryz.prog W = .ok (.slice (some ⟨W.heap.size, 0, none⟩) 1 1) (W.alloc (.cells (iv y).toArray 101)) := by
  kernel_rfl
end Go.Proofs.YtlipjglehongeabGreatDoor
