/-
  PACKAGE space: put.
-/
import Derived.Test.YtphgognhjdbdjaaDoorSpMk
import Derived.Test.YtphgognhjdbdjaaDoorSpDk
namespace Go.Proofs.YtphgognhjdbdjaaDoor
open Go Go.RowKit Sh

/-- A row of another kind stays. -/
theorem Mv.row {wB W W' : World} {g : Nat} {x x' : Spv} {B sz n : Nat} {e : TypeId} {v : Value} {xs : List Value} (m : Mv g x x' W W') (h : SM wB W g x) (ho : W.ownsRow B e sz v n xs) (h0 : e ≠ 46) (h1 : 89 ≠ e) (h2 : 94 ≠ e) : W'.ownsRow B e sz v n xs :=
  own_kept ho m.kept (fun k hk hf => by
    rcases hf with e' | e' | e'
    · exact own_apart ho h.box h0 (by rw [hk, e'])
    · exact own_two h.sf.its ho h1 e'.own hk
    · exact own_two h.sf.wts ho h2 e'.own hk)
theorem Mv.size {g : Nat} {x x' : Spv} {W W' : World} (m : Mv g x x' W W') : W.heap.size ≤ W'.heap.size := m.kept.size
end Go.Proofs.YtphgognhjdbdjaaDoor
