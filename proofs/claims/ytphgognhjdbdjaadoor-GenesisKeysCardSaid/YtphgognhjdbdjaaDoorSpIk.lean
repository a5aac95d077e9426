/-
  PACKAGE space: the library's DeleteFunc, Delete over a row of the call's own.
-/
import Derived.Test.YtphgognhjdbdjaaDoorSpHk
namespace Go.Proofs.YtphgognhjdbdjaaDoor
open Go Go.RowKit Sh

section
variable {P : Program} {ops : Array Oper} {rest : List Oper} {o : Oper} {a : Act} {w : World} {Q : Exit → Act → World → Prop}
end
/-- Where DeleteFunc stands: it kept i of the first j. -/
structure DF (W0 W : World) (g : Nat) (sp : List Value) (l R : List Itv) (P : Itv → Bool) (i j : Nat) : Prop where
  blk : Blk W g 89 (R.flatMap iv ++ sp)
  len : R.length = l.length
  front : R.take i = (l.take j).filter (fun x => !P x)
  back : R.drop j = l.drop j
  ij : i < j
  jl : j ≤ l.length
  kept : Kept (fun k => k = g) W0 W
theorem DF.below {W0 W W' : World} {g : Nat} {sp : List Value} {l R : List Itv} {P : Itv → Bool} {i j : Nat} (h : DF W0 W g sp l R P i j) (hb : Below W.heap.size W W') : DF W0 W' g sp l R P i j :=
  ⟨h.blk.below hb h.blk.lt, h.len, h.front, h.back, h.ij, h.jl, h.kept.trans (Kept.of_below hb)⟩
theorem DF.at_ {W0 W : World} {g : Nat} {sp : List Value} {l R : List Itv} {P : Itv → Bool} {i j : Nat} {x : Itv} (h : DF W0 W g sp l R P i j) (hx : l[j]? = some x) : R[j]? = some x := by
  have h1 : (R.drop j)[0]? = (l.drop j)[0]? := by rw [h.back]
  rw [List.getElem?_drop, List.getElem?_drop, Nat.add_zero] at h1
  exact h1.trans hx
theorem DF.skip {W0 W : World} {g : Nat} {sp : List Value} {l R : List Itv} {P : Itv → Bool} {i j : Nat} {x : Itv} (h : DF W0 W g sp l R P i j) (hx : l[j]? = some x) (hp : P x = true) : DF W0 W g sp l R P i (j + 1) := by
  have hj := (List.getElem?_eq_some_iff.1 hx).1
  refine ⟨h.blk, h.len, ?_, ?_, by have := h.ij; omega, hj, h.kept⟩
  · rw [h.front, take_snoc hx, List.filter_append]
    simp [hp]
  · rw [← List.drop_drop, h.back, List.drop_drop]
/-- The row of a slice. -/
def OB (q : Option Addr) (k : Nat) : Prop := ∃ a : Addr, q = some a ∧ a.block = k
end Go.Proofs.YtphgognhjdbdjaaDoor
