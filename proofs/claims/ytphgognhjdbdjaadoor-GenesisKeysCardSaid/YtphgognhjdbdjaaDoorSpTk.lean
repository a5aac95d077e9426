/-
  PACKAGE space: answer.
-/
import Derived.Test.YtphgognhjdbdjaaDoorSpRk
import Derived.Test.YtphgognhjdbdjaaDoorSpNk
namespace Go.Proofs.YtphgognhjdbdjaaDoor
open Go Go.RowKit Sh

/-- A row of replies grows: a space stays. -/
theorem SM.grown {wB W W' : World} {g B n : Nat} {x : Spv} {v : Value} {xs : List Value} (h : SM wB W g x) (ho : W.ownsRow B 43 5 v n xs) (hB : wB.heap.size ≤ B) (hg : W.grownBy W' v.ownBlock) : SM wB W' g x :=
  ⟨own_grown_blk ho hg h.box (by decide), h.ge, h.bel.grown hg h.bel.size (fun k e => Nat.le_trans hB (ho.lt k e).1),
    ⟨own_grown h.sf.its ho hg (by decide), fun y hy => own_grown (h.sf.it y hy) ho hg (by decide), own_grown h.sf.wts ho hg (by decide), fun y hy => own_grown (h.sf.wt y hy) ho hg (by decide), h.sf.l4, fun y hy => own_grown (h.sf.la y hy) ho hg (by decide)⟩⟩
theorem Mv.grown {g : Nat} {x x' : Spv} {W0 W W' : World} {row : Option Nat} (m : Mv g x x' W0 W) (hg : W.grownBy W' row) (hb : ∀ k, row = some k → W0.heap.size ≤ k) : Mv g x x' W0 W' := ⟨m.kept.grown hg (fun k e => .inr (hb k e)), m.grow⟩
end Go.Proofs.YtphgognhjdbdjaaDoor
