/-
  PACKAGE state: Put.
-/
import Derived.Test.YtphgognhjdbdjaaDoorStWk
import Derived.Test.YtphgognhjdbdjaaDoorSpFk
namespace Go.Proofs.YtphgognhjdbdjaaDoor
open Go Go.RowKit Sh

/-- Where Put stands: w0 at its beginning, w2 where its Writer was made. -/
structure QS (w0 w2 W : World) (x : Spv) (l : List Nat) : Prop where
  wr : Wr W (fun k => w2.heap.size ≤ k) w2.heap.size l
  box : Blk W w0.heap.size 46 (sv x)
  lo : w0.heap.size < w2.heap.size
  r2 : SpW w2 x
  bel : Below w0.heap.size w0 w2
  b2 : Below w2.heap.size w2 W
section
variable {w0 w2 W W' : World} {x : Spv} {l l' : List Nat}
theorem QS.step (h : QS w0 w2 W x l) (hw : Wr W' (fun k => w2.heap.size ≤ k) w2.heap.size l') (hb : Below w2.heap.size W W') : QS w0 w2 W' x l' :=
  ⟨hw, h.box.below hb h.lo, h.lo, h.r2, h.bel, h.b2.trans hb⟩
theorem QS.below (h : QS w0 w2 W x l) (hb : Below W.heap.size W W') : QS w0 w2 W' x l := h.step (h.wr.below hb) (hb.mono h.b2.size)
theorem QS.rx (h : QS w0 w2 W x l) : SpW W x := h.r2.below h.b2
theorem QS.more {W1 : World} (h : QS w0 w2 W x l) (hb : Below W.heap.size W W1) (y : Wr W' (More W1 W' (fun k => w2.heap.size ≤ k)) w2.heap.size l') (k : Kept (fun k => w2.heap.size ≤ k) W1 W') : QS w0 w2 W' x l' := by
  have g := h.below hb
  refine g.step (y.mono fun i hi => ?_) (k.to_below g.b2.size)
  rcases hi with e | e
  · exact e
  · have := g.b2.size; omega
end
theorem take_snocS {α : Type} {l : List α} {j : Nat} {y : α} (h : l[j]? = some y) : l.take (j + 1) = l.take j ++ [y] := by rw [List.take_add_one, h]; rfl
end Go.Proofs.YtphgognhjdbdjaaDoor
