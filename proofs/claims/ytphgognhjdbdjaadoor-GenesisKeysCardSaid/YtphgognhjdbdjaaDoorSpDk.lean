/-
  PACKAGE space: Same.
-/
import Derived.Test.YtphgognhjdbdjaaDoorSpCk
namespace Go.Proofs.YtphgognhjdbdjaaDoor
open Go Go.RowKit Sh

/-- Two spaces at hand, boxed. -/
structure SS (w0 W : World) (x y : Spv) : Prop where
  a : Blk W w0.heap.size 46 (sv x)
  b : Blk W (w0.heap.size + 1) 46 (sv y)
  rx : SpW W x
  ry : SpW W y
  bel : Below w0.heap.size w0 W
theorem SS.below {w0 W W' : World} {x y : Spv} (h : SS w0 W x y) (hb : Below W.heap.size W W') : SS w0 W' x y :=
  ⟨h.a.below hb h.a.lt, h.b.below hb h.b.lt, h.rx.below hb, h.ry.below hb, h.bel.trans (hb.mono h.bel.size)⟩
theorem SS.new {w : World} {x y : Spv} (hx : SpW w x) (hy : SpW w y) : SS w ((w.alloc (.cells (sv x).toArray 46)).alloc (.cells (sv y).toArray 46)) x y := by
  have b1 := (Below.refl w.heap.size w).alloc (Nat.le_refl _) (.cells (sv x).toArray 46)
  have b2 := b1.alloc (by simp) (.cells (sv y).toArray 46)
  exact ⟨(Blk.new w 46 (sv x)).alloc _, Blk.new2 w _ _ _, hx.below b2, hy.below b2, b2⟩
end Go.Proofs.YtphgognhjdbdjaaDoor
