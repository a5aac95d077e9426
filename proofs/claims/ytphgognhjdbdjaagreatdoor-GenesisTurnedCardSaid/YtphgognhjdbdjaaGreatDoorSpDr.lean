/-
  PACKAGE space: Same.
-/
import Derived.Test.YtphgognhjdbdjaaGreatDoorSpCr
namespace Go.Proofs.YtphgognhjdbdjaaGreatDoor
open Go Go.RowKit Sh

/-- Two spaces at hand, boxed. -/
structure SS (w0 W : World) (x y : Spv) : Prop where
  a : Blk W w0.heap.size 29 (sv x)
  b : Blk W (w0.heap.size + 1) 29 (sv y)
  rx : SpW W x
  ry : SpW W y
  bel : Below w0.heap.size w0 W
theorem SS.below {w0 W W' : World} {x y : Spv} (h : SS w0 W x y) (hb : Below W.heap.size W W') : SS w0 W' x y :=
  ⟨h.a.below hb h.a.lt, h.b.below hb h.b.lt, h.rx.below hb, h.ry.below hb, h.bel.trans (hb.mono h.bel.size)⟩
theorem SS.new {w : World} {x y : Spv} (hx : SpW w x) (hy : SpW w y) : SS w ((w.alloc (.cells (sv x).toArray 29)).alloc (.cells (sv y).toArray 29)) x y := by
  have b1 := (Below.refl w.heap.size w).alloc (Nat.le_refl _) (.cells (sv x).toArray 29)
  have b2 := b1.alloc (by simp) (.cells (sv y).toArray 29)
  exact ⟨(Blk.new w 29 (sv x)).alloc _, Blk.new2 w _ _ _, hx.below b2, hy.below b2, b2⟩
end Go.Proofs.YtphgognhjdbdjaaGreatDoor
