/-
  PACKAGE space: look.
-/
import Derived.Test.YtphgognhjdbdjaaDoorSpOk
import Derived.Test.YtphgognhjdbdjaaDoorSpMk
namespace Go.Proofs.YtphgognhjdbdjaaDoor
open Go Go.RowKit Sh

/-- The waiters' row was worked on, then its head is written. -/
theorem SM.waits {wB W W1 : World} {g : Nat} {x : Spv} (h : SM wB W g x) (l : List Wtv) (q : Option Addr) (c : Nat) (hk : Kept (OB x.wp) W W1) (hq : ∀ k, OB q k → OB x.wp k ∨ W.heap.size ≤ k) (ho : W1.ownsRow wB.heap.size 94 4 (.slice q l.length c) l.length (l.flatMap wv)) (ht : ∀ y ∈ l, FT W1 wB.heap.size y.p y.c y.x.p) :
    SM wB (W1.setCell ⟨g, 2, none⟩ (.slice q l.length c)) g { x with wts := l, wp := q, wc := c } ∧ Mv g x { x with wts := l, wp := q, wc := c } W (W1.setCell ⟨g, 2, none⟩ (.slice q l.length c)) := by
  have hb : Blk W1 g 46 (sv x) := h.box.kept hk h.apartW
  have kF : ∀ {p c l}, FT W wB.heap.size p c l → FT W1 wB.heap.size p c l := fun hf => own_kept hf hk (fun k hk' e => own_two h.sf.wts hf (by decide) e.own hk')
  have hs : SF wB.heap.size W1 { x with wts := l, wp := q, wc := c } :=
    ⟨own_kept h.sf.its hk (fun k hk' e => own_two h.sf.wts h.sf.its (by decide) e.own hk'), fun y hy => kF (h.sf.it y hy), ho, ht, h.sf.l4, fun y hy => kF (h.sf.la y hy)⟩
  have hbel : Below wB.heap.size wB W1 := by
    refine h.bel.trans ⟨hk.os, hk.tape, hk.output, hk.size, fun k hlt => hk.block k (Nat.lt_of_lt_of_le hlt h.bel.size) fun e => ?_⟩
    have := (h.sf.wts.lt k e.own).1
    omega
  refine ⟨⟨hb.store 2 _, h.ge, hbel.setCell (p := ⟨g, 2, none⟩) h.ge _, hs.set (i := 2) hb _⟩, ⟨(hk.mono fun k e => .inr (.inr e)).trans ((Kept.refl (FF x g) W1).setCell (p := ⟨g, 2, none⟩) (.inl (.inl rfl)) _), fun k e => ?_⟩⟩
  rcases e with e | e | e
  · exact .inl (.inl e)
  · exact .inl (.inr (.inl e))
  · rcases hq k e with e' | e'
    · exact .inl (.inr (.inr e'))
    · exact .inr e'
end Go.Proofs.YtphgognhjdbdjaaDoor
