/-
  PACKAGE space: a space that is worked on; goOn, take, note.
-/
import Derived.Test.YtphgognhjdbdjaaDoorSpKk
namespace Go.Proofs.YtphgognhjdbdjaaDoor
open Go Go.RowKit Sh

/-- What is worked on: the space's own block, its items' row, its waiters' row. -/
def FF (x : Spv) (g k : Nat) : Prop := k = g ∨ OB x.ip k ∨ OB x.wp k
/-- A space that is worked on, in the block g. -/
structure SM (wB W : World) (g : Nat) (x : Spv) : Prop where
  box : Blk W g 46 (sv x)
  ge : wB.heap.size ≤ g
  bel : Below wB.heap.size wB W
  sf : SF wB.heap.size W x
/-- A step of the work. -/
structure Mv (g : Nat) (x x' : Spv) (W W' : World) : Prop where
  kept : Kept (FF x g) W W'
  grow : ∀ k, FF x' g k → FF x g k ∨ W.heap.size ≤ k
theorem OB.own {q : Option Addr} {k n c : Nat} (h : OB q k) : Value.ownBlock (.slice q n c) = some k := by
  obtain ⟨a, rfl, rfl⟩ := h
  rfl
theorem SM.below {wB W W' : World} {g : Nat} {x : Spv} (h : SM wB W g x) (hb : Below W.heap.size W W') : SM wB W' g x :=
  ⟨h.box.below hb h.box.lt, h.ge, h.bel.trans (hb.mono h.bel.size), h.sf.below hb⟩
theorem Mv.of_below {g : Nat} {x : Spv} {W W' : World} (hb : Below W.heap.size W W') : Mv g x x W W' := ⟨Kept.of_below hb, fun _ h => .inl h⟩
theorem Mv.trans {g : Nat} {x y z : Spv} {a b c : World} (h : Mv g x y a b) (k : Mv g y z b c) : Mv g x z a c := by
  refine ⟨⟨k.kept.os.trans h.kept.os, k.kept.tape.trans h.kept.tape, k.kept.output.trans h.kept.output, Nat.le_trans h.kept.size k.kept.size, fun i hi hf => ?_⟩, fun i hi => ?_⟩
  · refine (k.kept.block i (Nat.lt_of_lt_of_le hi h.kept.size) fun hy => ?_).trans (h.kept.block i hi hf)
    rcases h.grow i hy with h1 | h1
    · exact hf h1
    · omega
  · rcases k.grow i hi with h1 | h1
    · exact h.grow i h1
    · exact .inr (Nat.le_trans h.kept.size h1)
theorem SM.not {wB W : World} {g b : Nat} {x : Spv} {T : TypeId} {cs : List Value} (h : SM wB W g x) (hb : Blk W b T cs) (h1 : T ≠ 89) (h2 : T ≠ 94) (hne : b ≠ g) : ¬ FF x g b := fun hf => by
  rcases hf with e | e | e
  · exact hne e
  · exact own_apart h.sf.its hb (Ne.symm h1) e.own
  · exact own_apart h.sf.wts hb (Ne.symm h2) e.own
theorem Mv.blk {wB W W' : World} {g b : Nat} {x x' : Spv} {T : TypeId} {cs : List Value} (m : Mv g x x' W W') (h : SM wB W g x) (hb : Blk W b T cs) (h1 : T ≠ 89) (h2 : T ≠ 94) (hne : b ≠ g) : Blk W' b T cs := hb.kept m.kept (h.not hb h1 h2 hne)
theorem SM.apartI {wB W : World} {g : Nat} {x : Spv} (h : SM wB W g x) : ¬ OB x.ip g := fun e => own_apart h.sf.its h.box (by decide) e.own
theorem SM.apartW {wB W : World} {g : Nat} {x : Spv} (h : SM wB W g x) : ¬ OB x.wp g := fun e => own_apart h.sf.wts h.box (by decide) e.own
/-- A cell of the space's own block is written: its rows stay. -/
theorem SF.set {B g i : Nat} {W : World} {x : Spv} {cs : List Value} (h : SF B W x) (hg : Blk W g 46 cs) (u : Value) : SF B (W.setCell ⟨g, i, none⟩ u) x := h.kept ((Kept.refl (fun b => b = g) W).setCell (p := ⟨g, i, none⟩) (.inl rfl) u) hg
theorem SM.now {wB W : World} {g : Nat} {x : Spv} (h : SM wB W g x) (n : Int) : SM wB (W.setCell ⟨g, 0, none⟩ (.int .i64 n)) g { x with now := n } ∧ Mv g x { x with now := n } W (W.setCell ⟨g, 0, none⟩ (.int .i64 n)) := by
  have hf := h.sf.set (i := 0) h.box (.int .i64 n)
  exact ⟨⟨h.box.store 0 _, h.ge, h.bel.setCell (p := ⟨g, 0, none⟩) h.ge _, ⟨hf.its, hf.it, hf.wts, hf.wt, hf.l4, hf.la⟩⟩, ⟨(Kept.refl (FF x g) W).setCell (p := ⟨g, 0, none⟩) (.inl (.inl rfl)) _, fun _ e => .inl e⟩⟩
/-- The items' row was worked on, then its head is written. -/
theorem SM.items {wB W W1 : World} {g : Nat} {x : Spv} (h : SM wB W g x) (l : List Itv) (q : Option Addr) (c : Nat) (hk : Kept (OB x.ip) W W1) (hq : ∀ k, OB q k → OB x.ip k ∨ W.heap.size ≤ k) (ho : W1.ownsRow wB.heap.size 89 3 (.slice q l.length c) l.length (l.flatMap iv)) (ht : ∀ y ∈ l, FT W1 wB.heap.size y.p y.c y.i.t) :
    SM wB (W1.setCell ⟨g, 1, none⟩ (.slice q l.length c)) g { x with its := l, ip := q, ic := c } ∧ Mv g x { x with its := l, ip := q, ic := c } W (W1.setCell ⟨g, 1, none⟩ (.slice q l.length c)) := by
  have hb : Blk W1 g 46 (sv x) := h.box.kept hk h.apartI
  have kF : ∀ {p c l}, FT W wB.heap.size p c l → FT W1 wB.heap.size p c l := fun hf => own_kept hf hk (fun k hk' e => own_two h.sf.its hf (by decide) e.own hk')
  have hs : SF wB.heap.size W1 { x with its := l, ip := q, ic := c } :=
    ⟨ho, ht, own_kept h.sf.wts hk (fun k hk' e => own_two h.sf.its h.sf.wts (by decide) e.own hk'), fun y hy => kF (h.sf.wt y hy), h.sf.l4, fun y hy => kF (h.sf.la y hy)⟩
  have hbel : Below wB.heap.size wB W1 := by
    refine h.bel.trans ⟨hk.os, hk.tape, hk.output, hk.size, fun k hlt => hk.block k (Nat.lt_of_lt_of_le hlt h.bel.size) fun e => ?_⟩
    have := (h.sf.its.lt k e.own).1
    omega
  refine ⟨⟨hb.store 1 _, h.ge, hbel.setCell (p := ⟨g, 1, none⟩) h.ge _, hs.set (i := 1) hb _⟩, ⟨(hk.mono fun k e => .inr (.inl e)).trans ((Kept.refl (FF x g) W1).setCell (p := ⟨g, 1, none⟩) (.inl (.inl rfl)) _), fun k e => ?_⟩⟩
  rcases e with e | e | e
  · exact .inl (.inl e)
  · rcases hq k e with e' | e'
    · exact .inl (.inr (.inl e'))
    · exact .inr e'
  · exact .inl (.inr (.inr e))
end Go.Proofs.YtphgognhjdbdjaaDoor
