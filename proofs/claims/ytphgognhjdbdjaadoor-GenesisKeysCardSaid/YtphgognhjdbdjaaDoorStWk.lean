/-
  PACKAGE state: what is written, part by part.
-/
import Derived.Test.YtphgognhjdbdjaaDoorStNk
import Derived.Test.YtphgognhjdbdjaaDoorSpCk
namespace Go.Proofs.YtphgognhjdbdjaaDoor
open Go Go.RowKit Sh

/-- Where a part's writing stands: w at its beginning, its box first. -/
structure WI (W0 w W : World) (F : Nat → Prop) (g : Nat) (l : List Nat) : Prop where
  wr : Wr W (fun k => More w W F k ∧ k ≠ w.heap.size) g l
  kp : Kept F w W
  lt : w.heap.size < W.heap.size
  old : Below W0.heap.size W0 W
section
variable {W0 w W W' : World} {F : Nat → Prop} {g : Nat} {l l' : List Nat}
theorem WI.new {cs : List Value} {t : TypeId} (x : Wr w F g l) (hb : Below W0.heap.size W0 w) : WI W0 w (w.alloc (.cells cs.toArray t)) F g l := by
  have bz : Below w.heap.size w (w.alloc (.cells cs.toArray t)) := (Below.refl _ _).alloc (Nat.le_refl _) _
  exact ⟨(x.there.below bz).mono fun k hk => ⟨.inl hk.1, by have := hk.2; omega⟩, Kept.of_below bz, by simp, hb.trans (bz.mono hb.size)⟩
theorem WI.step (h : WI W0 w W F g l) (hF : ∀ k, F k → W0.heap.size ≤ k) (hw : W0.heap.size ≤ w.heap.size) (y : Wr W' (More W W' (fun k => More w W F k ∧ k ≠ w.heap.size)) g l') (k : Kept (fun k => More w W F k ∧ k ≠ w.heap.size) W W') : WI W0 w W' F g l' := by
  have h1 := h.kp.size; have h2 := k.size; have h3 := h.lt
  refine ⟨y.mono fun i hi => ?_, h.kp.more (k.mono fun i e => e.1), by omega, h.old.trans ((k.mono fun i e => ?_).to_below h.old.size)⟩
  · rcases hi with e | e
    · exact ⟨e.1.grow h2, e.2⟩
    · exact ⟨.inr (by omega), by omega⟩
  · rcases e.1 with e | e
    · exact hF i e
    · omega
theorem WI.box {cs : List Value} {t : TypeId} (k : Kept (fun k => More w W F k ∧ k ≠ w.heap.size) W W') (hb : Blk W w.heap.size t cs) : Blk W' w.heap.size t cs := hb.kept k (fun e => e.2 rfl)
theorem WI.fin (h : WI W0 w W F g l) : Wr W (More w W F) g l ∧ Kept F w W := ⟨h.wr.mono fun _ e => e.1, h.kp⟩
end
end Go.Proofs.YtphgognhjdbdjaaDoor
