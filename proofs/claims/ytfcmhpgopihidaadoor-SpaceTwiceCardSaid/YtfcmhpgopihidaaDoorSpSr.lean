/-
  THE REFERENCE: SameReply of two that are the same.
-/
import Derived.Test.YtfcmhpgopihidaaDoorSpY
namespace Go.Proofs.YtfcmhpgopihidaaDoor
open Go Go.RowKit Sh

set_option maxRecDepth 100000 in
theorem refSameReply_eq (x y : Rpv) (w : World) (hx : TR w x.p x.r.t) (hy : TR w y.p y.r.t) (he : y.r = x.r) :
    Calls Tryd.prog 33 #[.agg (pv x).toArray, .agg (pv y).toArray] w fun e w' => e = .returned (.bool true) ∧ Below w.heap.size w w' := by
  obtain ⟨yr, yp, yc⟩ := y
  obtain rfl : yr = x.r := he
  have BX := Lib.hid ((Blk.new w 29 (pv x)).alloc (.cells (pv ⟨x.r, yp, yc⟩).toArray 29))
  have BY := Lib.hid (Blk.new2 w (.cells (pv x).toArray 29) 29 (pv ⟨x.r, yp, yc⟩))
  have BW := Lib.hid (((Below.refl w.heap.size w).alloc (Nat.le_refl _) (.cells (pv x).toArray 29)).alloc (by simp) (.cells (pv ⟨x.r, yp, yc⟩).toArray 29))
  have SF_ := Lib.hid (refsame_t x.r.t.length x.c x.r.t.length yc x.p yp (gl x.r.t) (gl x.r.t) _ hx.n hy.n (hx.below BW.out).t (hy.below BW.out).t)
  rw [sameN_of rfl (fun _ _ => rfl)] at SF_
  obtain ⟨c0, c1, c2, c3, c4⟩ := pv_cells BX.out
  obtain ⟨d0, d1, d2, d3, d4⟩ := pv_cells BY.out
  dsimp only at d0 d1 d2 d3 d4
  clear BX BY hx hy
  go_enter Tryd.func33, Tryd.ntmps33
  go_wp2_with fail
  refine SF_.out.mono ?_
  rintro e w2 ⟨rfl, b2⟩
  go_wp2_with fail
  go_ret
  exact ⟨rfl, BW.out.trans (b2.mono BW.out.size)⟩
end Go.Proofs.YtfcmhpgopihidaaDoor
