/-
  THE LAW SpaceAsks.
-/
import Derived.Test.YtojianpbjckipaaDoorSrK
import Derived.Test.YtojianpbjckipaaDoorSpFew
import Derived.Test.YtojianpbjckipaaDoorSpY
namespace Go.Proofs.YtojianpbjckipaaDoor
open Go Go.RowKit Sh

theorem do_len {s : Sp} (hs : s.wts.length ≤ 1000) (now : Int) (r : Rq) : (doP s now r).2.length ≤ 1001 := by
  unfold doP
  split
  · exact Nat.zero_le _
  · dsimp only
    split
    · exact Nat.le_add_left 1 1000
    · split
      · exact Nat.le_add_left 1 1000
      · unfold answP
        dsimp only
        split
        · rename_i hb
          have h1 := (wake_le (qp r).t (noteP (actP (goOnP s now) (qp r)).1 (actP (goOnP s now) (qp r)).2.1).wts).1
          have h2 : (noteP (actP (goOnP s now) (qp r)).1 (actP (goOnP s now) (qp r)).2.1).wts = s.wts := by
            rcases act_puts hb with e | ⟨k, e⟩
            · rw [e]; rfl
            · rw [e]; rfl
          rw [h2] at h1
          show (wakeP (qp r).t (noteP (actP (goOnP s now) (qp r)).1 (actP (goOnP s now) (qp r)).2.1).wts).2.1.length + 1 ≤ 1001
          rw [h2]
          omega
        · exact Nat.le_add_left 1 1000
theorem do_small {s : Sp} (hs : Small s) (now : Int) (r : Rq) : Small (doP s now r).1 := by
  cases h : okDo s now r with
  | false => rw [do_no h]; exact hs
  | true => exact (do_ok (okDo_h h).1 now r).1.small
structure AS (w0 W : World) (x y : Spv) (r : Rv) : Prop where
  a : Blk W w0.heap.size 31 (sv x)
  b : Blk W (w0.heap.size + 1) 31 (sv y)
  c : Blk W (w0.heap.size + 2) 35 (rv r)
  rx : SpW W x
  ry : SpW W y
  rr : RvW W r
  bel : Below w0.heap.size w0 W
theorem AS.below {w0 W W' : World} {x y : Spv} {r : Rv} (h : AS w0 W x y r) (hb : Below W.heap.size W W') : AS w0 W' x y r :=
  ⟨h.a.below hb h.a.lt, h.b.below hb h.b.lt, h.c.below hb h.c.lt, h.rx.below hb, h.ry.below hb, h.rr.below hb, h.bel.trans (hb.mono h.bel.size)⟩
end Go.Proofs.YtojianpbjckipaaDoor
