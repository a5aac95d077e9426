/-
  PACKAGE space: act.
-/
import Derived.Test.YtphgognhjdbdjaaGreatDoorSpQq
namespace Go.Proofs.YtphgognhjdbdjaaGreatDoor
open Go Go.RowKit Sh

def casP (s : Sp) (r : Qp) : Option Nat → Sp × Rp × Bool
  | some _ => (s, tellP r 3, false)
  | none => (s, bringP s r)
theorem actP_o {s : Sp} {r : Qp} (h : allowP s r = true) : actP s r = if r.kd = 1 then (s, bringP s r) else if r.kd = 6 then casP s r (fnd r.p s.its) else if r.kd = 7 then replP s r (fnd r.p s.its) else if r.kd = 8 then (s, tellP r 1, false) else ((lookP s r (fnd r.p s.its)).1, (lookP s r (fnd r.p s.its)).2, false) := by
  unfold actP casP
  rw [if_neg (by rw [h]; decide)]
  cases fnd r.p s.its <;> rfl
end Go.Proofs.YtphgognhjdbdjaaGreatDoor
