/-
  PACKAGE space: Do.
-/
import Derived.Test.YtphgognhjdbdjaaDoorSpTk
namespace Go.Proofs.YtphgognhjdbdjaaDoor
open Go Go.RowKit Sh

theorem SF.low {B B' : Nat} {W : World} {x : Spv} (h : SF B W x) (hb : B' ≤ B) : SF B' W x :=
  ⟨own_base h.its (fun k hk => Nat.le_trans hb (h.its.lt k hk).1), fun y hy => (h.it y hy).low hb, own_base h.wts (fun k hk => Nat.le_trans hb (h.wts.lt k hk).1), fun y hy => (h.wt y hy).low hb, h.l4, fun y hy => (h.la y hy).low hb⟩
end Go.Proofs.YtphgognhjdbdjaaDoor
