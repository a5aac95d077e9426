/-
  PACKAGE space: act.
-/
import Derived.Test.YtphgognhjdbdjaaGreatDoorSpQr
namespace Go.Proofs.YtphgognhjdbdjaaGreatDoor
open Go Go.RowKit Sh

end Go.Proofs.YtphgognhjdbdjaaGreatDoor
