/-
  PACKAGE space: the library's Delete of one element of a row of the call's own; count, owned.
-/
import Derived.Test.YtphgognhjdbdjaaGreatDoorSpIr
import Derived.ArgAppend
namespace Go.Proofs.YtphgognhjdbdjaaGreatDoor
open Go Go.RowKit Sh

end Go.Proofs.YtphgognhjdbdjaaGreatDoor
