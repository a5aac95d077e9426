/-
  told of layer 4.
-/
import Derived.Test.YtkcjiidimmefdaaGreatDoorLmC
namespace Go.Proofs.YtkcjiidimmefdaaGreatDoor
open Go Go.RowKit Sh

end Go.Proofs.YtkcjiidimmefdaaGreatDoor
