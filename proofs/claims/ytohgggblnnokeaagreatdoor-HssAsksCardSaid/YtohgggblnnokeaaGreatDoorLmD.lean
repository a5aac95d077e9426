/-
  told of layer 4.
-/
import Derived.Test.YtohgggblnnokeaaGreatDoorLmC
namespace Go.Proofs.YtohgggblnnokeaaGreatDoor
open Go Go.RowKit Sh

end Go.Proofs.YtohgggblnnokeaaGreatDoor
