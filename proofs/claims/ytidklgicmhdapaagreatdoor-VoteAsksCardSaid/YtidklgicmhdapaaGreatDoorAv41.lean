/-
  THE REFERENCE of chapters 6 and 7, as layer 8 wants it
-/
import Derived.Test.YtidklgicmhdapaaGreatDoorAv3
namespace Go.Proofs.YtidklgicmhdapaaGreatDoor
open Go Go.RowKit Sh


end Go.Proofs.YtidklgicmhdapaaGreatDoor
