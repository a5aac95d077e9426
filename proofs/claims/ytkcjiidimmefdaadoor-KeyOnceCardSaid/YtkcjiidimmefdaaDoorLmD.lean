/-
  told of layer 4.
-/
import Derived.Test.YtkcjiidimmefdaaDoorLmC
namespace Go.Proofs.YtkcjiidimmefdaaDoor
open Go Go.RowKit Sh

end Go.Proofs.YtkcjiidimmefdaaDoor
