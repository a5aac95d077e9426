/-
  PACKAGE space: act.
-/
import Derived.Test.YtphgognhjdbdjaaDoorSpQk
namespace Go.Proofs.YtphgognhjdbdjaaDoor
open Go Go.RowKit Sh

end Go.Proofs.YtphgognhjdbdjaaDoor
