/-
  PACKAGE space: the library's Delete of one element of a row of the call's own; count, owned.
-/
import Derived.Test.YtphgognhjdbdjaaDoorSpIk
import Derived.ArgAppend
namespace Go.Proofs.YtphgognhjdbdjaaDoor
open Go Go.RowKit Sh

end Go.Proofs.YtphgognhjdbdjaaDoor
