/-
  PACKAGE space: the library's Delete of one element of a row of the call's own.
-/
import Derived.Test.YtphgognhjdbdjaaDoorSpJk
namespace Go.Proofs.YtphgognhjdbdjaaDoor
open Go Go.RowKit Sh

section
variable {P : Program} {ops : Array Oper} {o : Oper} {a : Act} {w : World} {Q : Exit → Act → World → Prop} {sz : Nat}
end
end Go.Proofs.YtphgognhjdbdjaaDoor
