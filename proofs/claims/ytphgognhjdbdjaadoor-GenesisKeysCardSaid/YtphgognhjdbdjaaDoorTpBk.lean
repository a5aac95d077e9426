/-
  PACKAGE tuple: equality of fields; takes.
-/
import Derived.Test.YtphgognhjdbdjaaDoorTpAk
import Derived.Laws.StructEq
namespace Go.Proofs.YtphgognhjdbdjaaDoor
open Go Go.RowKit Sh

/-- Are they the same, in all parts? -/
def sameF (a b : Fld) : Bool := (a.k == b.k) && ((a.n == b.n) && (a.s.toList == b.s.toList))
/-- Does a template's field match a tuple's? -/
def takesB (p t : Fld) : Bool := if p.k = 3 then t.k == 1 else if p.k = 4 then t.k == 2 else if p.k = 5 then true else sameF p t

end Go.Proofs.YtphgognhjdbdjaaDoor
