/-
  PACKAGE tuple: Match, Same.
-/
import Derived.Test.YtphgognhjdbdjaaDoorTpDk
namespace Go.Proofs.YtphgognhjdbdjaaDoor
open Go Go.RowKit Sh

def sameN (n : Nat) (G : Nat → Fld) (m : Nat) (H : Nat → Fld) : Bool := decide (n = m) && allN (fun j => sameF (G j) (H j)) n
def matchN (n : Nat) (G : Nat → Fld) (m : Nat) (H : Nat → Fld) : Bool := mayP n G && (mayV m H && (decide (n = m) && allN (fun j => takesB (G j) (H j)) n))
/-- Two rows, and the cell of the second one's slice. -/
structure Two (w0 W : World) (p : Option Addr) (n : Nat) (G : Nat → Fld) (q : Option Addr) (m c : Nat) (H : Nat → Fld) (g : Nat) : Prop where
  r1 : Rw W p n G
  r2 : Rw W q m H
  at_ : W.cell? ⟨g, 0, none⟩ = some (.slice q m c)
  lt : g < W.heap.size
  bel : Below w0.heap.size w0 W
theorem Two.below {w0 W W' : World} {p : Option Addr} {n : Nat} {G : Nat → Fld} {q : Option Addr} {m c : Nat} {H : Nat → Fld} {g : Nat} (h : Two w0 W p n G q m c H g) (hb : Below W.heap.size W W') : Two w0 W' p n G q m c H g :=
  ⟨h.r1.below hb, h.r2.below hb, (hb.cell (p := ⟨g, 0, none⟩) h.lt).trans h.at_, Nat.lt_of_lt_of_le h.lt hb.size, h.bel.trans (hb.mono h.bel.size)⟩
end Go.Proofs.YtphgognhjdbdjaaDoor
