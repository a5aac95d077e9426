/-
  DERIVED. GIVEN WITH THE SEED: THE CARDS: each row of YtkcjiidimmefdaaDoorRows.lean that lists a variable, with what it lists TIED to the program's text (the seventh form; the later family's looks); each row that meets fmt, with fmt's text TOLD by the authors' own Lean function (tested against real Go, not proved from fmt's source: count such statements apart). THE CARD IS WHAT COUNTS. Prove the row's statement (the work); the ties are given (YtkcjiidimmefdaaDoorTie.lean); close each card by the builder's one call (the guide's Derived/Test/ToyasCard.lean, 'card_holds'). Laid BY PROGRAM, IN A SANDBOX (cutbox-door.mjs). By AI agents, Wed Nov 11 2026. No macro, syntax, notation, axiom, sorry.
-/
import Derived.Test.YtkcjiidimmefdaaDoorRows
import GoSem.ClaimSeven
namespace Go.Proofs.YtkcjiidimmefdaaDoor
namespace Rows

/-- THE TIED CARD OF 'chirographlaw15.KeyEnds'. -/
def keyEndsCard : Claim7 := { stood := { row := keyEndsRow, standIns := [], harness := (true, "9815e18d7da0086fa7a8062d10da48660c48b45fbcb08d10a8071da341f2cb87"), looks := false }, kinds := [], alts := [], laidByText := true, laidKinds := [.data, .data], laidTests := true, laidLooks := .later }
def KeyEndsCardSaid : Prop := Claim7.holds Tryd.pinned (.plain (OpenSpec.ofChange keyEndsSpec)) keyEndsCard

/-- THE TIED CARD OF 'chirographlaw15.KeyOnce'. -/
def keyOnceCard : Claim7 := { stood := { row := keyOnceRow, standIns := [], harness := (true, "9815e18d7da0086fa7a8062d10da48660c48b45fbcb08d10a8071da341f2cb87"), looks := false }, kinds := [], alts := [], laidByText := true, laidKinds := [.data, .data], laidTests := true, laidLooks := .later }
def KeyOnceCardSaid : Prop := Claim7.holds Tryd.pinned (.plain (OpenSpec.ofChange keyOnceSpec)) keyOnceCard

/-- THE SECOND FORM's CARD OF 'chirographlaw15.KeyEnds'. -/
def keyEndsUptoCard : Claim7 := { stood := { row := keyEndsUptoRow, standIns := [], harness := (true, "9815e18d7da0086fa7a8062d10da48660c48b45fbcb08d10a8071da341f2cb87"), looks := false }, kinds := [], alts := [], laidByText := true, laidKinds := [.data, .data], laidTests := true, laidLooks := .later }
def KeyEndsUptoCardSaid : Prop := Claim7.holds Tryd.pinned (.plain (OpenSpec.upto keyEndsSpec)) keyEndsUptoCard

/-- THE SECOND FORM's CARD OF 'chirographlaw15.KeyOnce'. -/
def keyOnceUptoCard : Claim7 := { stood := { row := keyOnceUptoRow, standIns := [], harness := (true, "9815e18d7da0086fa7a8062d10da48660c48b45fbcb08d10a8071da341f2cb87"), looks := false }, kinds := [], alts := [], laidByText := true, laidKinds := [.data, .data], laidTests := true, laidLooks := .later }
def KeyOnceUptoCardSaid : Prop := Claim7.holds Tryd.pinned (.plain (OpenSpec.upto keyOnceSpec)) keyOnceUptoCard
end Rows
end Go.Proofs.YtkcjiidimmefdaaDoor
