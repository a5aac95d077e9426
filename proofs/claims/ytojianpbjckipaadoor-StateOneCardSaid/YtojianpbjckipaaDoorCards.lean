/-
  DERIVED. GIVEN WITH THE SEED: THE CARDS: each row of YtojianpbjckipaaDoorRows.lean that lists a variable, with what it lists TIED to the program's text (the seventh form; the later family's looks); each row that meets fmt, with fmt's text TOLD by the authors' own Lean function (tested against real Go, not proved from fmt's source: count such statements apart). THE CARD IS WHAT COUNTS. Prove the row's statement (the work); the ties are given (YtojianpbjckipaaDoorTie.lean); close each card by the builder's one call (the guide's Derived/Test/ToyasCard.lean, 'card_holds'). Laid BY PROGRAM, IN A SANDBOX (cutbox-door.mjs). By AI agents, Wed Nov 11 2026. No macro, syntax, notation, axiom, sorry.
-/
import Derived.Test.YtojianpbjckipaaDoorRows
import GoSem.ClaimSeven
namespace Go.Proofs.YtojianpbjckipaaDoor
namespace Rows

/-- THE TIED CARD OF 'chirographlaw8.SpacePlays'. -/
def spacePlaysCard : Claim7 := { stood := { row := spacePlaysRow, standIns := [], harness := (true, "e0ff22505beb3d73255c90a839089cce06654532944fd00a9f1a5a7ed501abf1"), looks := false }, kinds := [], alts := [], laidByText := true, laidKinds := [.data], laidTests := true, laidLooks := .later }
def SpacePlaysCardSaid : Prop := Claim7.holds Tryd.pinned (.plain (OpenSpec.ofChange spacePlaysSpec)) spacePlaysCard

/-- THE TIED CARD OF 'chirographlaw9.StateOne'. -/
def stateOneCard : Claim7 := { stood := { row := stateOneRow, standIns := [], harness := (true, "e0ff22505beb3d73255c90a839089cce06654532944fd00a9f1a5a7ed501abf1"), looks := false }, kinds := [], alts := [], laidByText := true, laidKinds := [.data], laidTests := true, laidLooks := .later }
def StateOneCardSaid : Prop := Claim7.holds Tryd.pinned (.plain (OpenSpec.ofChange stateOneSpec)) stateOneCard

/-- THE SECOND FORM's CARD OF 'chirographlaw8.SpacePlays'. -/
def spacePlaysUptoCard : Claim7 := { stood := { row := spacePlaysUptoRow, standIns := [], harness := (true, "e0ff22505beb3d73255c90a839089cce06654532944fd00a9f1a5a7ed501abf1"), looks := false }, kinds := [], alts := [], laidByText := true, laidKinds := [.data], laidTests := true, laidLooks := .later }
def SpacePlaysUptoCardSaid : Prop := Claim7.holds Tryd.pinned (.plain (OpenSpec.upto spacePlaysSpec)) spacePlaysUptoCard

/-- THE SECOND FORM's CARD OF 'chirographlaw9.StateOne'. -/
def stateOneUptoCard : Claim7 := { stood := { row := stateOneUptoRow, standIns := [], harness := (true, "e0ff22505beb3d73255c90a839089cce06654532944fd00a9f1a5a7ed501abf1"), looks := false }, kinds := [], alts := [], laidByText := true, laidKinds := [.data], laidTests := true, laidLooks := .later }
def StateOneUptoCardSaid : Prop := Claim7.holds Tryd.pinned (.plain (OpenSpec.upto stateOneSpec)) stateOneUptoCard
end Rows
end Go.Proofs.YtojianpbjckipaaDoor
