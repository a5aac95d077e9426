/-
  DERIVED. GIVEN WITH THE SEED: THE CARDS: each row of YthcebaegijlbdaaDoorRows.lean that lists a variable, with what it lists TIED to the program's text (the seventh form; the later family's looks); each row that meets fmt, with fmt's text TOLD by the authors' own Lean function (tested against real Go, not proved from fmt's source: count such statements apart). THE CARD IS WHAT COUNTS. Prove the row's statement (the work); the ties are given (YthcebaegijlbdaaDoorTie.lean); close each card by the builder's one call (the guide's Derived/Test/ToyasCard.lean, 'card_holds'). Laid BY PROGRAM, IN A SANDBOX (cutbox-door.mjs). By AI agents, Wed Nov 11 2026. No macro, syntax, notation, axiom, sorry.
-/
import Derived.Test.YthcebaegijlbdaaDoorRows
import GoSem.ClaimSeven
namespace Go.Proofs.YthcebaegijlbdaaDoor
namespace Rows

/-- THE TIED CARD OF 'chirographlaw3.OtsHolds'. -/
def otsHoldsCard : Claim7 := { stood := { row := otsHoldsRow, standIns := [], harness := (true, "a4ba792d1bc0c159c652763ff717dab853e91eaafd609940e60566b7f1dff5a0"), looks := false }, kinds := [], alts := [], laidByText := true, laidKinds := [.data, .data], laidTests := true, laidLooks := .later }
def OtsHoldsCardSaid : Prop := Claim7.holds Tryd.pinned (.plain (OpenSpec.ofChange otsHoldsSpec)) otsHoldsCard

/-- THE TIED CARD OF 'chirographlaw4.LmsPaths'. -/
def lmsPathsCard : Claim7 := { stood := { row := lmsPathsRow, standIns := [], harness := (true, "a4ba792d1bc0c159c652763ff717dab853e91eaafd609940e60566b7f1dff5a0"), looks := false }, kinds := [], alts := [], laidByText := true, laidKinds := [.data, .data], laidTests := true, laidLooks := .later }
def LmsPathsCardSaid : Prop := Claim7.holds Tryd.pinned (.plain (OpenSpec.ofChange lmsPathsSpec)) lmsPathsCard

/-- THE SECOND FORM's CARD OF 'chirographlaw3.OtsHolds'. -/
def otsHoldsUptoCard : Claim7 := { stood := { row := otsHoldsUptoRow, standIns := [], harness := (true, "a4ba792d1bc0c159c652763ff717dab853e91eaafd609940e60566b7f1dff5a0"), looks := false }, kinds := [], alts := [], laidByText := true, laidKinds := [.data, .data], laidTests := true, laidLooks := .later }
def OtsHoldsUptoCardSaid : Prop := Claim7.holds Tryd.pinned (.plain (OpenSpec.upto otsHoldsSpec)) otsHoldsUptoCard

/-- THE SECOND FORM's CARD OF 'chirographlaw4.LmsPaths'. -/
def lmsPathsUptoCard : Claim7 := { stood := { row := lmsPathsUptoRow, standIns := [], harness := (true, "a4ba792d1bc0c159c652763ff717dab853e91eaafd609940e60566b7f1dff5a0"), looks := false }, kinds := [], alts := [], laidByText := true, laidKinds := [.data, .data], laidTests := true, laidLooks := .later }
def LmsPathsUptoCardSaid : Prop := Claim7.holds Tryd.pinned (.plain (OpenSpec.upto lmsPathsSpec)) lmsPathsUptoCard
end Rows
end Go.Proofs.YthcebaegijlbdaaDoor
