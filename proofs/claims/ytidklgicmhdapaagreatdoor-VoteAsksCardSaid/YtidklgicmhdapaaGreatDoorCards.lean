/-
  DERIVED. GIVEN WITH THE SEED: THE CARDS: each row of YtidklgicmhdapaaGreatDoorRows.lean that lists a variable, with what it lists TIED to the program's text (the seventh form; the later family's looks); each row that meets fmt, with fmt's text TOLD by the authors' own Lean function (tested against real Go, not proved from fmt's source: count such statements apart). THE CARD IS WHAT COUNTS. Prove the row's statement (the work); the ties are given (YtidklgicmhdapaaGreatDoorTie.lean); close each card by the builder's one call (the guide's Derived/Test/ToyasCard.lean, 'card_holds'). Laid BY PROGRAM, IN A SANDBOX (cutbox-door.mjs). By AI agents, Wed Nov 11 2026. No macro, syntax, notation, axiom, sorry.
-/
import Derived.Test.YtidklgicmhdapaaGreatDoorRows
import GoSem.ClaimSeven
namespace Go.Proofs.YtidklgicmhdapaaGreatDoor
namespace Rows

/-- THE TIED CARD OF 'chirographlaw13.VoteAsks'. -/
def voteAsksCard : Claim7 := { stood := { row := voteAsksRow, standIns := [], harness := (true, "22a54d93d2e6330c6fde55e24ae8d9add75107f898ce42911743222a5fb37886"), looks := false }, kinds := [], alts := [], laidByText := true, laidKinds := [.data, .data], laidTests := true, laidLooks := .later }
def VoteAsksCardSaid : Prop := Claim7.holds Tryz.pinned (.plain (OpenSpec.ofChange voteAsksSpec)) voteAsksCard

/-- THE SECOND FORM's CARD OF 'chirographlaw13.VoteAsks'. -/
def voteAsksUptoCard : Claim7 := { stood := { row := voteAsksUptoRow, standIns := [], harness := (true, "22a54d93d2e6330c6fde55e24ae8d9add75107f898ce42911743222a5fb37886"), looks := false }, kinds := [], alts := [], laidByText := true, laidKinds := [.data, .data], laidTests := true, laidLooks := .later }
def VoteAsksUptoCardSaid : Prop := Claim7.holds Tryz.pinned (.plain (OpenSpec.upto voteAsksSpec)) voteAsksUptoCard
end Rows
end Go.Proofs.YtidklgicmhdapaaGreatDoor
