/-
  DERIVED. GIVEN WITH THE SEED: THE CARDS: each row of YtjlophplcmidlaaGreatDoorRows.lean that lists a variable, with what it lists TIED to the program's text (the seventh form; the later family's looks); each row that meets fmt, with fmt's text TOLD by the authors' own Lean function (tested against real Go, not proved from fmt's source: count such statements apart). THE CARD IS WHAT COUNTS. Prove the row's statement (the work); the ties are given (YtjlophplcmidlaaGreatDoorTie.lean); close each card by the builder's one call (the guide's Derived/Test/ToyasCard.lean, 'card_holds'). Laid BY PROGRAM, IN A SANDBOX (cutbox-door.mjs). By AI agents, Wed Nov 11 2026. No macro, syntax, notation, axiom, sorry.
-/
import Derived.Test.YtjlophplcmidlaaGreatDoorRows
import GoSem.ClaimSeven
namespace Go.Proofs.YtjlophplcmidlaaGreatDoor
namespace Rows

/-- THE TIED CARD OF 'chirographlaw13.VoteChecks'. -/
def voteChecksCard : Claim7 := { stood := { row := voteChecksRow, standIns := [], harness := (true, "c2981fcf1c9f9865ada0646da5d7ee80f83676b373963f6dec3e44f942490359"), looks := false }, kinds := [], alts := [], laidByText := true, laidKinds := [.data, .data], laidTests := true, laidLooks := .later }
def VoteChecksCardSaid : Prop := Claim7.holds Tryz.pinned (.plain (OpenSpec.ofChange voteChecksSpec)) voteChecksCard

/-- THE TIED CARD OF 'chirographlaw13.VoteElse'. -/
def voteElseCard : Claim7 := { stood := { row := voteElseRow, standIns := [], harness := (true, "c2981fcf1c9f9865ada0646da5d7ee80f83676b373963f6dec3e44f942490359"), looks := false }, kinds := [], alts := [], laidByText := true, laidKinds := [.data, .data], laidTests := true, laidLooks := .later }
def VoteElseCardSaid : Prop := Claim7.holds Tryz.pinned (.plain (OpenSpec.ofChange voteElseSpec)) voteElseCard

/-- THE SECOND FORM's CARD OF 'chirographlaw13.VoteChecks'. -/
def voteChecksUptoCard : Claim7 := { stood := { row := voteChecksUptoRow, standIns := [], harness := (true, "c2981fcf1c9f9865ada0646da5d7ee80f83676b373963f6dec3e44f942490359"), looks := false }, kinds := [], alts := [], laidByText := true, laidKinds := [.data, .data], laidTests := true, laidLooks := .later }
def VoteChecksUptoCardSaid : Prop := Claim7.holds Tryz.pinned (.plain (OpenSpec.upto voteChecksSpec)) voteChecksUptoCard

/-- THE SECOND FORM's CARD OF 'chirographlaw13.VoteElse'. -/
def voteElseUptoCard : Claim7 := { stood := { row := voteElseUptoRow, standIns := [], harness := (true, "c2981fcf1c9f9865ada0646da5d7ee80f83676b373963f6dec3e44f942490359"), looks := false }, kinds := [], alts := [], laidByText := true, laidKinds := [.data, .data], laidTests := true, laidLooks := .later }
def VoteElseUptoCardSaid : Prop := Claim7.holds Tryz.pinned (.plain (OpenSpec.upto voteElseSpec)) voteElseUptoCard
end Rows
end Go.Proofs.YtjlophplcmidlaaGreatDoor
