/-
  DERIVED. GIVEN WITH THE SEED: THE CARDS: each row of YtlipjglehongeabGreatDoorRows.lean that lists a variable, with what it lists TIED to the program's text (the seventh form; the later family's looks); each row that meets fmt, with fmt's text TOLD by the authors' own Lean function (tested against real Go, not proved from fmt's source: count such statements apart). THE CARD IS WHAT COUNTS. Prove the row's statement (the work); the ties are given (YtlipjglehongeabGreatDoorTie.lean); close each card by the builder's one call (the guide's Derived/Test/ToyasCard.lean, 'card_holds'). Laid BY PROGRAM, IN A SANDBOX (cutbox-door.mjs). By AI agents, Wed Nov 11 2026. No macro, syntax, notation, axiom, sorry.
-/
import Derived.Test.YtlipjglehongeabGreatDoorRows
import GoSem.ClaimSeven
namespace Go.Proofs.YtlipjglehongeabGreatDoor
namespace Rows

/-- THE TIED CARD OF 'chirographlaw13.VoteBack'. -/
def voteBackCard : Claim7 := { stood := { row := voteBackRow, standIns := [], harness := (true, "00e0d1baabe5f45f7f543a9024a39933203895a1ba4d94118cf1dd42cbc9116b"), looks := false }, kinds := [], alts := [], laidByText := true, laidKinds := [.data, .data], laidTests := true, laidLooks := .later }
def VoteBackCardSaid : Prop := Claim7.holds Tryz.pinned (.plain (OpenSpec.ofChange voteBackSpec)) voteBackCard

/-- THE TIED CARD OF 'chirographlaw13.VoteTexts'. -/
def voteTextsCard : Claim7 := { stood := { row := voteTextsRow, standIns := [], harness := (true, "00e0d1baabe5f45f7f543a9024a39933203895a1ba4d94118cf1dd42cbc9116b"), looks := false }, kinds := [], alts := [], laidByText := true, laidKinds := [.data, .data], laidTests := true, laidLooks := .later }
def VoteTextsCardSaid : Prop := Claim7.holds Tryz.pinned (.plain (OpenSpec.ofChange voteTextsSpec)) voteTextsCard

/-- THE SECOND FORM's CARD OF 'chirographlaw13.VoteBack'. -/
def voteBackUptoCard : Claim7 := { stood := { row := voteBackUptoRow, standIns := [], harness := (true, "00e0d1baabe5f45f7f543a9024a39933203895a1ba4d94118cf1dd42cbc9116b"), looks := false }, kinds := [], alts := [], laidByText := true, laidKinds := [.data, .data], laidTests := true, laidLooks := .later }
def VoteBackUptoCardSaid : Prop := Claim7.holds Tryz.pinned (.plain (OpenSpec.upto voteBackSpec)) voteBackUptoCard

/-- THE SECOND FORM's CARD OF 'chirographlaw13.VoteTexts'. -/
def voteTextsUptoCard : Claim7 := { stood := { row := voteTextsUptoRow, standIns := [], harness := (true, "00e0d1baabe5f45f7f543a9024a39933203895a1ba4d94118cf1dd42cbc9116b"), looks := false }, kinds := [], alts := [], laidByText := true, laidKinds := [.data, .data], laidTests := true, laidLooks := .later }
def VoteTextsUptoCardSaid : Prop := Claim7.holds Tryz.pinned (.plain (OpenSpec.upto voteTextsSpec)) voteTextsUptoCard
end Rows
end Go.Proofs.YtlipjglehongeabGreatDoor
