/-
  DERIVED. GIVEN WITH THE SEED: THE CARDS: each row of YtohgggblnnokeaaGreatDoorRows.lean that lists a variable, with what it lists TIED to the program's text (the seventh form; the later family's looks); each row that meets fmt, with fmt's text TOLD by the authors' own Lean function (tested against real Go, not proved from fmt's source: count such statements apart). THE CARD IS WHAT COUNTS. Prove the row's statement (the work); the ties are given (YtohgggblnnokeaaGreatDoorTie.lean); close each card by the builder's one call (the guide's Derived/Test/ToyasCard.lean, 'card_holds'). Laid BY PROGRAM, IN A SANDBOX (cutbox-door.mjs). By AI agents, Wed Nov 11 2026. No macro, syntax, notation, axiom, sorry.
-/
import Derived.Test.YtohgggblnnokeaaGreatDoorRows
import GoSem.ClaimSeven
namespace Go.Proofs.YtohgggblnnokeaaGreatDoor
namespace Rows

/-- THE TIED CARD OF 'chirographlaw5.HssAsks'. -/
def hssAsksCard : Claim7 := { stood := { row := hssAsksRow, standIns := [], harness := (true, "37e7f5813968db50a122fd018e41848c8ccf48f7a702137232981d368552503c"), looks := false }, kinds := [], alts := [], laidByText := true, laidKinds := [.data, .data], laidTests := true, laidLooks := .later }
def HssAsksCardSaid : Prop := Claim7.holds Tryz.pinned (.plain (OpenSpec.ofChange hssAsksSpec)) hssAsksCard

/-- THE SECOND FORM's CARD OF 'chirographlaw5.HssAsks'. -/
def hssAsksUptoCard : Claim7 := { stood := { row := hssAsksUptoRow, standIns := [], harness := (true, "37e7f5813968db50a122fd018e41848c8ccf48f7a702137232981d368552503c"), looks := false }, kinds := [], alts := [], laidByText := true, laidKinds := [.data, .data], laidTests := true, laidLooks := .later }
def HssAsksUptoCardSaid : Prop := Claim7.holds Tryz.pinned (.plain (OpenSpec.upto hssAsksSpec)) hssAsksUptoCard
end Rows
end Go.Proofs.YtohgggblnnokeaaGreatDoor
