/-
  DERIVED. GIVEN WITH THE SEED: THE CARDS: each row of YtigbnjgmdgkgjaaGreatDoorRows.lean that lists a variable, with what it lists TIED to the program's text (the seventh form; the later family's looks); each row that meets fmt, with fmt's text TOLD by the authors' own Lean function (tested against real Go, not proved from fmt's source: count such statements apart). THE CARD IS WHAT COUNTS. Prove the row's statement (the work); the ties are given (YtigbnjgmdgkgjaaGreatDoorTie.lean); close each card by the builder's one call (the guide's Derived/Test/ToyasCard.lean, 'card_holds'). Laid BY PROGRAM, IN A SANDBOX (cutbox-door.mjs). By AI agents, Wed Nov 11 2026. No macro, syntax, notation, axiom, sorry.
-/
import Derived.Test.YtigbnjgmdgkgjaaGreatDoorRows
import GoSem.ClaimSeven
namespace Go.Proofs.YtigbnjgmdgkgjaaGreatDoor
namespace Rows

/-- THE TIED CARD OF 'chirographlaw4.LmsAsks'. -/
def lmsAsksCard : Claim7 := { stood := { row := lmsAsksRow, standIns := [], harness := (true, "1f4d6ccc3393e64df74e4b2c35267fd5f3180e1e561fc97c1e1d11d3ab9f8295"), looks := false }, kinds := [], alts := [], laidByText := true, laidKinds := [.data, .data], laidTests := true, laidLooks := .later }
def LmsAsksCardSaid : Prop := Claim7.holds Tryz.pinned (.plain (OpenSpec.ofChange lmsAsksSpec)) lmsAsksCard

/-- THE TIED CARD OF 'chirographlaw5.HssAsks'. -/
def hssAsksCard : Claim7 := { stood := { row := hssAsksRow, standIns := [], harness := (true, "1f4d6ccc3393e64df74e4b2c35267fd5f3180e1e561fc97c1e1d11d3ab9f8295"), looks := false }, kinds := [], alts := [], laidByText := true, laidKinds := [.data, .data], laidTests := true, laidLooks := .later }
def HssAsksCardSaid : Prop := Claim7.holds Tryz.pinned (.plain (OpenSpec.ofChange hssAsksSpec)) hssAsksCard

/-- THE TIED CARD OF 'chirographlaw5.HssForms'. -/
def hssFormsCard : Claim7 := { stood := { row := hssFormsRow, standIns := [], harness := (true, "1f4d6ccc3393e64df74e4b2c35267fd5f3180e1e561fc97c1e1d11d3ab9f8295"), looks := false }, kinds := [], alts := [], laidByText := true, laidKinds := [.data, .data], laidTests := true, laidLooks := .later }
def HssFormsCardSaid : Prop := Claim7.holds Tryz.pinned (.plain (OpenSpec.ofChange hssFormsSpec)) hssFormsCard

/-- THE SECOND FORM's CARD OF 'chirographlaw4.LmsAsks'. -/
def lmsAsksUptoCard : Claim7 := { stood := { row := lmsAsksUptoRow, standIns := [], harness := (true, "1f4d6ccc3393e64df74e4b2c35267fd5f3180e1e561fc97c1e1d11d3ab9f8295"), looks := false }, kinds := [], alts := [], laidByText := true, laidKinds := [.data, .data], laidTests := true, laidLooks := .later }
def LmsAsksUptoCardSaid : Prop := Claim7.holds Tryz.pinned (.plain (OpenSpec.upto lmsAsksSpec)) lmsAsksUptoCard

/-- THE SECOND FORM's CARD OF 'chirographlaw5.HssAsks'. -/
def hssAsksUptoCard : Claim7 := { stood := { row := hssAsksUptoRow, standIns := [], harness := (true, "1f4d6ccc3393e64df74e4b2c35267fd5f3180e1e561fc97c1e1d11d3ab9f8295"), looks := false }, kinds := [], alts := [], laidByText := true, laidKinds := [.data, .data], laidTests := true, laidLooks := .later }
def HssAsksUptoCardSaid : Prop := Claim7.holds Tryz.pinned (.plain (OpenSpec.upto hssAsksSpec)) hssAsksUptoCard

/-- THE SECOND FORM's CARD OF 'chirographlaw5.HssForms'. -/
def hssFormsUptoCard : Claim7 := { stood := { row := hssFormsUptoRow, standIns := [], harness := (true, "1f4d6ccc3393e64df74e4b2c35267fd5f3180e1e561fc97c1e1d11d3ab9f8295"), looks := false }, kinds := [], alts := [], laidByText := true, laidKinds := [.data, .data], laidTests := true, laidLooks := .later }
def HssFormsUptoCardSaid : Prop := Claim7.holds Tryz.pinned (.plain (OpenSpec.upto hssFormsSpec)) hssFormsUptoCard
end Rows
end Go.Proofs.YtigbnjgmdgkgjaaGreatDoor
