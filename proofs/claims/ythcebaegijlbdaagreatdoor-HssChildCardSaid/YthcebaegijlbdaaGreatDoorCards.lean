/-
  DERIVED. GIVEN WITH THE SEED: THE CARDS: each row of YthcebaegijlbdaaGreatDoorRows.lean that lists a variable, with what it lists TIED to the program's text (the seventh form; the later family's looks); each row that meets fmt, with fmt's text TOLD by the authors' own Lean function (tested against real Go, not proved from fmt's source: count such statements apart). THE CARD IS WHAT COUNTS. Prove the row's statement (the work); the ties are given (YthcebaegijlbdaaGreatDoorTie.lean); close each card by the builder's one call (the guide's Derived/Test/ToyasCard.lean, 'card_holds'). Laid BY PROGRAM, IN A SANDBOX (cutbox-door.mjs). By AI agents, Wed Nov 11 2026. No macro, syntax, notation, axiom, sorry.
-/
import Derived.Test.YthcebaegijlbdaaGreatDoorRows
import GoSem.ClaimSeven
namespace Go.Proofs.YthcebaegijlbdaaGreatDoor
namespace Rows

/-- THE TIED CARD OF 'chirographlaw5.HssChild'. -/
def hssChildCard : Claim7 := { stood := { row := hssChildRow, standIns := [], harness := (true, "014467058e2231e454ad338b6d05f725de4d0c92bb664ead15d90cb31053d679"), looks := false }, kinds := [], alts := [], laidByText := true, laidKinds := [.data, .data], laidTests := true, laidLooks := .later }
def HssChildCardSaid : Prop := Claim7.holds Tryz.pinned (.plain (OpenSpec.ofChange hssChildSpec)) hssChildCard

/-- THE TIED CARD OF 'chirographlaw5.HssAsks'. -/
def hssAsksCard : Claim7 := { stood := { row := hssAsksRow, standIns := [], harness := (true, "014467058e2231e454ad338b6d05f725de4d0c92bb664ead15d90cb31053d679"), looks := false }, kinds := [], alts := [], laidByText := true, laidKinds := [.data, .data], laidTests := true, laidLooks := .later }
def HssAsksCardSaid : Prop := Claim7.holds Tryz.pinned (.plain (OpenSpec.ofChange hssAsksSpec)) hssAsksCard

/-- THE TIED CARD OF 'chirographlaw5.HssRaw'. -/
def hssRawCard : Claim7 := { stood := { row := hssRawRow, standIns := [], harness := (true, "014467058e2231e454ad338b6d05f725de4d0c92bb664ead15d90cb31053d679"), looks := false }, kinds := [], alts := [], laidByText := true, laidKinds := [.data, .data], laidTests := true, laidLooks := .later }
def HssRawCardSaid : Prop := Claim7.holds Tryz.pinned (.plain (OpenSpec.ofChange hssRawSpec)) hssRawCard

/-- THE TIED CARD OF 'chirographlaw5.HssForms'. -/
def hssFormsCard : Claim7 := { stood := { row := hssFormsRow, standIns := [], harness := (true, "014467058e2231e454ad338b6d05f725de4d0c92bb664ead15d90cb31053d679"), looks := false }, kinds := [], alts := [], laidByText := true, laidKinds := [.data, .data], laidTests := true, laidLooks := .later }
def HssFormsCardSaid : Prop := Claim7.holds Tryz.pinned (.plain (OpenSpec.ofChange hssFormsSpec)) hssFormsCard

/-- THE SECOND FORM's CARD OF 'chirographlaw5.HssChild'. -/
def hssChildUptoCard : Claim7 := { stood := { row := hssChildUptoRow, standIns := [], harness := (true, "014467058e2231e454ad338b6d05f725de4d0c92bb664ead15d90cb31053d679"), looks := false }, kinds := [], alts := [], laidByText := true, laidKinds := [.data, .data], laidTests := true, laidLooks := .later }
def HssChildUptoCardSaid : Prop := Claim7.holds Tryz.pinned (.plain (OpenSpec.upto hssChildSpec)) hssChildUptoCard

/-- THE SECOND FORM's CARD OF 'chirographlaw5.HssAsks'. -/
def hssAsksUptoCard : Claim7 := { stood := { row := hssAsksUptoRow, standIns := [], harness := (true, "014467058e2231e454ad338b6d05f725de4d0c92bb664ead15d90cb31053d679"), looks := false }, kinds := [], alts := [], laidByText := true, laidKinds := [.data, .data], laidTests := true, laidLooks := .later }
def HssAsksUptoCardSaid : Prop := Claim7.holds Tryz.pinned (.plain (OpenSpec.upto hssAsksSpec)) hssAsksUptoCard

/-- THE SECOND FORM's CARD OF 'chirographlaw5.HssRaw'. -/
def hssRawUptoCard : Claim7 := { stood := { row := hssRawUptoRow, standIns := [], harness := (true, "014467058e2231e454ad338b6d05f725de4d0c92bb664ead15d90cb31053d679"), looks := false }, kinds := [], alts := [], laidByText := true, laidKinds := [.data, .data], laidTests := true, laidLooks := .later }
def HssRawUptoCardSaid : Prop := Claim7.holds Tryz.pinned (.plain (OpenSpec.upto hssRawSpec)) hssRawUptoCard

/-- THE SECOND FORM's CARD OF 'chirographlaw5.HssForms'. -/
def hssFormsUptoCard : Claim7 := { stood := { row := hssFormsUptoRow, standIns := [], harness := (true, "014467058e2231e454ad338b6d05f725de4d0c92bb664ead15d90cb31053d679"), looks := false }, kinds := [], alts := [], laidByText := true, laidKinds := [.data, .data], laidTests := true, laidLooks := .later }
def HssFormsUptoCardSaid : Prop := Claim7.holds Tryz.pinned (.plain (OpenSpec.upto hssFormsSpec)) hssFormsUptoCard
end Rows
end Go.Proofs.YthcebaegijlbdaaGreatDoor
