/-
  DERIVED. GIVEN WITH THE SEED: THE CARDS: each row of YtlipjglehongeaaGreatDoorRows.lean that lists a variable, with what it lists TIED to the program's text (the seventh form; the later family's looks); each row that meets fmt, with fmt's text TOLD by the authors' own Lean function (tested against real Go, not proved from fmt's source: count such statements apart). THE CARD IS WHAT COUNTS. Prove the row's statement (the work); the ties are given (YtlipjglehongeaaGreatDoorTie.lean); close each card by the builder's one call (the guide's Derived/Test/ToyasCard.lean, 'card_holds'). Laid BY PROGRAM, IN A SANDBOX (cutbox-door.mjs). By AI agents, Wed Nov 11 2026. No macro, syntax, notation, axiom, sorry.
-/
import Derived.Test.YtlipjglehongeaaGreatDoorRows
import GoSem.ClaimSeven
namespace Go.Proofs.YtlipjglehongeaaGreatDoor
namespace Rows

/-- THE TIED CARD OF 'chirographlaw10.GenesisAsks'. -/
def genesisAsksCard : Claim7 := { stood := { row := genesisAsksRow, standIns := [], harness := (true, "afd19832e7ba2a61aa3f9df6923608f805f8086fd505910a7fb41c11259a1ae3"), looks := false }, kinds := [], alts := [], laidByText := true, laidKinds := [.data, .data], laidTests := true, laidLooks := .later }
def GenesisAsksCardSaid : Prop := Claim7.holds Tryz.pinned (.plain (OpenSpec.ofChange genesisAsksSpec)) genesisAsksCard

/-- THE TIED CARD OF 'chirographlaw10.GenesisBack'. -/
def genesisBackCard : Claim7 := { stood := { row := genesisBackRow, standIns := [], harness := (true, "afd19832e7ba2a61aa3f9df6923608f805f8086fd505910a7fb41c11259a1ae3"), looks := false }, kinds := [], alts := [], laidByText := true, laidKinds := [.data, .data], laidTests := true, laidLooks := .later }
def GenesisBackCardSaid : Prop := Claim7.holds Tryz.pinned (.plain (OpenSpec.ofChange genesisBackSpec)) genesisBackCard

/-- THE TIED CARD OF 'chirographlaw11.EntryAsks'. -/
def entryAsksCard : Claim7 := { stood := { row := entryAsksRow, standIns := [], harness := (true, "afd19832e7ba2a61aa3f9df6923608f805f8086fd505910a7fb41c11259a1ae3"), looks := false }, kinds := [], alts := [], laidByText := true, laidKinds := [.data, .data], laidTests := true, laidLooks := .later }
def EntryAsksCardSaid : Prop := Claim7.holds Tryz.pinned (.plain (OpenSpec.ofChange entryAsksSpec)) entryAsksCard

/-- THE TIED CARD OF 'chirographlaw11.EntryBack'. -/
def entryBackCard : Claim7 := { stood := { row := entryBackRow, standIns := [], harness := (true, "afd19832e7ba2a61aa3f9df6923608f805f8086fd505910a7fb41c11259a1ae3"), looks := false }, kinds := [], alts := [], laidByText := true, laidKinds := [.data], laidTests := true, laidLooks := .later }
def EntryBackCardSaid : Prop := Claim7.holds Tryz.pinned (.plain (OpenSpec.ofChange entryBackSpec)) entryBackCard

/-- THE TIED CARD OF 'chirographlaw11.EntryOne'. -/
def entryOneCard : Claim7 := { stood := { row := entryOneRow, standIns := [], harness := (true, "afd19832e7ba2a61aa3f9df6923608f805f8086fd505910a7fb41c11259a1ae3"), looks := false }, kinds := [], alts := [], laidByText := true, laidKinds := [.data], laidTests := true, laidLooks := .later }
def EntryOneCardSaid : Prop := Claim7.holds Tryz.pinned (.plain (OpenSpec.ofChange entryOneSpec)) entryOneCard

/-- THE TIED CARD OF 'chirographlaw11.EntryBounds'. -/
def entryBoundsCard : Claim7 := { stood := { row := entryBoundsRow, standIns := [], harness := (true, "afd19832e7ba2a61aa3f9df6923608f805f8086fd505910a7fb41c11259a1ae3"), looks := false }, kinds := [], alts := [], laidByText := true, laidKinds := [.data, .data], laidTests := true, laidLooks := .later }
def EntryBoundsCardSaid : Prop := Claim7.holds Tryz.pinned (.plain (OpenSpec.ofChange entryBoundsSpec)) entryBoundsCard

/-- THE SECOND FORM's CARD OF 'chirographlaw10.GenesisAsks'. -/
def genesisAsksUptoCard : Claim7 := { stood := { row := genesisAsksUptoRow, standIns := [], harness := (true, "afd19832e7ba2a61aa3f9df6923608f805f8086fd505910a7fb41c11259a1ae3"), looks := false }, kinds := [], alts := [], laidByText := true, laidKinds := [.data, .data], laidTests := true, laidLooks := .later }
def GenesisAsksUptoCardSaid : Prop := Claim7.holds Tryz.pinned (.plain (OpenSpec.upto genesisAsksSpec)) genesisAsksUptoCard

/-- THE SECOND FORM's CARD OF 'chirographlaw10.GenesisBack'. -/
def genesisBackUptoCard : Claim7 := { stood := { row := genesisBackUptoRow, standIns := [], harness := (true, "afd19832e7ba2a61aa3f9df6923608f805f8086fd505910a7fb41c11259a1ae3"), looks := false }, kinds := [], alts := [], laidByText := true, laidKinds := [.data, .data], laidTests := true, laidLooks := .later }
def GenesisBackUptoCardSaid : Prop := Claim7.holds Tryz.pinned (.plain (OpenSpec.upto genesisBackSpec)) genesisBackUptoCard

/-- THE SECOND FORM's CARD OF 'chirographlaw11.EntryAsks'. -/
def entryAsksUptoCard : Claim7 := { stood := { row := entryAsksUptoRow, standIns := [], harness := (true, "afd19832e7ba2a61aa3f9df6923608f805f8086fd505910a7fb41c11259a1ae3"), looks := false }, kinds := [], alts := [], laidByText := true, laidKinds := [.data, .data], laidTests := true, laidLooks := .later }
def EntryAsksUptoCardSaid : Prop := Claim7.holds Tryz.pinned (.plain (OpenSpec.upto entryAsksSpec)) entryAsksUptoCard

/-- THE SECOND FORM's CARD OF 'chirographlaw11.EntryBack'. -/
def entryBackUptoCard : Claim7 := { stood := { row := entryBackUptoRow, standIns := [], harness := (true, "afd19832e7ba2a61aa3f9df6923608f805f8086fd505910a7fb41c11259a1ae3"), looks := false }, kinds := [], alts := [], laidByText := true, laidKinds := [.data], laidTests := true, laidLooks := .later }
def EntryBackUptoCardSaid : Prop := Claim7.holds Tryz.pinned (.plain (OpenSpec.upto entryBackSpec)) entryBackUptoCard

/-- THE SECOND FORM's CARD OF 'chirographlaw11.EntryOne'. -/
def entryOneUptoCard : Claim7 := { stood := { row := entryOneUptoRow, standIns := [], harness := (true, "afd19832e7ba2a61aa3f9df6923608f805f8086fd505910a7fb41c11259a1ae3"), looks := false }, kinds := [], alts := [], laidByText := true, laidKinds := [.data], laidTests := true, laidLooks := .later }
def EntryOneUptoCardSaid : Prop := Claim7.holds Tryz.pinned (.plain (OpenSpec.upto entryOneSpec)) entryOneUptoCard

/-- THE SECOND FORM's CARD OF 'chirographlaw11.EntryBounds'. -/
def entryBoundsUptoCard : Claim7 := { stood := { row := entryBoundsUptoRow, standIns := [], harness := (true, "afd19832e7ba2a61aa3f9df6923608f805f8086fd505910a7fb41c11259a1ae3"), looks := false }, kinds := [], alts := [], laidByText := true, laidKinds := [.data, .data], laidTests := true, laidLooks := .later }
def EntryBoundsUptoCardSaid : Prop := Claim7.holds Tryz.pinned (.plain (OpenSpec.upto entryBoundsSpec)) entryBoundsUptoCard
end Rows
end Go.Proofs.YtlipjglehongeaaGreatDoor
