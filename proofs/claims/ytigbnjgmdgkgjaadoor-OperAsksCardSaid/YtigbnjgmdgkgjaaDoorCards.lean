/-
  DERIVED. GIVEN WITH THE SEED: THE CARDS: each row of YtigbnjgmdgkgjaaDoorRows.lean that lists a variable, with what it lists TIED to the program's text (the seventh form; the later family's looks); each row that meets fmt, with fmt's text TOLD by the authors' own Lean function (tested against real Go, not proved from fmt's source: count such statements apart). THE CARD IS WHAT COUNTS. Prove the row's statement (the work); the ties are given (YtigbnjgmdgkgjaaDoorTie.lean); close each card by the builder's one call (the guide's Derived/Test/ToyasCard.lean, 'card_holds'). Laid BY PROGRAM, IN A SANDBOX (cutbox-door.mjs). By AI agents, Wed Nov 11 2026. No macro, syntax, notation, axiom, sorry.
-/
import Derived.Test.YtigbnjgmdgkgjaaDoorRows
import GoSem.ClaimSeven
namespace Go.Proofs.YtigbnjgmdgkgjaaDoor
namespace Rows

/-- THE TIED CARD OF 'chirographlaw7.OperAsks'. -/
def operAsksCard : Claim7 := { stood := { row := operAsksRow, standIns := [], harness := (true, "ead9c60a36a114d2f234a83053009942225f0f3d56493da12771c8c639d2413d"), looks := false }, kinds := [], alts := [], laidByText := true, laidKinds := [.data], laidTests := true, laidLooks := .later }
def OperAsksCardSaid : Prop := Claim7.holds Tryd.pinned (.plain (OpenSpec.ofChange operAsksSpec)) operAsksCard

/-- THE TIED CARD OF 'chirographlaw7.OperBack'. -/
def operBackCard : Claim7 := { stood := { row := operBackRow, standIns := [], harness := (true, "ead9c60a36a114d2f234a83053009942225f0f3d56493da12771c8c639d2413d"), looks := false }, kinds := [], alts := [], laidByText := true, laidKinds := [.data], laidTests := true, laidLooks := .later }
def OperBackCardSaid : Prop := Claim7.holds Tryd.pinned (.plain (OpenSpec.ofChange operBackSpec)) operBackCard

/-- THE TIED CARD OF 'chirographlaw7.OperKinds'. -/
def operKindsCard : Claim7 := { stood := { row := operKindsRow, standIns := [], harness := (true, "ead9c60a36a114d2f234a83053009942225f0f3d56493da12771c8c639d2413d"), looks := false }, kinds := [], alts := [], laidByText := true, laidKinds := [.data], laidTests := true, laidLooks := .later }
def OperKindsCardSaid : Prop := Claim7.holds Tryd.pinned (.plain (OpenSpec.ofChange operKindsSpec)) operKindsCard

/-- THE TIED CARD OF 'chirographlaw7.OperTurned'. -/
def operTurnedCard : Claim7 := { stood := { row := operTurnedRow, standIns := [], harness := (true, "ead9c60a36a114d2f234a83053009942225f0f3d56493da12771c8c639d2413d"), looks := false }, kinds := [], alts := [], laidByText := true, laidKinds := [.data], laidTests := true, laidLooks := .later }
def OperTurnedCardSaid : Prop := Claim7.holds Tryd.pinned (.plain (OpenSpec.ofChange operTurnedSpec)) operTurnedCard

/-- THE SECOND FORM's CARD OF 'chirographlaw7.OperAsks'. -/
def operAsksUptoCard : Claim7 := { stood := { row := operAsksUptoRow, standIns := [], harness := (true, "ead9c60a36a114d2f234a83053009942225f0f3d56493da12771c8c639d2413d"), looks := false }, kinds := [], alts := [], laidByText := true, laidKinds := [.data], laidTests := true, laidLooks := .later }
def OperAsksUptoCardSaid : Prop := Claim7.holds Tryd.pinned (.plain (OpenSpec.upto operAsksSpec)) operAsksUptoCard

/-- THE SECOND FORM's CARD OF 'chirographlaw7.OperBack'. -/
def operBackUptoCard : Claim7 := { stood := { row := operBackUptoRow, standIns := [], harness := (true, "ead9c60a36a114d2f234a83053009942225f0f3d56493da12771c8c639d2413d"), looks := false }, kinds := [], alts := [], laidByText := true, laidKinds := [.data], laidTests := true, laidLooks := .later }
def OperBackUptoCardSaid : Prop := Claim7.holds Tryd.pinned (.plain (OpenSpec.upto operBackSpec)) operBackUptoCard

/-- THE SECOND FORM's CARD OF 'chirographlaw7.OperKinds'. -/
def operKindsUptoCard : Claim7 := { stood := { row := operKindsUptoRow, standIns := [], harness := (true, "ead9c60a36a114d2f234a83053009942225f0f3d56493da12771c8c639d2413d"), looks := false }, kinds := [], alts := [], laidByText := true, laidKinds := [.data], laidTests := true, laidLooks := .later }
def OperKindsUptoCardSaid : Prop := Claim7.holds Tryd.pinned (.plain (OpenSpec.upto operKindsSpec)) operKindsUptoCard

/-- THE SECOND FORM's CARD OF 'chirographlaw7.OperTurned'. -/
def operTurnedUptoCard : Claim7 := { stood := { row := operTurnedUptoRow, standIns := [], harness := (true, "ead9c60a36a114d2f234a83053009942225f0f3d56493da12771c8c639d2413d"), looks := false }, kinds := [], alts := [], laidByText := true, laidKinds := [.data], laidTests := true, laidLooks := .later }
def OperTurnedUptoCardSaid : Prop := Claim7.holds Tryd.pinned (.plain (OpenSpec.upto operTurnedSpec)) operTurnedUptoCard
end Rows
end Go.Proofs.YtigbnjgmdgkgjaaDoor
