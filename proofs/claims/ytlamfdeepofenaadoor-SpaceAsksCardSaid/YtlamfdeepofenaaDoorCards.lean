/-
  DERIVED. GIVEN WITH THE SEED: THE CARDS: each row of YtlamfdeepofenaaDoorRows.lean that lists a variable, with what it lists TIED to the program's text (the seventh form; the later family's looks); each row that meets fmt, with fmt's text TOLD by the authors' own Lean function (tested against real Go, not proved from fmt's source: count such statements apart). THE CARD IS WHAT COUNTS. Prove the row's statement (the work); the ties are given (YtlamfdeepofenaaDoorTie.lean); close each card by the builder's one call (the guide's Derived/Test/ToyasCard.lean, 'card_holds'). Laid BY PROGRAM, IN A SANDBOX (cutbox-door.mjs). By AI agents, Wed Nov 11 2026. No macro, syntax, notation, axiom, sorry.
-/
import Derived.Test.YtlamfdeepofenaaDoorRows
import GoSem.ClaimSeven
namespace Go.Proofs.YtlamfdeepofenaaDoor
namespace Rows

/-- THE TIED CARD OF 'chirographlaw8.SpaceOwn'. -/
def spaceOwnCard : Claim7 := { stood := { row := spaceOwnRow, standIns := [], harness := (true, "fc3142028c9c58ecea7a27e070ef59b36092b917a665965b2d7aedaaf3be8f12"), looks := false }, kinds := [], alts := [], laidByText := true, laidKinds := [.data], laidTests := true, laidLooks := .later }
def SpaceOwnCardSaid : Prop := Claim7.holds Tryd.pinned (.plain (OpenSpec.ofChange spaceOwnSpec)) spaceOwnCard

/-- THE TIED CARD OF 'chirographlaw8.SpaceAsks'. -/
def spaceAsksCard : Claim7 := { stood := { row := spaceAsksRow, standIns := [], harness := (true, "fc3142028c9c58ecea7a27e070ef59b36092b917a665965b2d7aedaaf3be8f12"), looks := false }, kinds := [], alts := [], laidByText := true, laidKinds := [.data], laidTests := true, laidLooks := .later }
def SpaceAsksCardSaid : Prop := Claim7.holds Tryd.pinned (.plain (OpenSpec.ofChange spaceAsksSpec)) spaceAsksCard

/-- THE TIED CARD OF 'chirographlaw8.SpacePlays'. -/
def spacePlaysCard : Claim7 := { stood := { row := spacePlaysRow, standIns := [], harness := (true, "fc3142028c9c58ecea7a27e070ef59b36092b917a665965b2d7aedaaf3be8f12"), looks := false }, kinds := [], alts := [], laidByText := true, laidKinds := [.data], laidTests := true, laidLooks := .later }
def SpacePlaysCardSaid : Prop := Claim7.holds Tryd.pinned (.plain (OpenSpec.ofChange spacePlaysSpec)) spacePlaysCard

/-- THE TIED CARD OF 'chirographlaw8.SpaceWaits'. -/
def spaceWaitsCard : Claim7 := { stood := { row := spaceWaitsRow, standIns := [], harness := (true, "fc3142028c9c58ecea7a27e070ef59b36092b917a665965b2d7aedaaf3be8f12"), looks := false }, kinds := [], alts := [], laidByText := true, laidKinds := [.data], laidTests := true, laidLooks := .later }
def SpaceWaitsCardSaid : Prop := Claim7.holds Tryd.pinned (.plain (OpenSpec.ofChange spaceWaitsSpec)) spaceWaitsCard

/-- THE TIED CARD OF 'chirographlaw8.SpaceFull'. -/
def spaceFullCard : Claim7 := { stood := { row := spaceFullRow, standIns := [], harness := (true, "fc3142028c9c58ecea7a27e070ef59b36092b917a665965b2d7aedaaf3be8f12"), looks := false }, kinds := [], alts := [], laidByText := true, laidKinds := [.data], laidTests := true, laidLooks := .later }
def SpaceFullCardSaid : Prop := Claim7.holds Tryd.pinned (.plain (OpenSpec.ofChange spaceFullSpec)) spaceFullCard

/-- THE SECOND FORM's CARD OF 'chirographlaw8.SpaceOwn'. -/
def spaceOwnUptoCard : Claim7 := { stood := { row := spaceOwnUptoRow, standIns := [], harness := (true, "fc3142028c9c58ecea7a27e070ef59b36092b917a665965b2d7aedaaf3be8f12"), looks := false }, kinds := [], alts := [], laidByText := true, laidKinds := [.data], laidTests := true, laidLooks := .later }
def SpaceOwnUptoCardSaid : Prop := Claim7.holds Tryd.pinned (.plain (OpenSpec.upto spaceOwnSpec)) spaceOwnUptoCard

/-- THE SECOND FORM's CARD OF 'chirographlaw8.SpaceAsks'. -/
def spaceAsksUptoCard : Claim7 := { stood := { row := spaceAsksUptoRow, standIns := [], harness := (true, "fc3142028c9c58ecea7a27e070ef59b36092b917a665965b2d7aedaaf3be8f12"), looks := false }, kinds := [], alts := [], laidByText := true, laidKinds := [.data], laidTests := true, laidLooks := .later }
def SpaceAsksUptoCardSaid : Prop := Claim7.holds Tryd.pinned (.plain (OpenSpec.upto spaceAsksSpec)) spaceAsksUptoCard

/-- THE SECOND FORM's CARD OF 'chirographlaw8.SpacePlays'. -/
def spacePlaysUptoCard : Claim7 := { stood := { row := spacePlaysUptoRow, standIns := [], harness := (true, "fc3142028c9c58ecea7a27e070ef59b36092b917a665965b2d7aedaaf3be8f12"), looks := false }, kinds := [], alts := [], laidByText := true, laidKinds := [.data], laidTests := true, laidLooks := .later }
def SpacePlaysUptoCardSaid : Prop := Claim7.holds Tryd.pinned (.plain (OpenSpec.upto spacePlaysSpec)) spacePlaysUptoCard

/-- THE SECOND FORM's CARD OF 'chirographlaw8.SpaceWaits'. -/
def spaceWaitsUptoCard : Claim7 := { stood := { row := spaceWaitsUptoRow, standIns := [], harness := (true, "fc3142028c9c58ecea7a27e070ef59b36092b917a665965b2d7aedaaf3be8f12"), looks := false }, kinds := [], alts := [], laidByText := true, laidKinds := [.data], laidTests := true, laidLooks := .later }
def SpaceWaitsUptoCardSaid : Prop := Claim7.holds Tryd.pinned (.plain (OpenSpec.upto spaceWaitsSpec)) spaceWaitsUptoCard

/-- THE SECOND FORM's CARD OF 'chirographlaw8.SpaceFull'. -/
def spaceFullUptoCard : Claim7 := { stood := { row := spaceFullUptoRow, standIns := [], harness := (true, "fc3142028c9c58ecea7a27e070ef59b36092b917a665965b2d7aedaaf3be8f12"), looks := false }, kinds := [], alts := [], laidByText := true, laidKinds := [.data], laidTests := true, laidLooks := .later }
def SpaceFullUptoCardSaid : Prop := Claim7.holds Tryd.pinned (.plain (OpenSpec.upto spaceFullSpec)) spaceFullUptoCard
end Rows
end Go.Proofs.YtlamfdeepofenaaDoor
