/-
  DERIVED. GIVEN WITH THE SEED: THE CARDS: each row of YtfcmhpgopihidaaDoorRows.lean that lists a variable, with what it lists TIED to the program's text (the seventh form; the later family's looks); each row that meets fmt, with fmt's text TOLD by the authors' own Lean function (tested against real Go, not proved from fmt's source: count such statements apart). THE CARD IS WHAT COUNTS. Prove the row's statement (the work); the ties are given (YtfcmhpgopihidaaDoorTie.lean); close each card by the builder's one call (the guide's Derived/Test/ToyasCard.lean, 'card_holds'). Laid BY PROGRAM, IN A SANDBOX (cutbox-door.mjs). By AI agents, Wed Nov 11 2026. No macro, syntax, notation, axiom, sorry.
-/
import Derived.Test.YtfcmhpgopihidaaDoorRows
import GoSem.ClaimSeven
namespace Go.Proofs.YtfcmhpgopihidaaDoor
namespace Rows

/-- THE TIED CARD OF 'chirographlaw8.SpaceTimes'. -/
def spaceTimesCard : Claim7 := { stood := { row := spaceTimesRow, standIns := [], harness := (true, "4eb16099716648fcda91329f7c3d1100cde6640e4a2454156bcca9f15a71a9c9"), looks := false }, kinds := [], alts := [], laidByText := true, laidKinds := [.data], laidTests := true, laidLooks := .later }
def SpaceTimesCardSaid : Prop := Claim7.holds Tryd.pinned (.plain (OpenSpec.ofChange spaceTimesSpec)) spaceTimesCard

/-- THE TIED CARD OF 'chirographlaw8.SpaceOwn'. -/
def spaceOwnCard : Claim7 := { stood := { row := spaceOwnRow, standIns := [], harness := (true, "4eb16099716648fcda91329f7c3d1100cde6640e4a2454156bcca9f15a71a9c9"), looks := false }, kinds := [], alts := [], laidByText := true, laidKinds := [.data], laidTests := true, laidLooks := .later }
def SpaceOwnCardSaid : Prop := Claim7.holds Tryd.pinned (.plain (OpenSpec.ofChange spaceOwnSpec)) spaceOwnCard

/-- THE TIED CARD OF 'chirographlaw8.SpaceAsks'. -/
def spaceAsksCard : Claim7 := { stood := { row := spaceAsksRow, standIns := [], harness := (true, "4eb16099716648fcda91329f7c3d1100cde6640e4a2454156bcca9f15a71a9c9"), looks := false }, kinds := [], alts := [], laidByText := true, laidKinds := [.data], laidTests := true, laidLooks := .later }
def SpaceAsksCardSaid : Prop := Claim7.holds Tryd.pinned (.plain (OpenSpec.ofChange spaceAsksSpec)) spaceAsksCard

/-- THE TIED CARD OF 'chirographlaw8.SpacePlays'. -/
def spacePlaysCard : Claim7 := { stood := { row := spacePlaysRow, standIns := [], harness := (true, "4eb16099716648fcda91329f7c3d1100cde6640e4a2454156bcca9f15a71a9c9"), looks := false }, kinds := [], alts := [], laidByText := true, laidKinds := [.data], laidTests := true, laidLooks := .later }
def SpacePlaysCardSaid : Prop := Claim7.holds Tryd.pinned (.plain (OpenSpec.ofChange spacePlaysSpec)) spacePlaysCard

/-- THE TIED CARD OF 'chirographlaw8.SpaceMay'. -/
def spaceMayCard : Claim7 := { stood := { row := spaceMayRow, standIns := [], harness := (true, "4eb16099716648fcda91329f7c3d1100cde6640e4a2454156bcca9f15a71a9c9"), looks := false }, kinds := [], alts := [], laidByText := true, laidKinds := [.data], laidTests := true, laidLooks := .later }
def SpaceMayCardSaid : Prop := Claim7.holds Tryd.pinned (.plain (OpenSpec.ofChange spaceMaySpec)) spaceMayCard

/-- THE TIED CARD OF 'chirographlaw8.SpaceTwice'. -/
def spaceTwiceCard : Claim7 := { stood := { row := spaceTwiceRow, standIns := [], harness := (true, "4eb16099716648fcda91329f7c3d1100cde6640e4a2454156bcca9f15a71a9c9"), looks := false }, kinds := [], alts := [], laidByText := true, laidKinds := [.data], laidTests := true, laidLooks := .later }
def SpaceTwiceCardSaid : Prop := Claim7.holds Tryd.pinned (.plain (OpenSpec.ofChange spaceTwiceSpec)) spaceTwiceCard

/-- THE TIED CARD OF 'chirographlaw8.SpaceDenied'. -/
def spaceDeniedCard : Claim7 := { stood := { row := spaceDeniedRow, standIns := [], harness := (true, "4eb16099716648fcda91329f7c3d1100cde6640e4a2454156bcca9f15a71a9c9"), looks := false }, kinds := [], alts := [], laidByText := true, laidKinds := [.data], laidTests := true, laidLooks := .later }
def SpaceDeniedCardSaid : Prop := Claim7.holds Tryd.pinned (.plain (OpenSpec.ofChange spaceDeniedSpec)) spaceDeniedCard

/-- THE TIED CARD OF 'chirographlaw8.SpaceLease'. -/
def spaceLeaseCard : Claim7 := { stood := { row := spaceLeaseRow, standIns := [], harness := (true, "4eb16099716648fcda91329f7c3d1100cde6640e4a2454156bcca9f15a71a9c9"), looks := false }, kinds := [], alts := [], laidByText := true, laidKinds := [.data], laidTests := true, laidLooks := .later }
def SpaceLeaseCardSaid : Prop := Claim7.holds Tryd.pinned (.plain (OpenSpec.ofChange spaceLeaseSpec)) spaceLeaseCard

/-- THE TIED CARD OF 'chirographlaw8.SpaceOldest'. -/
def spaceOldestCard : Claim7 := { stood := { row := spaceOldestRow, standIns := [], harness := (true, "4eb16099716648fcda91329f7c3d1100cde6640e4a2454156bcca9f15a71a9c9"), looks := false }, kinds := [], alts := [], laidByText := true, laidKinds := [.data], laidTests := true, laidLooks := .later }
def SpaceOldestCardSaid : Prop := Claim7.holds Tryd.pinned (.plain (OpenSpec.ofChange spaceOldestSpec)) spaceOldestCard

/-- THE TIED CARD OF 'chirographlaw8.SpaceWaits'. -/
def spaceWaitsCard : Claim7 := { stood := { row := spaceWaitsRow, standIns := [], harness := (true, "4eb16099716648fcda91329f7c3d1100cde6640e4a2454156bcca9f15a71a9c9"), looks := false }, kinds := [], alts := [], laidByText := true, laidKinds := [.data], laidTests := true, laidLooks := .later }
def SpaceWaitsCardSaid : Prop := Claim7.holds Tryd.pinned (.plain (OpenSpec.ofChange spaceWaitsSpec)) spaceWaitsCard

/-- THE TIED CARD OF 'chirographlaw8.SpaceCas'. -/
def spaceCasCard : Claim7 := { stood := { row := spaceCasRow, standIns := [], harness := (true, "4eb16099716648fcda91329f7c3d1100cde6640e4a2454156bcca9f15a71a9c9"), looks := false }, kinds := [], alts := [], laidByText := true, laidKinds := [.data], laidTests := true, laidLooks := .later }
def SpaceCasCardSaid : Prop := Claim7.holds Tryd.pinned (.plain (OpenSpec.ofChange spaceCasSpec)) spaceCasCard

/-- THE TIED CARD OF 'chirographlaw8.SpaceFull'. -/
def spaceFullCard : Claim7 := { stood := { row := spaceFullRow, standIns := [], harness := (true, "4eb16099716648fcda91329f7c3d1100cde6640e4a2454156bcca9f15a71a9c9"), looks := false }, kinds := [], alts := [], laidByText := true, laidKinds := [.data], laidTests := true, laidLooks := .later }
def SpaceFullCardSaid : Prop := Claim7.holds Tryd.pinned (.plain (OpenSpec.ofChange spaceFullSpec)) spaceFullCard

/-- THE SECOND FORM's CARD OF 'chirographlaw8.SpaceTimes'. -/
def spaceTimesUptoCard : Claim7 := { stood := { row := spaceTimesUptoRow, standIns := [], harness := (true, "4eb16099716648fcda91329f7c3d1100cde6640e4a2454156bcca9f15a71a9c9"), looks := false }, kinds := [], alts := [], laidByText := true, laidKinds := [.data], laidTests := true, laidLooks := .later }
def SpaceTimesUptoCardSaid : Prop := Claim7.holds Tryd.pinned (.plain (OpenSpec.upto spaceTimesSpec)) spaceTimesUptoCard

/-- THE SECOND FORM's CARD OF 'chirographlaw8.SpaceOwn'. -/
def spaceOwnUptoCard : Claim7 := { stood := { row := spaceOwnUptoRow, standIns := [], harness := (true, "4eb16099716648fcda91329f7c3d1100cde6640e4a2454156bcca9f15a71a9c9"), looks := false }, kinds := [], alts := [], laidByText := true, laidKinds := [.data], laidTests := true, laidLooks := .later }
def SpaceOwnUptoCardSaid : Prop := Claim7.holds Tryd.pinned (.plain (OpenSpec.upto spaceOwnSpec)) spaceOwnUptoCard

/-- THE SECOND FORM's CARD OF 'chirographlaw8.SpaceAsks'. -/
def spaceAsksUptoCard : Claim7 := { stood := { row := spaceAsksUptoRow, standIns := [], harness := (true, "4eb16099716648fcda91329f7c3d1100cde6640e4a2454156bcca9f15a71a9c9"), looks := false }, kinds := [], alts := [], laidByText := true, laidKinds := [.data], laidTests := true, laidLooks := .later }
def SpaceAsksUptoCardSaid : Prop := Claim7.holds Tryd.pinned (.plain (OpenSpec.upto spaceAsksSpec)) spaceAsksUptoCard

/-- THE SECOND FORM's CARD OF 'chirographlaw8.SpacePlays'. -/
def spacePlaysUptoCard : Claim7 := { stood := { row := spacePlaysUptoRow, standIns := [], harness := (true, "4eb16099716648fcda91329f7c3d1100cde6640e4a2454156bcca9f15a71a9c9"), looks := false }, kinds := [], alts := [], laidByText := true, laidKinds := [.data], laidTests := true, laidLooks := .later }
def SpacePlaysUptoCardSaid : Prop := Claim7.holds Tryd.pinned (.plain (OpenSpec.upto spacePlaysSpec)) spacePlaysUptoCard

/-- THE SECOND FORM's CARD OF 'chirographlaw8.SpaceMay'. -/
def spaceMayUptoCard : Claim7 := { stood := { row := spaceMayUptoRow, standIns := [], harness := (true, "4eb16099716648fcda91329f7c3d1100cde6640e4a2454156bcca9f15a71a9c9"), looks := false }, kinds := [], alts := [], laidByText := true, laidKinds := [.data], laidTests := true, laidLooks := .later }
def SpaceMayUptoCardSaid : Prop := Claim7.holds Tryd.pinned (.plain (OpenSpec.upto spaceMaySpec)) spaceMayUptoCard

/-- THE SECOND FORM's CARD OF 'chirographlaw8.SpaceTwice'. -/
def spaceTwiceUptoCard : Claim7 := { stood := { row := spaceTwiceUptoRow, standIns := [], harness := (true, "4eb16099716648fcda91329f7c3d1100cde6640e4a2454156bcca9f15a71a9c9"), looks := false }, kinds := [], alts := [], laidByText := true, laidKinds := [.data], laidTests := true, laidLooks := .later }
def SpaceTwiceUptoCardSaid : Prop := Claim7.holds Tryd.pinned (.plain (OpenSpec.upto spaceTwiceSpec)) spaceTwiceUptoCard

/-- THE SECOND FORM's CARD OF 'chirographlaw8.SpaceDenied'. -/
def spaceDeniedUptoCard : Claim7 := { stood := { row := spaceDeniedUptoRow, standIns := [], harness := (true, "4eb16099716648fcda91329f7c3d1100cde6640e4a2454156bcca9f15a71a9c9"), looks := false }, kinds := [], alts := [], laidByText := true, laidKinds := [.data], laidTests := true, laidLooks := .later }
def SpaceDeniedUptoCardSaid : Prop := Claim7.holds Tryd.pinned (.plain (OpenSpec.upto spaceDeniedSpec)) spaceDeniedUptoCard

/-- THE SECOND FORM's CARD OF 'chirographlaw8.SpaceLease'. -/
def spaceLeaseUptoCard : Claim7 := { stood := { row := spaceLeaseUptoRow, standIns := [], harness := (true, "4eb16099716648fcda91329f7c3d1100cde6640e4a2454156bcca9f15a71a9c9"), looks := false }, kinds := [], alts := [], laidByText := true, laidKinds := [.data], laidTests := true, laidLooks := .later }
def SpaceLeaseUptoCardSaid : Prop := Claim7.holds Tryd.pinned (.plain (OpenSpec.upto spaceLeaseSpec)) spaceLeaseUptoCard

/-- THE SECOND FORM's CARD OF 'chirographlaw8.SpaceOldest'. -/
def spaceOldestUptoCard : Claim7 := { stood := { row := spaceOldestUptoRow, standIns := [], harness := (true, "4eb16099716648fcda91329f7c3d1100cde6640e4a2454156bcca9f15a71a9c9"), looks := false }, kinds := [], alts := [], laidByText := true, laidKinds := [.data], laidTests := true, laidLooks := .later }
def SpaceOldestUptoCardSaid : Prop := Claim7.holds Tryd.pinned (.plain (OpenSpec.upto spaceOldestSpec)) spaceOldestUptoCard

/-- THE SECOND FORM's CARD OF 'chirographlaw8.SpaceWaits'. -/
def spaceWaitsUptoCard : Claim7 := { stood := { row := spaceWaitsUptoRow, standIns := [], harness := (true, "4eb16099716648fcda91329f7c3d1100cde6640e4a2454156bcca9f15a71a9c9"), looks := false }, kinds := [], alts := [], laidByText := true, laidKinds := [.data], laidTests := true, laidLooks := .later }
def SpaceWaitsUptoCardSaid : Prop := Claim7.holds Tryd.pinned (.plain (OpenSpec.upto spaceWaitsSpec)) spaceWaitsUptoCard

/-- THE SECOND FORM's CARD OF 'chirographlaw8.SpaceCas'. -/
def spaceCasUptoCard : Claim7 := { stood := { row := spaceCasUptoRow, standIns := [], harness := (true, "4eb16099716648fcda91329f7c3d1100cde6640e4a2454156bcca9f15a71a9c9"), looks := false }, kinds := [], alts := [], laidByText := true, laidKinds := [.data], laidTests := true, laidLooks := .later }
def SpaceCasUptoCardSaid : Prop := Claim7.holds Tryd.pinned (.plain (OpenSpec.upto spaceCasSpec)) spaceCasUptoCard

/-- THE SECOND FORM's CARD OF 'chirographlaw8.SpaceFull'. -/
def spaceFullUptoCard : Claim7 := { stood := { row := spaceFullUptoRow, standIns := [], harness := (true, "4eb16099716648fcda91329f7c3d1100cde6640e4a2454156bcca9f15a71a9c9"), looks := false }, kinds := [], alts := [], laidByText := true, laidKinds := [.data], laidTests := true, laidLooks := .later }
def SpaceFullUptoCardSaid : Prop := Claim7.holds Tryd.pinned (.plain (OpenSpec.upto spaceFullSpec)) spaceFullUptoCard
end Rows
end Go.Proofs.YtfcmhpgopihidaaDoor
