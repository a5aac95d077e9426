/-
  DERIVED. GIVEN WITH THE SEED: THE CARDS: each row of YtlaiblgnjppmnaaGreatDoorRows.lean that lists a variable, with what it lists TIED to the program's text (the seventh form; the later family's looks); each row that meets fmt, with fmt's text TOLD by the authors' own Lean function (tested against real Go, not proved from fmt's source: count such statements apart). THE CARD IS WHAT COUNTS. Prove the row's statement (the work); the ties are given (YtlaiblgnjppmnaaGreatDoorTie.lean); close each card by the builder's one call (the guide's Derived/Test/ToyasCard.lean, 'card_holds'). Laid BY PROGRAM, IN A SANDBOX (cutbox-door.mjs). By AI agents, Wed Nov 11 2026. No macro, syntax, notation, axiom, sorry.
-/
import Derived.Test.YtlaiblgnjppmnaaGreatDoorRows
import GoSem.ClaimSeven
namespace Go.Proofs.YtlaiblgnjppmnaaGreatDoor
namespace Rows

/-- THE TIED CARD OF 'chirographlaw4.LmsAsks'. -/
def lmsAsksCard : Claim7 := { stood := { row := lmsAsksRow, standIns := [], harness := (true, "5ae024c48925914d0a099efc7cd1133d25364ddacbe849e35845c01c96685bce"), looks := false }, kinds := [], alts := [], laidByText := true, laidKinds := [.data, .data], laidTests := true, laidLooks := .later }
def LmsAsksCardSaid : Prop := Claim7.holds Tryz.pinned (.plain (OpenSpec.ofChange lmsAsksSpec)) lmsAsksCard

/-- THE TIED CARD OF 'chirographlaw4.LmsVerifies'. -/
def lmsVerifiesCard : Claim7 := { stood := { row := lmsVerifiesRow, standIns := [], harness := (true, "5ae024c48925914d0a099efc7cd1133d25364ddacbe849e35845c01c96685bce"), looks := false }, kinds := [], alts := [], laidByText := true, laidKinds := [.data, .data], laidTests := true, laidLooks := .later }
def LmsVerifiesCardSaid : Prop := Claim7.holds Tryz.pinned (.plain (OpenSpec.ofChange lmsVerifiesSpec)) lmsVerifiesCard

/-- THE TIED CARD OF 'chirographlaw4.LmsHolds'. -/
def lmsHoldsCard : Claim7 := { stood := { row := lmsHoldsRow, standIns := [], harness := (true, "5ae024c48925914d0a099efc7cd1133d25364ddacbe849e35845c01c96685bce"), looks := false }, kinds := [], alts := [], laidByText := true, laidKinds := [.data, .data], laidTests := true, laidLooks := .later }
def LmsHoldsCardSaid : Prop := Claim7.holds Tryz.pinned (.plain (OpenSpec.ofChange lmsHoldsSpec)) lmsHoldsCard

/-- THE TIED CARD OF 'chirographlaw5.HssAsks'. -/
def hssAsksCard : Claim7 := { stood := { row := hssAsksRow, standIns := [], harness := (true, "5ae024c48925914d0a099efc7cd1133d25364ddacbe849e35845c01c96685bce"), looks := false }, kinds := [], alts := [], laidByText := true, laidKinds := [.data, .data], laidTests := true, laidLooks := .later }
def HssAsksCardSaid : Prop := Claim7.holds Tryz.pinned (.plain (OpenSpec.ofChange hssAsksSpec)) hssAsksCard

/-- THE TIED CARD OF 'chirographlaw5.HssRaw'. -/
def hssRawCard : Claim7 := { stood := { row := hssRawRow, standIns := [], harness := (true, "5ae024c48925914d0a099efc7cd1133d25364ddacbe849e35845c01c96685bce"), looks := false }, kinds := [], alts := [], laidByText := true, laidKinds := [.data, .data], laidTests := true, laidLooks := .later }
def HssRawCardSaid : Prop := Claim7.holds Tryz.pinned (.plain (OpenSpec.ofChange hssRawSpec)) hssRawCard

/-- THE TIED CARD OF 'chirographlaw5.HssForms'. -/
def hssFormsCard : Claim7 := { stood := { row := hssFormsRow, standIns := [], harness := (true, "5ae024c48925914d0a099efc7cd1133d25364ddacbe849e35845c01c96685bce"), looks := false }, kinds := [], alts := [], laidByText := true, laidKinds := [.data, .data], laidTests := true, laidLooks := .later }
def HssFormsCardSaid : Prop := Claim7.holds Tryz.pinned (.plain (OpenSpec.ofChange hssFormsSpec)) hssFormsCard

/-- THE SECOND FORM's CARD OF 'chirographlaw4.LmsAsks'. -/
def lmsAsksUptoCard : Claim7 := { stood := { row := lmsAsksUptoRow, standIns := [], harness := (true, "5ae024c48925914d0a099efc7cd1133d25364ddacbe849e35845c01c96685bce"), looks := false }, kinds := [], alts := [], laidByText := true, laidKinds := [.data, .data], laidTests := true, laidLooks := .later }
def LmsAsksUptoCardSaid : Prop := Claim7.holds Tryz.pinned (.plain (OpenSpec.upto lmsAsksSpec)) lmsAsksUptoCard

/-- THE SECOND FORM's CARD OF 'chirographlaw4.LmsVerifies'. -/
def lmsVerifiesUptoCard : Claim7 := { stood := { row := lmsVerifiesUptoRow, standIns := [], harness := (true, "5ae024c48925914d0a099efc7cd1133d25364ddacbe849e35845c01c96685bce"), looks := false }, kinds := [], alts := [], laidByText := true, laidKinds := [.data, .data], laidTests := true, laidLooks := .later }
def LmsVerifiesUptoCardSaid : Prop := Claim7.holds Tryz.pinned (.plain (OpenSpec.upto lmsVerifiesSpec)) lmsVerifiesUptoCard

/-- THE SECOND FORM's CARD OF 'chirographlaw4.LmsHolds'. -/
def lmsHoldsUptoCard : Claim7 := { stood := { row := lmsHoldsUptoRow, standIns := [], harness := (true, "5ae024c48925914d0a099efc7cd1133d25364ddacbe849e35845c01c96685bce"), looks := false }, kinds := [], alts := [], laidByText := true, laidKinds := [.data, .data], laidTests := true, laidLooks := .later }
def LmsHoldsUptoCardSaid : Prop := Claim7.holds Tryz.pinned (.plain (OpenSpec.upto lmsHoldsSpec)) lmsHoldsUptoCard

/-- THE SECOND FORM's CARD OF 'chirographlaw5.HssAsks'. -/
def hssAsksUptoCard : Claim7 := { stood := { row := hssAsksUptoRow, standIns := [], harness := (true, "5ae024c48925914d0a099efc7cd1133d25364ddacbe849e35845c01c96685bce"), looks := false }, kinds := [], alts := [], laidByText := true, laidKinds := [.data, .data], laidTests := true, laidLooks := .later }
def HssAsksUptoCardSaid : Prop := Claim7.holds Tryz.pinned (.plain (OpenSpec.upto hssAsksSpec)) hssAsksUptoCard

/-- THE SECOND FORM's CARD OF 'chirographlaw5.HssRaw'. -/
def hssRawUptoCard : Claim7 := { stood := { row := hssRawUptoRow, standIns := [], harness := (true, "5ae024c48925914d0a099efc7cd1133d25364ddacbe849e35845c01c96685bce"), looks := false }, kinds := [], alts := [], laidByText := true, laidKinds := [.data, .data], laidTests := true, laidLooks := .later }
def HssRawUptoCardSaid : Prop := Claim7.holds Tryz.pinned (.plain (OpenSpec.upto hssRawSpec)) hssRawUptoCard

/-- THE SECOND FORM's CARD OF 'chirographlaw5.HssForms'. -/
def hssFormsUptoCard : Claim7 := { stood := { row := hssFormsUptoRow, standIns := [], harness := (true, "5ae024c48925914d0a099efc7cd1133d25364ddacbe849e35845c01c96685bce"), looks := false }, kinds := [], alts := [], laidByText := true, laidKinds := [.data, .data], laidTests := true, laidLooks := .later }
def HssFormsUptoCardSaid : Prop := Claim7.holds Tryz.pinned (.plain (OpenSpec.upto hssFormsSpec)) hssFormsUptoCard
end Rows
end Go.Proofs.YtlaiblgnjppmnaaGreatDoor
