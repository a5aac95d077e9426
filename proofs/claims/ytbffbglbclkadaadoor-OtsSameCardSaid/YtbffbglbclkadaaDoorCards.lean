/-
  DERIVED. GIVEN WITH THE SEED: THE CARDS: each row of YtbffbglbclkadaaDoorRows.lean that lists a variable, with what it lists TIED to the program's text (the seventh form; the later family's looks); each row that meets fmt, with fmt's text TOLD by the authors' own Lean function (tested against real Go, not proved from fmt's source: count such statements apart). THE CARD IS WHAT COUNTS. Prove the row's statement (the work); the ties are given (YtbffbglbclkadaaDoorTie.lean); close each card by the builder's one call (the guide's Derived/Test/ToyasCard.lean, 'card_holds'). Laid BY PROGRAM, IN A SANDBOX (cutbox-door.mjs). By AI agents, Wed Nov 11 2026. No macro, syntax, notation, axiom, sorry.
-/
import Derived.Test.YtbffbglbclkadaaDoorRows
import GoSem.ClaimSeven
namespace Go.Proofs.YtbffbglbclkadaaDoor
namespace Rows

/-- THE TIED CARD OF 'chirographlaw3.OtsSame'. -/
def otsSameCard : Claim7 := { stood := { row := otsSameRow, standIns := [], harness := (true, "06dada494bf671949dea019ee3db041ba4f1feea5dad61923904895cf25d7dc7"), looks := false }, kinds := [], alts := [], laidByText := true, laidKinds := [.data, .data], laidTests := true, laidLooks := .later }
def OtsSameCardSaid : Prop := Claim7.holds Tryd.pinned (.plain (OpenSpec.ofChange otsSameSpec)) otsSameCard

/-- THE TIED CARD OF 'chirographlaw3.OtsDigits'. -/
def otsDigitsCard : Claim7 := { stood := { row := otsDigitsRow, standIns := [], harness := (true, "06dada494bf671949dea019ee3db041ba4f1feea5dad61923904895cf25d7dc7"), looks := false }, kinds := [], alts := [], laidByText := true, laidKinds := [.data, .data], laidTests := true, laidLooks := .later }
def OtsDigitsCardSaid : Prop := Claim7.holds Tryd.pinned (.plain (OpenSpec.ofChange otsDigitsSpec)) otsDigitsCard

/-- THE TIED CARD OF 'chirographlaw3.OtsAsks'. -/
def otsAsksCard : Claim7 := { stood := { row := otsAsksRow, standIns := [], harness := (true, "06dada494bf671949dea019ee3db041ba4f1feea5dad61923904895cf25d7dc7"), looks := false }, kinds := [], alts := [], laidByText := true, laidKinds := [.data, .data], laidTests := true, laidLooks := .later }
def OtsAsksCardSaid : Prop := Claim7.holds Tryd.pinned (.plain (OpenSpec.ofChange otsAsksSpec)) otsAsksCard

/-- THE TIED CARD OF 'chirographlaw3.OtsArgs'. -/
def otsArgsCard : Claim7 := { stood := { row := otsArgsRow, standIns := [], harness := (true, "06dada494bf671949dea019ee3db041ba4f1feea5dad61923904895cf25d7dc7"), looks := false }, kinds := [], alts := [], laidByText := true, laidKinds := [.data, .data], laidTests := true, laidLooks := .later }
def OtsArgsCardSaid : Prop := Claim7.holds Tryd.pinned (.plain (OpenSpec.ofChange otsArgsSpec)) otsArgsCard

/-- THE TIED CARD OF 'chirographlaw3.OtsHolds'. -/
def otsHoldsCard : Claim7 := { stood := { row := otsHoldsRow, standIns := [], harness := (true, "06dada494bf671949dea019ee3db041ba4f1feea5dad61923904895cf25d7dc7"), looks := false }, kinds := [], alts := [], laidByText := true, laidKinds := [.data, .data], laidTests := true, laidLooks := .later }
def OtsHoldsCardSaid : Prop := Claim7.holds Tryd.pinned (.plain (OpenSpec.ofChange otsHoldsSpec)) otsHoldsCard

/-- THE TIED CARD OF 'chirographlaw3.OtsSums'. -/
def otsSumsCard : Claim7 := { stood := { row := otsSumsRow, standIns := [], harness := (true, "06dada494bf671949dea019ee3db041ba4f1feea5dad61923904895cf25d7dc7"), looks := false }, kinds := [], alts := [], laidByText := true, laidKinds := [.data, .data], laidTests := true, laidLooks := .later }
def OtsSumsCardSaid : Prop := Claim7.holds Tryd.pinned (.plain (OpenSpec.ofChange otsSumsSpec)) otsSumsCard

/-- THE TIED CARD OF 'chirographlaw3.OtsForms'. -/
def otsFormsCard : Claim7 := { stood := { row := otsFormsRow, standIns := [], harness := (true, "06dada494bf671949dea019ee3db041ba4f1feea5dad61923904895cf25d7dc7"), looks := false }, kinds := [], alts := [], laidByText := true, laidKinds := [.data, .data], laidTests := true, laidLooks := .later }
def OtsFormsCardSaid : Prop := Claim7.holds Tryd.pinned (.plain (OpenSpec.ofChange otsFormsSpec)) otsFormsCard

/-- THE TIED CARD OF 'chirographlaw3.OtsWide'. -/
def otsWideCard : Claim7 := { stood := { row := otsWideRow, standIns := [], harness := (true, "06dada494bf671949dea019ee3db041ba4f1feea5dad61923904895cf25d7dc7"), looks := false }, kinds := [], alts := [], laidByText := true, laidKinds := [.data, .data], laidTests := true, laidLooks := .later }
def OtsWideCardSaid : Prop := Claim7.holds Tryd.pinned (.plain (OpenSpec.ofChange otsWideSpec)) otsWideCard

/-- THE SECOND FORM's CARD OF 'chirographlaw3.OtsSame'. -/
def otsSameUptoCard : Claim7 := { stood := { row := otsSameUptoRow, standIns := [], harness := (true, "06dada494bf671949dea019ee3db041ba4f1feea5dad61923904895cf25d7dc7"), looks := false }, kinds := [], alts := [], laidByText := true, laidKinds := [.data, .data], laidTests := true, laidLooks := .later }
def OtsSameUptoCardSaid : Prop := Claim7.holds Tryd.pinned (.plain (OpenSpec.upto otsSameSpec)) otsSameUptoCard

/-- THE SECOND FORM's CARD OF 'chirographlaw3.OtsDigits'. -/
def otsDigitsUptoCard : Claim7 := { stood := { row := otsDigitsUptoRow, standIns := [], harness := (true, "06dada494bf671949dea019ee3db041ba4f1feea5dad61923904895cf25d7dc7"), looks := false }, kinds := [], alts := [], laidByText := true, laidKinds := [.data, .data], laidTests := true, laidLooks := .later }
def OtsDigitsUptoCardSaid : Prop := Claim7.holds Tryd.pinned (.plain (OpenSpec.upto otsDigitsSpec)) otsDigitsUptoCard

/-- THE SECOND FORM's CARD OF 'chirographlaw3.OtsAsks'. -/
def otsAsksUptoCard : Claim7 := { stood := { row := otsAsksUptoRow, standIns := [], harness := (true, "06dada494bf671949dea019ee3db041ba4f1feea5dad61923904895cf25d7dc7"), looks := false }, kinds := [], alts := [], laidByText := true, laidKinds := [.data, .data], laidTests := true, laidLooks := .later }
def OtsAsksUptoCardSaid : Prop := Claim7.holds Tryd.pinned (.plain (OpenSpec.upto otsAsksSpec)) otsAsksUptoCard

/-- THE SECOND FORM's CARD OF 'chirographlaw3.OtsArgs'. -/
def otsArgsUptoCard : Claim7 := { stood := { row := otsArgsUptoRow, standIns := [], harness := (true, "06dada494bf671949dea019ee3db041ba4f1feea5dad61923904895cf25d7dc7"), looks := false }, kinds := [], alts := [], laidByText := true, laidKinds := [.data, .data], laidTests := true, laidLooks := .later }
def OtsArgsUptoCardSaid : Prop := Claim7.holds Tryd.pinned (.plain (OpenSpec.upto otsArgsSpec)) otsArgsUptoCard

/-- THE SECOND FORM's CARD OF 'chirographlaw3.OtsHolds'. -/
def otsHoldsUptoCard : Claim7 := { stood := { row := otsHoldsUptoRow, standIns := [], harness := (true, "06dada494bf671949dea019ee3db041ba4f1feea5dad61923904895cf25d7dc7"), looks := false }, kinds := [], alts := [], laidByText := true, laidKinds := [.data, .data], laidTests := true, laidLooks := .later }
def OtsHoldsUptoCardSaid : Prop := Claim7.holds Tryd.pinned (.plain (OpenSpec.upto otsHoldsSpec)) otsHoldsUptoCard

/-- THE SECOND FORM's CARD OF 'chirographlaw3.OtsSums'. -/
def otsSumsUptoCard : Claim7 := { stood := { row := otsSumsUptoRow, standIns := [], harness := (true, "06dada494bf671949dea019ee3db041ba4f1feea5dad61923904895cf25d7dc7"), looks := false }, kinds := [], alts := [], laidByText := true, laidKinds := [.data, .data], laidTests := true, laidLooks := .later }
def OtsSumsUptoCardSaid : Prop := Claim7.holds Tryd.pinned (.plain (OpenSpec.upto otsSumsSpec)) otsSumsUptoCard

/-- THE SECOND FORM's CARD OF 'chirographlaw3.OtsForms'. -/
def otsFormsUptoCard : Claim7 := { stood := { row := otsFormsUptoRow, standIns := [], harness := (true, "06dada494bf671949dea019ee3db041ba4f1feea5dad61923904895cf25d7dc7"), looks := false }, kinds := [], alts := [], laidByText := true, laidKinds := [.data, .data], laidTests := true, laidLooks := .later }
def OtsFormsUptoCardSaid : Prop := Claim7.holds Tryd.pinned (.plain (OpenSpec.upto otsFormsSpec)) otsFormsUptoCard

/-- THE SECOND FORM's CARD OF 'chirographlaw3.OtsWide'. -/
def otsWideUptoCard : Claim7 := { stood := { row := otsWideUptoRow, standIns := [], harness := (true, "06dada494bf671949dea019ee3db041ba4f1feea5dad61923904895cf25d7dc7"), looks := false }, kinds := [], alts := [], laidByText := true, laidKinds := [.data, .data], laidTests := true, laidLooks := .later }
def OtsWideUptoCardSaid : Prop := Claim7.holds Tryd.pinned (.plain (OpenSpec.upto otsWideSpec)) otsWideUptoCard
end Rows
end Go.Proofs.YtbffbglbclkadaaDoor
