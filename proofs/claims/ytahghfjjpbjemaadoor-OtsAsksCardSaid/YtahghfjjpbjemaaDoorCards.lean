/-
  DERIVED. GIVEN WITH THE SEED: THE CARDS: each row of YtahghfjjpbjemaaDoorRows.lean that lists a variable, with what it lists TIED to the program's text (the seventh form; the later family's looks); each row that meets fmt, with fmt's text TOLD by the authors' own Lean function (tested against real Go, not proved from fmt's source: count such statements apart). THE CARD IS WHAT COUNTS. Prove the row's statement (the work); the ties are given (YtahghfjjpbjemaaDoorTie.lean); close each card by the builder's one call (the guide's Derived/Test/ToyasCard.lean, 'card_holds'). Laid BY PROGRAM, IN A SANDBOX (cutbox-door.mjs). By AI agents, Wed Nov 11 2026. No macro, syntax, notation, axiom, sorry.
-/
import Derived.Test.YtahghfjjpbjemaaDoorRows
import GoSem.ClaimSeven
namespace Go.Proofs.YtahghfjjpbjemaaDoor
namespace Rows

/-- THE TIED CARD OF 'chirographlaw3.OtsDigits'. -/
def otsDigitsCard : Claim7 := { stood := { row := otsDigitsRow, standIns := [], harness := (true, "5bbea60b4689782f2949470fb4425468eba583d66e698829ab71f3cf8a6e8074"), looks := false }, kinds := [], alts := [], laidByText := true, laidKinds := [.data, .data], laidTests := true, laidLooks := .later }
def OtsDigitsCardSaid : Prop := Claim7.holds Tryd.pinned (.plain (OpenSpec.ofChange otsDigitsSpec)) otsDigitsCard

/-- THE TIED CARD OF 'chirographlaw3.OtsAsks'. -/
def otsAsksCard : Claim7 := { stood := { row := otsAsksRow, standIns := [], harness := (true, "5bbea60b4689782f2949470fb4425468eba583d66e698829ab71f3cf8a6e8074"), looks := false }, kinds := [], alts := [], laidByText := true, laidKinds := [.data, .data], laidTests := true, laidLooks := .later }
def OtsAsksCardSaid : Prop := Claim7.holds Tryd.pinned (.plain (OpenSpec.ofChange otsAsksSpec)) otsAsksCard

/-- THE TIED CARD OF 'chirographlaw3.OtsHolds'. -/
def otsHoldsCard : Claim7 := { stood := { row := otsHoldsRow, standIns := [], harness := (true, "5bbea60b4689782f2949470fb4425468eba583d66e698829ab71f3cf8a6e8074"), looks := false }, kinds := [], alts := [], laidByText := true, laidKinds := [.data, .data], laidTests := true, laidLooks := .later }
def OtsHoldsCardSaid : Prop := Claim7.holds Tryd.pinned (.plain (OpenSpec.ofChange otsHoldsSpec)) otsHoldsCard

/-- THE TIED CARD OF 'chirographlaw3.OtsSums'. -/
def otsSumsCard : Claim7 := { stood := { row := otsSumsRow, standIns := [], harness := (true, "5bbea60b4689782f2949470fb4425468eba583d66e698829ab71f3cf8a6e8074"), looks := false }, kinds := [], alts := [], laidByText := true, laidKinds := [.data, .data], laidTests := true, laidLooks := .later }
def OtsSumsCardSaid : Prop := Claim7.holds Tryd.pinned (.plain (OpenSpec.ofChange otsSumsSpec)) otsSumsCard

/-- THE TIED CARD OF 'chirographlaw4.LmsForms'. -/
def lmsFormsCard : Claim7 := { stood := { row := lmsFormsRow, standIns := [], harness := (true, "5bbea60b4689782f2949470fb4425468eba583d66e698829ab71f3cf8a6e8074"), looks := false }, kinds := [], alts := [], laidByText := true, laidKinds := [.data, .data], laidTests := true, laidLooks := .later }
def LmsFormsCardSaid : Prop := Claim7.holds Tryd.pinned (.plain (OpenSpec.ofChange lmsFormsSpec)) lmsFormsCard

/-- THE TIED CARD OF 'chirographlaw4.LmsPaths'. -/
def lmsPathsCard : Claim7 := { stood := { row := lmsPathsRow, standIns := [], harness := (true, "5bbea60b4689782f2949470fb4425468eba583d66e698829ab71f3cf8a6e8074"), looks := false }, kinds := [], alts := [], laidByText := true, laidKinds := [.data, .data], laidTests := true, laidLooks := .later }
def LmsPathsCardSaid : Prop := Claim7.holds Tryd.pinned (.plain (OpenSpec.ofChange lmsPathsSpec)) lmsPathsCard

/-- THE SECOND FORM's CARD OF 'chirographlaw3.OtsDigits'. -/
def otsDigitsUptoCard : Claim7 := { stood := { row := otsDigitsUptoRow, standIns := [], harness := (true, "5bbea60b4689782f2949470fb4425468eba583d66e698829ab71f3cf8a6e8074"), looks := false }, kinds := [], alts := [], laidByText := true, laidKinds := [.data, .data], laidTests := true, laidLooks := .later }
def OtsDigitsUptoCardSaid : Prop := Claim7.holds Tryd.pinned (.plain (OpenSpec.upto otsDigitsSpec)) otsDigitsUptoCard

/-- THE SECOND FORM's CARD OF 'chirographlaw3.OtsAsks'. -/
def otsAsksUptoCard : Claim7 := { stood := { row := otsAsksUptoRow, standIns := [], harness := (true, "5bbea60b4689782f2949470fb4425468eba583d66e698829ab71f3cf8a6e8074"), looks := false }, kinds := [], alts := [], laidByText := true, laidKinds := [.data, .data], laidTests := true, laidLooks := .later }
def OtsAsksUptoCardSaid : Prop := Claim7.holds Tryd.pinned (.plain (OpenSpec.upto otsAsksSpec)) otsAsksUptoCard

/-- THE SECOND FORM's CARD OF 'chirographlaw3.OtsHolds'. -/
def otsHoldsUptoCard : Claim7 := { stood := { row := otsHoldsUptoRow, standIns := [], harness := (true, "5bbea60b4689782f2949470fb4425468eba583d66e698829ab71f3cf8a6e8074"), looks := false }, kinds := [], alts := [], laidByText := true, laidKinds := [.data, .data], laidTests := true, laidLooks := .later }
def OtsHoldsUptoCardSaid : Prop := Claim7.holds Tryd.pinned (.plain (OpenSpec.upto otsHoldsSpec)) otsHoldsUptoCard

/-- THE SECOND FORM's CARD OF 'chirographlaw3.OtsSums'. -/
def otsSumsUptoCard : Claim7 := { stood := { row := otsSumsUptoRow, standIns := [], harness := (true, "5bbea60b4689782f2949470fb4425468eba583d66e698829ab71f3cf8a6e8074"), looks := false }, kinds := [], alts := [], laidByText := true, laidKinds := [.data, .data], laidTests := true, laidLooks := .later }
def OtsSumsUptoCardSaid : Prop := Claim7.holds Tryd.pinned (.plain (OpenSpec.upto otsSumsSpec)) otsSumsUptoCard

/-- THE SECOND FORM's CARD OF 'chirographlaw4.LmsForms'. -/
def lmsFormsUptoCard : Claim7 := { stood := { row := lmsFormsUptoRow, standIns := [], harness := (true, "5bbea60b4689782f2949470fb4425468eba583d66e698829ab71f3cf8a6e8074"), looks := false }, kinds := [], alts := [], laidByText := true, laidKinds := [.data, .data], laidTests := true, laidLooks := .later }
def LmsFormsUptoCardSaid : Prop := Claim7.holds Tryd.pinned (.plain (OpenSpec.upto lmsFormsSpec)) lmsFormsUptoCard

/-- THE SECOND FORM's CARD OF 'chirographlaw4.LmsPaths'. -/
def lmsPathsUptoCard : Claim7 := { stood := { row := lmsPathsUptoRow, standIns := [], harness := (true, "5bbea60b4689782f2949470fb4425468eba583d66e698829ab71f3cf8a6e8074"), looks := false }, kinds := [], alts := [], laidByText := true, laidKinds := [.data, .data], laidTests := true, laidLooks := .later }
def LmsPathsUptoCardSaid : Prop := Claim7.holds Tryd.pinned (.plain (OpenSpec.upto lmsPathsSpec)) lmsPathsUptoCard
end Rows
end Go.Proofs.YtahghfjjpbjemaaDoor
