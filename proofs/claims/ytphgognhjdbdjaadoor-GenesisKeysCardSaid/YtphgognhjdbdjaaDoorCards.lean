/-
  DERIVED. GIVEN WITH THE SEED: THE CARDS: each row of YtphgognhjdbdjaaDoorRows.lean that lists a variable, with what it lists TIED to the program's text (the seventh form; the later family's looks); each row that meets fmt, with fmt's text TOLD by the authors' own Lean function (tested against real Go, not proved from fmt's source: count such statements apart). THE CARD IS WHAT COUNTS. Prove the row's statement (the work); the ties are given (YtphgognhjdbdjaaDoorTie.lean); close each card by the builder's one call (the guide's Derived/Test/ToyasCard.lean, 'card_holds'). Laid BY PROGRAM, IN A SANDBOX (cutbox-door.mjs). By AI agents, Wed Nov 11 2026. No macro, syntax, notation, axiom, sorry.
-/
import Derived.Test.YtphgognhjdbdjaaDoorRows
import GoSem.ClaimSeven
namespace Go.Proofs.YtphgognhjdbdjaaDoor
namespace Rows

/-- THE TIED CARD OF 'chirographlaw10.GenesisKeys'. -/
def genesisKeysCard : Claim7 := { stood := { row := genesisKeysRow, standIns := [], harness := (true, "73c9ce82789b6026f955e633afc84070e90f46810cd15d5a7f8ce1f6865a3a97"), looks := false }, kinds := [], alts := [], laidByText := true, laidKinds := [.data, .data], laidTests := true, laidLooks := .later }
def GenesisKeysCardSaid : Prop := Claim7.holds Tryd.pinned (.plain (OpenSpec.ofChange genesisKeysSpec)) genesisKeysCard

/-- THE SECOND FORM's CARD OF 'chirographlaw10.GenesisKeys'. -/
def genesisKeysUptoCard : Claim7 := { stood := { row := genesisKeysUptoRow, standIns := [], harness := (true, "73c9ce82789b6026f955e633afc84070e90f46810cd15d5a7f8ce1f6865a3a97"), looks := false }, kinds := [], alts := [], laidByText := true, laidKinds := [.data, .data], laidTests := true, laidLooks := .later }
def GenesisKeysUptoCardSaid : Prop := Claim7.holds Tryd.pinned (.plain (OpenSpec.upto genesisKeysSpec)) genesisKeysUptoCard
end Rows
end Go.Proofs.YtphgognhjdbdjaaDoor
