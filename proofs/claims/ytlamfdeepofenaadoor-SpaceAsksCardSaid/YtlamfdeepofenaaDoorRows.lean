/-
  NARROWER THAN 'FOR EVERY INPUT', by the rows' own cells (each row's printed sentence says how): SpaceOwn: laid · SpaceAsks: laid · SpacePlays: laid · SpaceWaits: laid · SpaceFull: laid.
  DERIVED. THE GIVEN ROWS OF THIS SEAT. 5 by the template 'for every input the law returns true; each argument reads behind the call as it read before'; 0 by the template 'total and deterministic' (their statements: YtlamfdeepofenaaDoorTotals.lean).
  GIVEN WITH THE SEED: the statements are not yours to turn. If you find one false, say at which input.
  Laid BY PROGRAM, IN A SANDBOX (cutbox-rows.mjs): the forced cells as the released guide's own fill.sh prints them over the translation 94b1e0c24eca5e66… (all of the seat's roots in one cut). By AI agents, Wed Nov 11 2026. No macro, syntax, notation, axiom, sorry.
-/
import Derived.Test.YtlamfdeepofenaaDoorChecked
import GoSem.Claim
import GoSem.ClaimJoined
import GoSem.ClaimMapViews
import Derived.JoinedTies
import Derived.KernelRfl
namespace Go.Proofs.YtlamfdeepofenaaDoor
/- THE CELL 'sum', in the pinned program and in every row, IS THE sha256 OF THE DUMP (.gsa) THAT YtlamfdeepofenaaDoorProg.lean LOADS. Nothing in Lean hashes anything: it is a label: what it is worth is what the hold of that sum in a sandbox is worth. -/
noncomputable def Tryd.pinned : Pinned := { name := "ytlamfdeepofenaadoor", sum := "94b1e0c24eca5e660f71a8f7601fc21a9c0856c138a2b7d0003b51f51e6154b7", checked := Tryd.checked }
namespace Rows
def none {H : Type} : Left H := { results := [], args := [] }

/- WHAT THE LISTED PACKAGE-LEVEL VARIABLES READ AS WHEN THE CALL BEGINS. Each datum BY PROGRAM (the guide's laid-datum.mjs) off the statement by which the dump's own 'gosem.cut.vars' lays the variable. In a bare row this is a premise. The card (YtlamfdeepofenaaDoorCards.lean) ties it to the program's text. -/
def laid_chirograph_oper_uses {H : Type} : DataW H := .agg [.agg [.lit (.bool false), .lit (.bool false), .lit (.bool false)], .agg [.lit (.bool false), .lit (.bool true), .lit (.bool true)], .agg [.lit (.bool true), .lit (.bool false), .lit (.bool false)], .agg [.lit (.bool true), .lit (.bool true), .lit (.bool false)], .agg [.lit (.bool true), .lit (.bool false), .lit (.bool false)], .agg [.lit (.bool true), .lit (.bool true), .lit (.bool false)], .agg [.lit (.bool true), .lit (.bool true), .lit (.bool true)], .agg [.lit (.bool true), .lit (.bool true), .lit (.bool true)], .agg [.lit (.bool false), .lit (.bool false), .lit (.bool false)]]

/-- 'chirographlaw8.SpaceOwn': WHATEVER THE INPUT: true; the input reads as it did. -/
def spaceOwnSpec : ChangeSpec := { name := "spaceOwn", fn := fun _ => fun
  | [d] => { results := [.lit (.bool true)], args := [d] }
  | _ => none }
def spaceOwnRow : OpenClaim := { program := "ytlamfdeepofenaadoor", sum := "94b1e0c24eca5e660f71a8f7601fc21a9c0856c138a2b7d0003b51f51e6154b7", func := "chirograph/chirographlaw8.SpaceOwn", spec := "spaceOwn", unfollowed := true, recurses := true, named := ["chirograph/oper.uses"], apart := false, laid := [("chirograph/oper.uses", laid_chirograph_oper_uses)] }
def SpaceOwnSaid : Prop := spaceOwnRow.holds Tryd.pinned (OpenSpec.ofChange spaceOwnSpec)

/-- ITS FALSE NEIGHBOUR: 'it returns false'. Refute it at one input. -/
def spaceOwnWrong : ChangeSpec := { name := "spaceOwn", fn := fun _ => fun
  | [d] => { results := [.lit (.bool false)], args := [d] }
  | _ => none }
def SpaceOwnWrongFalsely : Prop := spaceOwnRow.holds Tryd.pinned (OpenSpec.ofChange spaceOwnWrong)

/-- 'chirographlaw8.SpaceAsks': WHATEVER THE INPUT: true; the input reads as it did. -/
def spaceAsksSpec : ChangeSpec := { name := "spaceAsks", fn := fun _ => fun
  | [d1, d2, d3, d4] => { results := [.lit (.bool true)], args := [d1, d2, d3, d4] }
  | _ => none }
def spaceAsksRow : OpenClaim := { program := "ytlamfdeepofenaadoor", sum := "94b1e0c24eca5e660f71a8f7601fc21a9c0856c138a2b7d0003b51f51e6154b7", func := "chirograph/chirographlaw8.SpaceAsks", spec := "spaceAsks", unfollowed := true, recurses := true, named := ["chirograph/oper.uses"], apart := false, laid := [("chirograph/oper.uses", laid_chirograph_oper_uses)] }
def SpaceAsksSaid : Prop := spaceAsksRow.holds Tryd.pinned (OpenSpec.ofChange spaceAsksSpec)

/-- ITS FALSE NEIGHBOUR: 'it returns false'. Refute it at one input. -/
def spaceAsksWrong : ChangeSpec := { name := "spaceAsks", fn := fun _ => fun
  | [d1, d2, d3, d4] => { results := [.lit (.bool false)], args := [d1, d2, d3, d4] }
  | _ => none }
def SpaceAsksWrongFalsely : Prop := spaceAsksRow.holds Tryd.pinned (OpenSpec.ofChange spaceAsksWrong)

/-- 'chirographlaw8.SpacePlays': WHATEVER THE INPUT: true; the input reads as it did. -/
def spacePlaysSpec : ChangeSpec := { name := "spacePlays", fn := fun _ => fun
  | [d1, d2, d3] => { results := [.lit (.bool true)], args := [d1, d2, d3] }
  | _ => none }
def spacePlaysRow : OpenClaim := { program := "ytlamfdeepofenaadoor", sum := "94b1e0c24eca5e660f71a8f7601fc21a9c0856c138a2b7d0003b51f51e6154b7", func := "chirograph/chirographlaw8.SpacePlays", spec := "spacePlays", unfollowed := true, recurses := true, named := ["chirograph/oper.uses"], apart := false, laid := [("chirograph/oper.uses", laid_chirograph_oper_uses)] }
def SpacePlaysSaid : Prop := spacePlaysRow.holds Tryd.pinned (OpenSpec.ofChange spacePlaysSpec)

/-- ITS FALSE NEIGHBOUR: 'it returns false'. Refute it at one input. -/
def spacePlaysWrong : ChangeSpec := { name := "spacePlays", fn := fun _ => fun
  | [d1, d2, d3] => { results := [.lit (.bool false)], args := [d1, d2, d3] }
  | _ => none }
def SpacePlaysWrongFalsely : Prop := spacePlaysRow.holds Tryd.pinned (OpenSpec.ofChange spacePlaysWrong)

/-- 'chirographlaw8.SpaceWaits': WHATEVER THE INPUT: true; the input reads as it did. -/
def spaceWaitsSpec : ChangeSpec := { name := "spaceWaits", fn := fun _ => fun
  | [d1, d2] => { results := [.lit (.bool true)], args := [d1, d2] }
  | _ => none }
def spaceWaitsRow : OpenClaim := { program := "ytlamfdeepofenaadoor", sum := "94b1e0c24eca5e660f71a8f7601fc21a9c0856c138a2b7d0003b51f51e6154b7", func := "chirograph/chirographlaw8.SpaceWaits", spec := "spaceWaits", unfollowed := true, recurses := true, named := ["chirograph/oper.uses"], apart := false, laid := [("chirograph/oper.uses", laid_chirograph_oper_uses)] }
def SpaceWaitsSaid : Prop := spaceWaitsRow.holds Tryd.pinned (OpenSpec.ofChange spaceWaitsSpec)

/-- ITS FALSE NEIGHBOUR: 'it returns false'. Refute it at one input. -/
def spaceWaitsWrong : ChangeSpec := { name := "spaceWaits", fn := fun _ => fun
  | [d1, d2] => { results := [.lit (.bool false)], args := [d1, d2] }
  | _ => none }
def SpaceWaitsWrongFalsely : Prop := spaceWaitsRow.holds Tryd.pinned (OpenSpec.ofChange spaceWaitsWrong)

/-- 'chirographlaw8.SpaceFull': WHATEVER THE INPUT: true; the input reads as it did. -/
def spaceFullSpec : ChangeSpec := { name := "spaceFull", fn := fun _ => fun
  | [d1, d2, d3] => { results := [.lit (.bool true)], args := [d1, d2, d3] }
  | _ => none }
def spaceFullRow : OpenClaim := { program := "ytlamfdeepofenaadoor", sum := "94b1e0c24eca5e660f71a8f7601fc21a9c0856c138a2b7d0003b51f51e6154b7", func := "chirograph/chirographlaw8.SpaceFull", spec := "spaceFull", unfollowed := true, recurses := true, named := ["chirograph/oper.uses"], apart := false, laid := [("chirograph/oper.uses", laid_chirograph_oper_uses)] }
def SpaceFullSaid : Prop := spaceFullRow.holds Tryd.pinned (OpenSpec.ofChange spaceFullSpec)

/-- ITS FALSE NEIGHBOUR: 'it returns false'. Refute it at one input. -/
def spaceFullWrong : ChangeSpec := { name := "spaceFull", fn := fun _ => fun
  | [d1, d2, d3] => { results := [.lit (.bool false)], args := [d1, d2, d3] }
  | _ => none }
def SpaceFullWrongFalsely : Prop := spaceFullRow.holds Tryd.pinned (OpenSpec.ofChange spaceFullWrong)

/- THE SECOND FORM. 'bulk': how many values and letters a reading holds, each counted each time it is reached (what is shared counts as often as it is met; a slice's spare places count too). A statement '..UptoSaid' is the law's where the arguments, and the package variables that the reading takes, are together of bulk at most 1048576: NARROWER than '..Said'. Prove '..Said' where nothing that the law and all that it calls make is longer than what came in: it says more and counts as full. Else prove '..UptoSaid'. A law counts once. -/
mutual
def uptoBulk {H : Type} : DataW H → Nat
  | .lit (.string bytes) => bytes.length + 1
  | .lit _ => 1
  | .nil => 1
  | .ptr d => uptoBulk d + 1
  | .slice elems spare => uptoBulkAll elems + uptoBulkAll spare + 1
  | .agg parts => uptoBulkAll parts + 1
  | .iface _ d => uptoBulk d + 1
  | .map entries => uptoBulkEntries entries + 1
  | .held _ => 1
def uptoBulkAll {H : Type} : List (DataW H) → Nat
  | [] => 0
  | d :: r => uptoBulk d + uptoBulkAll r
def uptoBulkEntries {H : Type} : List (Lit × DataW H) → Nat
  | [] => 0
  | x :: r => uptoBulkEntry x + uptoBulkEntries r
def uptoBulkEntry {H : Type} : Lit × DataW H → Nat
  | (.string bytes, d) => bytes.length + uptoBulk d + 1
  | (_, d) => uptoBulk d + 1
 end
def uptoSmall : (H : Type) → List (DataW H) → Bool := fun _ ds => decide (uptoBulkAll ds ≤ 1048576)
def OpenSpec.upto (s : _root_.Go.ChangeSpec) : _root_.Go.OpenSpec := { _root_.Go.OpenSpec.ofChange s with cond := some uptoSmall }

/-- 'chirographlaw8.SpaceOwn', WHERE WHAT IT READS IS OF BULK AT MOST 1048576: true; the input reads as it did. -/
def spaceOwnUptoRow : OpenClaim := { program := "ytlamfdeepofenaadoor", sum := "94b1e0c24eca5e660f71a8f7601fc21a9c0856c138a2b7d0003b51f51e6154b7", func := "chirograph/chirographlaw8.SpaceOwn", spec := "spaceOwn", unfollowed := true, recurses := true, named := ["chirograph/oper.uses"], apart := false, laid := [("chirograph/oper.uses", laid_chirograph_oper_uses)], narrowed := true }
def SpaceOwnUptoSaid : Prop := spaceOwnUptoRow.holds Tryd.pinned (OpenSpec.upto spaceOwnSpec)

/-- 'chirographlaw8.SpaceAsks', WHERE WHAT IT READS IS OF BULK AT MOST 1048576: true; the input reads as it did. -/
def spaceAsksUptoRow : OpenClaim := { program := "ytlamfdeepofenaadoor", sum := "94b1e0c24eca5e660f71a8f7601fc21a9c0856c138a2b7d0003b51f51e6154b7", func := "chirograph/chirographlaw8.SpaceAsks", spec := "spaceAsks", unfollowed := true, recurses := true, named := ["chirograph/oper.uses"], apart := false, laid := [("chirograph/oper.uses", laid_chirograph_oper_uses)], narrowed := true }
def SpaceAsksUptoSaid : Prop := spaceAsksUptoRow.holds Tryd.pinned (OpenSpec.upto spaceAsksSpec)

/-- 'chirographlaw8.SpacePlays', WHERE WHAT IT READS IS OF BULK AT MOST 1048576: true; the input reads as it did. -/
def spacePlaysUptoRow : OpenClaim := { program := "ytlamfdeepofenaadoor", sum := "94b1e0c24eca5e660f71a8f7601fc21a9c0856c138a2b7d0003b51f51e6154b7", func := "chirograph/chirographlaw8.SpacePlays", spec := "spacePlays", unfollowed := true, recurses := true, named := ["chirograph/oper.uses"], apart := false, laid := [("chirograph/oper.uses", laid_chirograph_oper_uses)], narrowed := true }
def SpacePlaysUptoSaid : Prop := spacePlaysUptoRow.holds Tryd.pinned (OpenSpec.upto spacePlaysSpec)

/-- 'chirographlaw8.SpaceWaits', WHERE WHAT IT READS IS OF BULK AT MOST 1048576: true; the input reads as it did. -/
def spaceWaitsUptoRow : OpenClaim := { program := "ytlamfdeepofenaadoor", sum := "94b1e0c24eca5e660f71a8f7601fc21a9c0856c138a2b7d0003b51f51e6154b7", func := "chirograph/chirographlaw8.SpaceWaits", spec := "spaceWaits", unfollowed := true, recurses := true, named := ["chirograph/oper.uses"], apart := false, laid := [("chirograph/oper.uses", laid_chirograph_oper_uses)], narrowed := true }
def SpaceWaitsUptoSaid : Prop := spaceWaitsUptoRow.holds Tryd.pinned (OpenSpec.upto spaceWaitsSpec)

/-- 'chirographlaw8.SpaceFull', WHERE WHAT IT READS IS OF BULK AT MOST 1048576: true; the input reads as it did. -/
def spaceFullUptoRow : OpenClaim := { program := "ytlamfdeepofenaadoor", sum := "94b1e0c24eca5e660f71a8f7601fc21a9c0856c138a2b7d0003b51f51e6154b7", func := "chirograph/chirographlaw8.SpaceFull", spec := "spaceFull", unfollowed := true, recurses := true, named := ["chirograph/oper.uses"], apart := false, laid := [("chirograph/oper.uses", laid_chirograph_oper_uses)], narrowed := true }
def SpaceFullUptoSaid : Prop := spaceFullUptoRow.holds Tryd.pinned (OpenSpec.upto spaceFullSpec)

end Rows
end Go.Proofs.YtlamfdeepofenaaDoor
