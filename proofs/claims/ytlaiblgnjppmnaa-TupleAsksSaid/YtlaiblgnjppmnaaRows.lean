/-
  No cell of these rows narrows 'for every input' (looked for: loops, veiled, ifaces, maps, wideKeys, modest, calm, conditions, laid).
  DERIVED. THE GIVEN ROWS OF THIS SEAT. 5 by the template 'for every input the law returns true; each argument reads behind the call as it read before'; 0 by the template 'total and deterministic' (their statements: YtlaiblgnjppmnaaTotals.lean).
  GIVEN WITH THE SEED: the statements are not yours to turn. If you find one false, say at which input.
  Laid BY PROGRAM, IN A SANDBOX (cutbox-rows.mjs): the forced cells as the released guide's own fill.sh prints them over the translation 339493f0b19a0a4f… (all of the seat's roots in one cut). By AI agents, Wed Nov 11 2026. No macro, syntax, notation, axiom, sorry.
-/
import Derived.Test.YtlaiblgnjppmnaaChecked
import GoSem.Claim
import GoSem.ClaimJoined
import GoSem.ClaimMapViews
import Derived.JoinedTies
import Derived.KernelRfl
namespace Go.Proofs.Ytlaiblgnjppmnaa
/- THE CELL 'sum', in the pinned program and in every row, IS THE sha256 OF THE DUMP (.gsa) THAT YtlaiblgnjppmnaaProg.lean LOADS. Nothing in Lean hashes anything: it is a label: what it is worth is what the hold of that sum in a sandbox is worth. -/
noncomputable def Try.pinned : Pinned := { name := "ytlaiblgnjppmnaa", sum := "339493f0b19a0a4fc63368c83c7d3f38dffbc802ba1269d0effd0857a30d31a9", checked := Try.checked }
namespace Rows
def none {H : Type} : Left H := { results := [], args := [] }

/-- 'chirographlaw6.TupleTurned': WHATEVER THE INPUT: true; the input reads as it did. -/
def tupleTurnedSpec : ChangeSpec := { name := "tupleTurned", fn := fun _ => fun
  | [d1, d2, d3] => { results := [.lit (.bool true)], args := [d1, d2, d3] }
  | _ => none }
def tupleTurnedRow : OpenClaim := { program := "ytlaiblgnjppmnaa", sum := "339493f0b19a0a4fc63368c83c7d3f38dffbc802ba1269d0effd0857a30d31a9", func := "chirograph/chirographlaw6.TupleTurned", spec := "tupleTurned", unfollowed := true, recurses := true, apart := false }
def TupleTurnedSaid : Prop := tupleTurnedRow.holds Try.pinned (OpenSpec.ofChange tupleTurnedSpec)

/-- ITS FALSE NEIGHBOUR: 'it returns false'. Refute it at one input. -/
def tupleTurnedWrong : ChangeSpec := { name := "tupleTurned", fn := fun _ => fun
  | [d1, d2, d3] => { results := [.lit (.bool false)], args := [d1, d2, d3] }
  | _ => none }
def TupleTurnedWrongFalsely : Prop := tupleTurnedRow.holds Try.pinned (OpenSpec.ofChange tupleTurnedWrong)

/-- 'chirographlaw6.TupleAsks': WHATEVER THE INPUT: true; the input reads as it did. -/
def tupleAsksSpec : ChangeSpec := { name := "tupleAsks", fn := fun _ => fun
  | [d1, d2, d3] => { results := [.lit (.bool true)], args := [d1, d2, d3] }
  | _ => none }
def tupleAsksRow : OpenClaim := { program := "ytlaiblgnjppmnaa", sum := "339493f0b19a0a4fc63368c83c7d3f38dffbc802ba1269d0effd0857a30d31a9", func := "chirograph/chirographlaw6.TupleAsks", spec := "tupleAsks", unfollowed := true, recurses := true, apart := false }
def TupleAsksSaid : Prop := tupleAsksRow.holds Try.pinned (OpenSpec.ofChange tupleAsksSpec)

/-- ITS FALSE NEIGHBOUR: 'it returns false'. Refute it at one input. -/
def tupleAsksWrong : ChangeSpec := { name := "tupleAsks", fn := fun _ => fun
  | [d1, d2, d3] => { results := [.lit (.bool false)], args := [d1, d2, d3] }
  | _ => none }
def TupleAsksWrongFalsely : Prop := tupleAsksRow.holds Try.pinned (OpenSpec.ofChange tupleAsksWrong)

/-- 'chirographlaw6.TupleBack': WHATEVER THE INPUT: true; the input reads as it did. -/
def tupleBackSpec : ChangeSpec := { name := "tupleBack", fn := fun _ => fun
  | [d1, d2, d3, d4] => { results := [.lit (.bool true)], args := [d1, d2, d3, d4] }
  | _ => none }
def tupleBackRow : OpenClaim := { program := "ytlaiblgnjppmnaa", sum := "339493f0b19a0a4fc63368c83c7d3f38dffbc802ba1269d0effd0857a30d31a9", func := "chirograph/chirographlaw6.TupleBack", spec := "tupleBack", unfollowed := true, recurses := true, apart := false }
def TupleBackSaid : Prop := tupleBackRow.holds Try.pinned (OpenSpec.ofChange tupleBackSpec)

/-- ITS FALSE NEIGHBOUR: 'it returns false'. Refute it at one input. -/
def tupleBackWrong : ChangeSpec := { name := "tupleBack", fn := fun _ => fun
  | [d1, d2, d3, d4] => { results := [.lit (.bool false)], args := [d1, d2, d3, d4] }
  | _ => none }
def TupleBackWrongFalsely : Prop := tupleBackRow.holds Try.pinned (OpenSpec.ofChange tupleBackWrong)

/-- 'chirographlaw6.TupleMatch': WHATEVER THE INPUT: true; the input reads as it did. -/
def tupleMatchSpec : ChangeSpec := { name := "tupleMatch", fn := fun _ => fun
  | [d1, d2, d3] => { results := [.lit (.bool true)], args := [d1, d2, d3] }
  | _ => none }
def tupleMatchRow : OpenClaim := { program := "ytlaiblgnjppmnaa", sum := "339493f0b19a0a4fc63368c83c7d3f38dffbc802ba1269d0effd0857a30d31a9", func := "chirograph/chirographlaw6.TupleMatch", spec := "tupleMatch", unfollowed := true, recurses := true, apart := false }
def TupleMatchSaid : Prop := tupleMatchRow.holds Try.pinned (OpenSpec.ofChange tupleMatchSpec)

/-- ITS FALSE NEIGHBOUR: 'it returns false'. Refute it at one input. -/
def tupleMatchWrong : ChangeSpec := { name := "tupleMatch", fn := fun _ => fun
  | [d1, d2, d3] => { results := [.lit (.bool false)], args := [d1, d2, d3] }
  | _ => none }
def TupleMatchWrongFalsely : Prop := tupleMatchRow.holds Try.pinned (OpenSpec.ofChange tupleMatchWrong)

/-- 'chirographlaw6.TupleKinds': WHATEVER THE INPUT: true; the input reads as it did. -/
def tupleKindsSpec : ChangeSpec := { name := "tupleKinds", fn := fun _ => fun
  | [d1, d2, d3, d4] => { results := [.lit (.bool true)], args := [d1, d2, d3, d4] }
  | _ => none }
def tupleKindsRow : OpenClaim := { program := "ytlaiblgnjppmnaa", sum := "339493f0b19a0a4fc63368c83c7d3f38dffbc802ba1269d0effd0857a30d31a9", func := "chirograph/chirographlaw6.TupleKinds", spec := "tupleKinds", unfollowed := true, recurses := true, apart := false }
def TupleKindsSaid : Prop := tupleKindsRow.holds Try.pinned (OpenSpec.ofChange tupleKindsSpec)

/-- ITS FALSE NEIGHBOUR: 'it returns false'. Refute it at one input. -/
def tupleKindsWrong : ChangeSpec := { name := "tupleKinds", fn := fun _ => fun
  | [d1, d2, d3, d4] => { results := [.lit (.bool false)], args := [d1, d2, d3, d4] }
  | _ => none }
def TupleKindsWrongFalsely : Prop := tupleKindsRow.holds Try.pinned (OpenSpec.ofChange tupleKindsWrong)

/- THE SECOND FORM. 'bulk': how many values and letters a reading holds, each counted each time it is reached (what is shared counts as often as it is met; a slice's spare places count too). A statement '..UptoSaid' is the law's where the arguments, and the package variables that the reading takes, are together of bulk at most 1048576: NARROWER than '..Said'. Prove '..Said' where nothing that the law and all that it calls make is longer than what came in: it says more and counts as full. Else prove '..UptoSaid'. A law counts once. -/
mutual
def uptoBulk {H : Type} : DataW H → Nat
  | .lit (.string bytes) => bytes.length + 1
  | .lit _ => 1
  | .nil => 1
  | .ptr d => uptoBulk d + 1
  | .slice elems spare => uptoBulkAll elems + uptoBulkAll spare + 1
  | .agg parts => uptoBulkAll parts + 1
  | .iface _ d => uptoBulk d + 1
  | .map entries => uptoBulkEntries entries + 1
  | .held _ => 1
def uptoBulkAll {H : Type} : List (DataW H) → Nat
  | [] => 0
  | d :: r => uptoBulk d + uptoBulkAll r
def uptoBulkEntries {H : Type} : List (Lit × DataW H) → Nat
  | [] => 0
  | x :: r => uptoBulkEntry x + uptoBulkEntries r
def uptoBulkEntry {H : Type} : Lit × DataW H → Nat
  | (.string bytes, d) => bytes.length + uptoBulk d + 1
  | (_, d) => uptoBulk d + 1
 end
def uptoSmall : (H : Type) → List (DataW H) → Bool := fun _ ds => decide (uptoBulkAll ds ≤ 1048576)
def OpenSpec.upto (s : _root_.Go.ChangeSpec) : _root_.Go.OpenSpec := { _root_.Go.OpenSpec.ofChange s with cond := some uptoSmall }

/-- 'chirographlaw6.TupleTurned', WHERE WHAT IT READS IS OF BULK AT MOST 1048576: true; the input reads as it did. -/
def tupleTurnedUptoRow : OpenClaim := { program := "ytlaiblgnjppmnaa", sum := "339493f0b19a0a4fc63368c83c7d3f38dffbc802ba1269d0effd0857a30d31a9", func := "chirograph/chirographlaw6.TupleTurned", spec := "tupleTurned", unfollowed := true, recurses := true, apart := false, narrowed := true }
def TupleTurnedUptoSaid : Prop := tupleTurnedUptoRow.holds Try.pinned (OpenSpec.upto tupleTurnedSpec)

/-- 'chirographlaw6.TupleAsks', WHERE WHAT IT READS IS OF BULK AT MOST 1048576: true; the input reads as it did. -/
def tupleAsksUptoRow : OpenClaim := { program := "ytlaiblgnjppmnaa", sum := "339493f0b19a0a4fc63368c83c7d3f38dffbc802ba1269d0effd0857a30d31a9", func := "chirograph/chirographlaw6.TupleAsks", spec := "tupleAsks", unfollowed := true, recurses := true, apart := false, narrowed := true }
def TupleAsksUptoSaid : Prop := tupleAsksUptoRow.holds Try.pinned (OpenSpec.upto tupleAsksSpec)

/-- 'chirographlaw6.TupleBack', WHERE WHAT IT READS IS OF BULK AT MOST 1048576: true; the input reads as it did. -/
def tupleBackUptoRow : OpenClaim := { program := "ytlaiblgnjppmnaa", sum := "339493f0b19a0a4fc63368c83c7d3f38dffbc802ba1269d0effd0857a30d31a9", func := "chirograph/chirographlaw6.TupleBack", spec := "tupleBack", unfollowed := true, recurses := true, apart := false, narrowed := true }
def TupleBackUptoSaid : Prop := tupleBackUptoRow.holds Try.pinned (OpenSpec.upto tupleBackSpec)

/-- 'chirographlaw6.TupleMatch', WHERE WHAT IT READS IS OF BULK AT MOST 1048576: true; the input reads as it did. -/
def tupleMatchUptoRow : OpenClaim := { program := "ytlaiblgnjppmnaa", sum := "339493f0b19a0a4fc63368c83c7d3f38dffbc802ba1269d0effd0857a30d31a9", func := "chirograph/chirographlaw6.TupleMatch", spec := "tupleMatch", unfollowed := true, recurses := true, apart := false, narrowed := true }
def TupleMatchUptoSaid : Prop := tupleMatchUptoRow.holds Try.pinned (OpenSpec.upto tupleMatchSpec)

/-- 'chirographlaw6.TupleKinds', WHERE WHAT IT READS IS OF BULK AT MOST 1048576: true; the input reads as it did. -/
def tupleKindsUptoRow : OpenClaim := { program := "ytlaiblgnjppmnaa", sum := "339493f0b19a0a4fc63368c83c7d3f38dffbc802ba1269d0effd0857a30d31a9", func := "chirograph/chirographlaw6.TupleKinds", spec := "tupleKinds", unfollowed := true, recurses := true, apart := false, narrowed := true }
def TupleKindsUptoSaid : Prop := tupleKindsUptoRow.holds Try.pinned (OpenSpec.upto tupleKindsSpec)

end Rows
end Go.Proofs.Ytlaiblgnjppmnaa
