/-
  OtsWide walked.
-/
import Derived.Test.YtohgggblnnokeaaGreatDoorOtM
namespace Go.Proofs.YtohgggblnnokeaaGreatDoor
open Go Go.RowKit Sh

theorem mod_of (m : Nat) (hm : 0 < m) (hm2 : m ≤ 1000) (n : Int) : ∃ k : Nat, k < m ∧ wrap64 ((IntKind.u64.wrap n).tmod (m : Int)) = (k : Int) := by
  have h0 : 0 ≤ IntKind.u64.wrap n := by simp [IntKind.wrap, IntKind.bits, IntKind.signed]; omega
  rw [Int.tmod_eq_emod_of_nonneg h0]
  generalize IntKind.u64.wrap n = x at *
  have h3 : 0 ≤ x % (m : Int) := Int.emod_nonneg _ (by omega)
  have h4 : x % (m : Int) < (m : Int) := Int.emod_lt_of_pos _ (by omega)
  refine ⟨(x % (m : Int)).toNat, by omega, ?_⟩
  generalize x % (m : Int) = y at *
  unfold wrap64
  omega
/-- What a law has laid down: its secret, in a block of its own. -/
structure LCap (w0 w : World) (gs : Nat) (I seed : List Nat) : Prop where
  sec : Blk w gs 26 (u8s (I ++ seed))
  bel : Below w0.heap.size w0 w
theorem LCap.below {w0 w w' : World} {gs : Nat} {I seed : List Nat} (h : LCap w0 w gs I seed) (hb : Below w.heap.size w w') : LCap w0 w' gs I seed :=
  ⟨h.sec.below hb h.sec.lt, h.bel.trans (hb.mono h.bel.size)⟩
theorem LCap.part {w0 w : World} {gs : Nat} {I seed : List Nat} (h : LCap w0 w gs I seed) : Blk w gs 26 ([] ++ (u8s I ++ u8s seed)) := by
  rw [List.nil_append, ← u8s_app]; exact h.sec
end Go.Proofs.YtohgggblnnokeaaGreatDoor
