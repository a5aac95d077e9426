/-
  OtsWide walked.
-/
import Derived.Test.YtkcjiidimmefdaaGreatDoorOtM
namespace Go.Proofs.YtkcjiidimmefdaaGreatDoor
open Go Go.RowKit Sh

theorem mod_of (m : Nat) (hm : 0 < m) (hm2 : m ≤ 1000) (n : Int) : ∃ k : Nat, k < m ∧ wrap64 ((IntKind.u64.wrap n).tmod (m : Int)) = (k : Int) := by
  have h0 : 0 ≤ IntKind.u64.wrap n := by simp [IntKind.wrap, IntKind.bits, IntKind.signed]; omega
  rw [Int.tmod_eq_emod_of_nonneg h0]
  generalize IntKind.u64.wrap n = x at *
  have h3 : 0 ≤ x % (m : Int) := Int.emod_nonneg _ (by omega)
  have h4 : x % (m : Int) < (m : Int) := Int.emod_lt_of_pos _ (by omega)
  refine ⟨(x % (m : Int)).toNat, by omega, ?_⟩
  generalize x % (m : Int) = y at *
  unfold wrap64
  omega
/-- What a law has laid down: its secret, in a block of its own. -/
structure LCap (w0 w : World) (gs : Nat) (I seed : List Nat) : Prop where
  sec : Blk w gs 27 (u8s (I ++ seed))
  bel : Below w0.heap.size w0 w
theorem LCap.below {w0 w w' : World} {gs : Nat} {I seed : List Nat} (h : LCap w0 w gs I seed) (hb : Below w.heap.size w w') : LCap w0 w' gs I seed :=
  ⟨h.sec.below hb h.sec.lt, h.bel.trans (hb.mono h.bel.size)⟩
theorem LCap.part {w0 w : World} {gs : Nat} {I seed : List Nat} (h : LCap w0 w gs I seed) : Blk w gs 27 ([] ++ (u8s I ++ u8s seed)) := by
  rw [List.nil_append, ← u8s_app]; exact h.sec
theorem below_store (w : World) (cs : List Value) (t : TypeId) (ds : Array Value) : Below w.heap.size w ((w.alloc (.cells cs.toArray t)).setRow w.heap.size ds) := below_setRow ((Below.refl _ _).alloc (Nat.le_refl _) _) (Nat.le_refl _) _
/-- A row of the call's own, taken apart. -/
theorem fresh_open {w w' : World} {v : Value} {l : List Nat} (h : Fresh 5 w w' v l) : ∃ A c, v = .slice A l.length c ∧ l.length ≤ c ∧ Sr w' A l ∧ Below w.heap.size w w' := by
  obtain ⟨A, c, e, hc⟩ := own_form h.1
  subst e
  exact ⟨A, c, rfl, hc, Sr.of_own h.1, h.2⟩
end Go.Proofs.YtkcjiidimmefdaaGreatDoor
