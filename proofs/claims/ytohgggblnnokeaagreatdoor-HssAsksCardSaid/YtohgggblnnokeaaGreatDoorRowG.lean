/-
  THE ROWS' ENDS, for any seat: what a law that answers true and turns nothing old owes; arguments opened.
-/
import Derived.Test.YtohgggblnnokeaaGreatDoorBaseM
import Derived.Test.YtohgggblnnokeaaGreatDoorRows
import Derived.WalkKit
import Derived.ProofKit
import Derived.OpenShut
import Derived.Carry
import Derived.JoinedCond
import Derived.Deep.Matrix
namespace Go.Proofs.YtohgggblnnokeaaGreatDoor
open Go.ChangeShapes Go.WideShapes Go.ChangeAt Go.RowKit Go.Deep Sh

section
variable {H : Type} {enc : TypeId × Value → H}
theorem cellsU8 : Tryz.prog.cellsOf 5 = 1 := by kernel_rfl
theorem nats_of (zs : List Int) (hz : ∀ n ∈ zs, (Lit.int .u8 n).wf = true) (len : Nat) (hl : len ≤ zs.length) : ((zs.take len).map Int.toNat).length = len ∧ Bytes ((zs.take len).map Int.toNat) ∧ ∀ j, j < len → ((gt ((zs.take len).map Int.toNat) j : Nat) : Int) = zs.getD j 0 := by
  have each : ∀ j, j < len → ((gt ((zs.take len).map Int.toNat) j : Nat) : Int) = zs.getD j 0 ∧ gt ((zs.take len).map Int.toNat) j < 256 := fun j hj => by
    have hjz : j < zs.length := by omega
    have hb := bounds_u8 (hz zs[j] (List.getElem_mem _))
    simp [gt, List.getD_eq_getElem?_getD, hj, hjz]
    omega
  refine ⟨by simp; omega, fun i => ?_, fun j hj => (each j hj).1⟩
  rcases Nat.lt_or_ge i len with h | h
  · exact (each i h).2
  · rw [gt_out (by simp; omega)]; decide
set_option maxRecDepth 100000 in
/-- A []byte that came in. -/
theorem open_u8s {W : World} {base : Nat} {v : Value} {d : DataW H} {p : List MemPlace} (hval : Value.okWide Tryz.prog W .any base 27 v) (h : DataW.Trod enc Tryz.prog W 0 (fun _ => true) true 27 v d p) :
    ∃ (A : Option Addr) (n c : Nat) (xs : List Nat), v = .slice A n c ∧ xs.length = n ∧ Sr W A xs ∧ Bytes xs ∧ n ≤ c ∧ c ≤ maxLen := by
  obtain ⟨A, n, c, rfl⟩ : ∃ A n c, v = .slice A n c := by
    cases v <;> simp [Value.okWide, Cell.okWide, Cell.ok, Tryz.underlying27] at hval ⊢
  obtain ⟨fuel, hf⟩ := h
  rcases open_ints Tryz.underlying27 Tryz.underlying5 cellsU8 hf with ⟨hcs, _⟩ | ⟨a, len, cap, zs, hcs, _, hl, hm, hz, _, hcell, hwz⟩
  · simp [Value.cells] at hcs
    obtain ⟨rfl, rfl, rfl⟩ := hcs
    exact ⟨none, 0, 0, [], rfl, rfl, Sr.nil, fun i => by simp [gt], Nat.le_refl _, Nat.zero_le _⟩
  · simp [Value.cells] at hcs
    obtain ⟨rfl, rfl, rfl⟩ := hcs
    simp only [if_true] at hz
    obtain ⟨h1, h2, h3⟩ := nats_of zs hwz n (by omega)
    refine ⟨some a, n, c, (zs.take n).map Int.toNat, rfl, h1, fun hx => ?_, h2, hl, hm⟩
    rw [h1] at hx
    have hs := World.cell?_spot (hcell 0 (by omega))
    obtain ⟨b, o, sp⟩ := a
    have hsp : sp = none := by simpa [Addr.add] using hs
    subst hsp
    refine ⟨b, o, rfl, World.block_lt_of_cell? W _ (hcell 0 (by omega)), fun j hj => ?_⟩
    rw [h1] at hj
    have := hcell j (by omega)
    rw [Addr.add_mid] at this
    rw [this, h3 j hj]
end
end Go.Proofs.YtohgggblnnokeaaGreatDoor
