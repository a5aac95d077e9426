/-
  A [][]byte that came in, opened.
-/
import Derived.Test.YtkcjiidimmefdaaGreatDoorRowG
import Derived.Test.YtkcjiidimmefdaaGreatDoorTexts
namespace Go.Proofs.YtkcjiidimmefdaaGreatDoor
open Go.ChangeShapes Go.WideShapes Go.ChangeAt Go.RowKit Go.Deep Sh

theorem cellsRow : Tryz.prog.cellsOf 36 = 1 := by kernel_rfl
set_option maxRecDepth 100000 in
/-- A [][]byte that came in. -/
theorem open_texts {H : Type} {enc : TypeId × Value → H} {W : World} {base : Nat} {v : Value} {d : DataW H} {p : List MemPlace} (hval : Value.okWide Tryz.prog W .any base 46 v) (h : DataW.Trod enc Tryz.prog W 0 (fun _ => true) true 46 v d p) :
    ∃ (q : Option Addr) (n c : Nat) (A : Nat → Option Addr) (L C : Nat → Nat) (X : Nat → List Nat), v = .slice q n c ∧ Texts W q n A L C X ∧ n ≤ maxLen := by
  obtain ⟨q, n, c, rfl⟩ : ∃ A n c, v = .slice A n c := by
    cases v <;> simp [Value.okWide, Cell.okWide, Cell.ok, Tryz.underlying46] at hval ⊢
  obtain ⟨fuel, hf⟩ := h
  rcases open_int_rows Tryz.underlying46 Tryz.underlying36 Tryz.underlying5 cellsRow cellsU8 hf with ⟨hcs, _⟩ | ⟨a, len, cap, A, L, C, Z, hcs, _, hl, hm, _, hx⟩
  · simp [Value.cells] at hcs
    obtain ⟨rfl, rfl, rfl⟩ := hcs
    exact ⟨none, 0, 0, fun _ => none, fun _ => 0, fun _ => 0, fun _ => [], rfl, ⟨fun r hr => by omega, fun r hr => by omega, fun r hr => by omega, fun r hr => by omega, fun r hr => by omega, fun r hr => by omega⟩, Nat.zero_le _⟩
  · simp [Value.cells] at hcs
    obtain ⟨rfl, rfl, rfl⟩ := hcs
    have sp : ∀ r, r < n → ∃ b o, a = ⟨b, o, none⟩ := fun r hr => by
      have hs := World.cell?_spot (hx 0 (by omega)).1
      obtain ⟨b, o, s⟩ := a
      exact ⟨b, o, by simpa [Addr.add] using hs⟩
    refine ⟨some a, n, c, A, L, C, fun r => ((Z r).take (L r)).map Int.toNat, rfl, ⟨fun r hr => ?_, fun r hr => ?_, fun r hr => ?_, fun r hr => ?_, fun r hr => ?_, fun r hr => ?_⟩, by omega⟩
    · obtain ⟨b, o, rfl⟩ := sp r hr
      have hc := (hx r (by omega)).1
      rw [Addr.add_mid] at hc
      exact ⟨b, o, rfl, World.block_lt_of_cell? W _ hc, hc⟩
    all_goals obtain ⟨_, r1, r2, r3, r4, r5, r6⟩ := hx r (by omega)
    · exact (nats_of (Z r) r4 (L r) (by omega)).1
    · exact r1
    · unfold maxLen at r2; omega
    · intro h0
      obtain ⟨h1, _, h3⟩ := nats_of (Z r) r4 (L r) (by omega)
      rw [h1] at h0
      cases hA : A r with
      | none => have := r5 hA; omega
      | some a' =>
        obtain ⟨_, hc⟩ := r6 a' hA
        have hs := World.cell?_spot (hc 0 (by omega))
        obtain ⟨b, o, s⟩ := a'
        have hsp : s = none := by simpa [Addr.add] using hs
        subst hsp
        refine ⟨b, o, rfl, World.block_lt_of_cell? W _ (hc 0 (by omega)), fun j hj => ?_⟩
        rw [h1] at hj
        have h6 := hc j (by omega)
        rw [Addr.add_mid] at h6
        rw [h6, h3 j hj]
    · exact (nats_of (Z r) r4 (L r) (by omega)).2.1
end Go.Proofs.YtkcjiidimmefdaaGreatDoor
