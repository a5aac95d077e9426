/-
  LAYER 16's ROWS: a []bool that came in.
-/
import Derived.Test.YtgaiheaibejloaaRowN
import Derived.ChangeSame
namespace Go.Proofs.Ytgaiheaibejloaa
open Go.ChangeShapes Go.WideShapes Go.ChangeAt Go.RowKit Go.Deep Sh

theorem cellsBoolD : Try.prog.cellsOf 4 = 1 := by kernel_rfl
set_option maxRecDepth 100000 in
/-- A []bool that came in. -/
theorem open_bs {H : Type} {enc : TypeId × Value → H} {W : World} {base : Nat} {v : Value} {d : DataW H} {p : List MemPlace} (hval : Value.okWide Try.prog W .any base 45 v) (h : DataW.Trod enc Try.prog W 0 (fun _ => true) true 45 v d p) :
    ∃ (A : Option Addr) (n c : Nat) (L : Nat → Bool), v = .slice A n c ∧ n ≤ c ∧ c ≤ maxLen ∧ ∀ j, j < n → ∃ b o, A = some ⟨b, o, none⟩ ∧ b < W.heap.size ∧ W.cell? ⟨b, o + j, none⟩ = some (.bool (L j)) := by
  obtain ⟨q, n, c, rfl⟩ : ∃ A n c, v = .slice A n c := by
    cases v <;> simp [Value.okWide, Cell.okWide, Cell.ok, Try.underlying45] at hval ⊢
  obtain ⟨fuel, hf⟩ := h
  rcases open_slice Try.underlying45 hf with ⟨hcs, _⟩ | ⟨a, len, cap, m, k, D, Pl, hcs, _, hl, hm, hmm, _, hx⟩
  · simp [Value.cells] at hcs
    obtain ⟨rfl, rfl, rfl⟩ := hcs
    exact ⟨none, 0, 0, fun _ => false, rfl, Nat.le_refl _, Nat.zero_le _, fun j hj => absurd hj (by omega)⟩
  · simp [Value.cells] at hcs
    obtain ⟨rfl, rfl, rfl⟩ := hcs
    have hlm : n ≤ m := by rw [hmm]; simp; omega
    have key : ∀ i, ∃ z : Bool, i < n → (a.spot = none ∧ W.cell? (a.add i) = some (.bool z)) := fun i => by
      by_cases hi : i < n
      · obtain ⟨cs', hc, ht⟩ := hx i (by omega)
        rw [cellsBoolD] at hc
        obtain ⟨z, c0, _⟩ := DataW.trod_bool Try.underlying4 ht
        subst c0
        obtain ⟨_, _, hcell⟩ := World.cells?_some hc
        have h0 := hcell 0 (by decide)
        have h1 := hx 0 (by omega)
        obtain ⟨cs1, hc1, ht1⟩ := h1
        rw [cellsBoolD] at hc1
        obtain ⟨z1, c1, _⟩ := DataW.trod_bool Try.underlying4 ht1
        subst c1
        have h2 := (World.cells?_some hc1).2.2 0 (by decide)
        have hs := World.cell?_spot h2
        obtain ⟨b, o, sp⟩ := a
        have hsp : sp = none := by simpa [Addr.add] using hs
        subst hsp
        refine ⟨z, fun _ => ⟨rfl, ?_⟩⟩
        simpa [Addr.add, Nat.mul_one] using h0
      · exact ⟨false, fun h => absurd h hi⟩
    obtain ⟨L, hL⟩ := Classical.axiomOfChoice key
    refine ⟨some a, n, c, L, rfl, hl, hm, fun j hj => ?_⟩
    obtain ⟨e, h1⟩ := hL j hj
    obtain ⟨b, o, sp⟩ := a
    obtain rfl : sp = none := e
    have e2 : (⟨b, o, none⟩ : Addr).add j = ⟨b, o + j, none⟩ := by unfold Addr.add; split <;> simp_all
    rw [e2] at h1
    exact ⟨b, o, rfl, World.block_lt_of_cell? W _ h1, h1⟩
end Go.Proofs.Ytgaiheaibejloaa
