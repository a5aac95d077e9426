/-
  PACKAGE ots: WHAT MAY NOT BE: Public, Sign, Candidate of a width or a leaf that is none.
-/
import Derived.Test.YtohgggblnnokeaaGreatDoorOtD
namespace Go.Proofs.YtohgggblnnokeaaGreatDoor
open Go Go.RowKit Sh

def z32 : List Nat := List.replicate 32 0
theorem z32_size : (Tryz.prog.info? 24).map (·.size) = some (u8s z32).length := size32 _ rfl
theorem own_cell {w : World} {base : Nat} {v : Value} {l : List Nat} {n : Nat} (h : w.ownsRow base 3 1 v n (ints l)) (hn : 0 < n) : ∃ g c, v = .slice (some ⟨g, 0, none⟩) n c ∧ n ≤ c ∧ (∀ j, j < n → w.cell? ⟨g, j, none⟩ = some (.int .i64 ((gt l j : Nat) : Int))) ∧ g < w.heap.size := by
  obtain ⟨g, cap, rfl, _, hlt⟩ := h.form hn
  have hl : l.length = n := by have := h.1; rw [ints_length] at this; omega
  obtain ⟨_, _, e, hc⟩ := own_form h
  injection e with _ _ e
  subst e
  refine ⟨g, cap, rfl, hc, fun j hj => ?_, hlt⟩
  have := h.cells (g := g) rfl j _ (ints_get l j (by omega))
  rw [Addr.add_mid, Nat.zero_add] at this
  exact this
theorem kd_inj {i j : Nat} (hi : i < 4) (hj : j < 4) (h : (kd i).w = (kd j).w) : i = j := by
  have h1 : i = 0 ∨ i = 1 ∨ i = 2 ∨ i = 3 := by omega
  have h2 : j = 0 ∨ j = 1 ∨ j = 2 ∨ j = 3 := by omega
  rcases h1 with rfl | rfl | rfl | rfl <;> rcases h2 with rfl | rfl | rfl | rfl <;> first | rfl | (exact absurd h (by decide))
theorem chains_of (i : Nat) (hi : i < 4) (w : World) (hk : KI w) : Calls Tryz.prog 116 #[.int .i64 ((kd i).w : Int)] w fun e w' => e = .returned (.int .i64 ((kd i).p : Int)) ∧ Below w.heap.size w w' :=
  chains_t _ w hk _ (fun j _ hj hn b => by
    obtain rfl := kd_inj hi hj (by omega)
    exact ⟨rfl, b⟩) (fun _ hn _ => absurd rfl (hn i hi))
end Go.Proofs.YtohgggblnnokeaaGreatDoor
