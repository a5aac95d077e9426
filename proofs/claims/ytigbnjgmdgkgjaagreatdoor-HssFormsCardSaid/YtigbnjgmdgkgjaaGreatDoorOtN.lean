/-
  PACKAGE ots: THE CANDIDATE OF A SIGNATURE IS THE PUBLIC KEY (3.5).
-/
import Derived.Test.YtigbnjgmdgkgjaaGreatDoorOtV
import Derived.Test.YtigbnjgmdgkgjaaGreatDoorPkM
namespace Go.Proofs.YtigbnjgmdgkgjaaGreatDoor
open Go Go.RowKit Sh

theorem catN_piece (E : Nat → List Nat) : ∀ (k : Nat), (∀ j, j < k → (E j).length = 32) → ∀ j, j < k → ((catN E k).drop (32 * j)).take 32 = E j
  | 0, _, j, hj => absurd hj (by omega)
  | k + 1, h, j, hj => by
    have hl := catN_length E k (fun j hj => h j (by omega))
    rw [catN]
    rcases Nat.lt_or_ge j k with hlt | hge
    · rw [List.drop_append_of_le_length (by omega), List.take_append_of_le_length (by rw [List.length_drop]; omega)]
      exact catN_piece E k (fun j hj => h j (by omega)) j hlt
    · obtain rfl : j = k := by omega
      rw [← hl, List.drop_left, List.take_of_length_le (by rw [h j (by omega)]; exact Nat.le_refl _)]
theorem sig_piece0 (I seed : List Nat) (q i : Nat) (msg : List Nat) : piece (sigN I seed q i msg) 0 = sigC I seed q := by
  unfold piece sigN
  rw [List.append_assoc, show 4 + 32 * 0 = (beN (kd i).code 4).length from by rw [beN_length], List.drop_left]
  exact List.take_left' rfl
theorem sig_piece (I seed : List Nat) (q i : Nat) (msg : List Nat) (j : Nat) (hj : j < (kd i).p) : piece (sigN I seed q i msg) (1 + j) = sigE I seed q i (msgN I q (sigC I seed q) msg) j := by
  unfold piece sigN
  have hl : (beN (kd i).code 4 ++ sigC I seed q).length = 36 := by rw [List.length_append, beN_length]; rfl
  rw [show 4 + 32 * (1 + j) = (beN (kd i).code 4 ++ sigC I seed q).length + 32 * j from by rw [hl]; omega, ← List.drop_drop, List.drop_left]
  exact catN_piece _ _ (fun _ _ => walkN_length _ _ _ _ _ _ rfl) j hj
theorem sig_code (I seed : List Nat) (q i : Nat) (msg : List Nat) (hi : i < 4) : val ((sigN I seed q i msg).take 4) = (kd i).code := by
  unfold sigN
  rw [List.append_assoc, List.take_append_of_le_length (by rw [beN_length]; exact Nat.le_refl _), List.take_of_length_le (by rw [beN_length]; exact Nat.le_refl _), val_beN]
  have : i = 0 ∨ i = 1 ∨ i = 2 ∨ i = 3 := by omega
  rcases this with rfl | rfl | rfl | rfl <;> decide
/-- 3.5 -/
theorem cand_sign (I seed : List Nat) (q i : Nat) (msg : List Nat) : candN I q i msg (sigN I seed q i msg) = pubN I seed q i := by
  unfold candN pubN
  rw [sig_piece0]
  congr 1
  refine catN_congr _ fun j hj => ?_
  unfold candE tipN
  rw [sig_piece I seed q i msg j hj, digL_get i j hj]
  unfold sigE
  have h := walkN_add I q j 0 (digN (kd i).w (kd i).ls (msgN I q (sigC I seed q) msg) j) (2 ^ (kd i).w - 1 - digN (kd i).w (kd i).ls (msgN I q (sigC I seed q) msg) j) (secN I seed q j)
  rw [Nat.zero_add] at h
  rw [h]
  congr 1
  have := digN_le i j (msgN I q (sigC I seed q) msg)
  omega
theorem pubN_length (I seed : List Nat) (q i : Nat) : (pubN I seed q i).length = 32 := rfl
theorem candN_length (I : List Nat) (q i : Nat) (msg xs : List Nat) : (candN I q i msg xs).length = 32 := rfl
end Go.Proofs.YtigbnjgmdgkgjaaGreatDoor
