/-
  Numbers in bytes, and back.
-/
import Derived.Test.YthcebaegijlbdaaDoorPkE
namespace Go.Proofs.YthcebaegijlbdaaDoor
open Go Go.RowKit Sh

theorem beN_snoc (v n : Nat) : beN v (n + 1) = beN (v / 256) n ++ [v % 256] := by
  unfold beN
  rw [List.range_succ, List.map_append]
  congr 1
  · apply List.map_congr_left
    intro i hi
    have hi' : i < n := List.mem_range.1 hi
    rw [Nat.div_div_eq_div_mul, show (256 : Nat) = 2 ^ 8 from rfl, ← Nat.pow_add]
    congr 3
    omega
  · simp
theorem val_beN (n : Nat) : ∀ v, val (beN v n) = v % 256 ^ n := by
  induction n with
  | zero => intro v; simp [beN, val, Nat.mod_one]
  | succ n ih =>
    intro v
    rw [beN_snoc, val_snoc, ih, Nat.pow_succ, Nat.mul_comm (256 ^ n) 256, Nat.mod_mul]
    omega
theorem low_of (v k : Nat) (h1 : 1 ≤ k) (h2 : k ≤ 8) : IntKind.u64.wrap ((v : Int) * 2 ^ (64 - 8 * k)) / 2 ^ (64 - 8 * k) = ((v % 256 ^ k : Nat) : Int) := by
  rw [IntKind.wrap_u64]
  have : k = 1 ∨ k = 2 ∨ k = 3 ∨ k = 4 ∨ k = 5 ∨ k = 6 ∨ k = 7 ∨ k = 8 := by omega
  rcases this with rfl | rfl | rfl | rfl | rfl | rfl | rfl | rfl <;> simp only [Nat.reduceMul, Nat.reduceSub, Nat.reducePow, Int.reducePow] <;> omega
theorem txt_len (l : List Nat) (h : l.length < 4294967296) (m : List Nat) : val ((txtN l ++ m).take 4) = l.length := by
  unfold txtN
  rw [List.append_assoc, List.take_append_of_le_length (by rw [beN_length]; omega), List.take_of_length_le (by rw [beN_length]; omega), val_beN]
  omega
theorem txt_rest (l m : List Nat) : (txtN l ++ m).drop 4 = l ++ m := by
  unfold txtN
  rw [List.append_assoc, List.drop_append_of_le_length (by rw [beN_length]; omega), List.drop_of_length_le (by rw [beN_length]; omega), List.nil_append]
theorem txt_len' (l : List Nat) (h : l.length < 4294967296) : val ((txtN l).take 4) = l.length := by
  have := txt_len l h []
  rwa [List.append_nil] at this
theorem txt_rest' (l : List Nat) : (txtN l).drop 4 = l := by
  have := txt_rest l []
  rwa [List.append_nil, List.append_nil] at this
end Go.Proofs.YthcebaegijlbdaaDoor
