/-
  LmForms, over Nat: which of its texts have the form of a key.
-/
import Derived.Test.YtahghfjjpbjemaaDoorLmB
import Derived.Laws.MakeOwn
namespace Go.Proofs.YtahghfjjpbjemaaDoor
open Go Go.RowKit Sh

def keyP (k a b : Nat) : List Nat := ((List.replicate k 0).set 3 a).set 7 b
theorem keyP_length (k a b : Nat) : (keyP k a b).length = k := by simp [keyP]
theorem keyP_bytes (k a b : Nat) (ha : a < 256) (hb : b < 256) : Bytes (keyP k a b) := sl_bytes (fun x hx => by
  unfold keyP at hx
  rcases List.mem_or_eq_of_mem_set hx with h | rfl
  · rcases List.mem_or_eq_of_mem_set h with h | rfl
    · rw [List.eq_of_mem_replicate h]; decide
    · exact ha
  · exact hb)
theorem keyP_at (k a b j : Nat) (h3 : j ≠ 3) (h7 : j ≠ 7) : gt (keyP k a b) j = 0 := by
  unfold keyP gt
  rw [List.getD_eq_getElem?_getD, List.getElem?_set_ne (by omega), List.getElem?_set_ne (by omega)]
  rcases Nat.lt_or_ge j k with h | h
  · rw [List.getElem?_replicate, if_pos h]; rfl
  · rw [List.getElem?_replicate, if_neg (by omega)]; rfl
theorem keyP_3 (k a b : Nat) (hk : 8 ≤ k) : gt (keyP k a b) 3 = a := by
  unfold keyP gt
  rw [List.getD_eq_getElem?_getD, List.getElem?_set_ne (by decide), List.getElem?_set_self (by simp; omega)]; rfl
theorem keyP_7 (k a b : Nat) (hk : 8 ≤ k) : gt (keyP k a b) 7 = b := by
  unfold keyP gt
  rw [List.getD_eq_getElem?_getD, List.getElem?_set_self (by simp; omega)]; rfl
def mayN (k a b : Nat) : Bool := decide (k = 56 ∧ a = 5 ∧ 1 ≤ b ∧ b ≤ 4)
theorem val4 (a b c d : Nat) : val [a, b, c, d] = a * 16777216 + b * 65536 + c * 256 + d := by simp [val]; omega
theorem form_dec (p q : Prop) [Decidable p] [Decidable q] (h : p ↔ q) : decide p = decide q := by simp [h]
theorem formP (k a b j x : Nat) (ha : a < 8) (hb : b < 7) (h3 : j ≠ 3) (h7 : j ≠ 7) : formN ((keyP k a b).set j x) = (mayN k a b && (decide (8 ≤ j) || decide (x = 0))) := by
  unfold formN mayN
  rw [← Bool.decide_or, ← Bool.decide_and]
  apply form_dec
  rw [List.length_set, keyP_length]
  by_cases hk : k = 56
  · subst hk
    rcases Nat.lt_or_ge j 8 with h8 | h8
    · have : j = 0 ∨ j = 1 ∨ j = 2 ∨ j = 4 ∨ j = 5 ∨ j = 6 := by omega
      rcases this with rfl | rfl | rfl | rfl | rfl | rfl
      · rw [show ((keyP 56 a b).set 0 x).take 4 = [x, 0, 0, a] from rfl, show (((keyP 56 a b).set 0 x).drop 4).take 4 = [0, 0, 0, b] from rfl, val4, val4]; omega
      · rw [show ((keyP 56 a b).set 1 x).take 4 = [0, x, 0, a] from rfl, show (((keyP 56 a b).set 1 x).drop 4).take 4 = [0, 0, 0, b] from rfl, val4, val4]; omega
      · rw [show ((keyP 56 a b).set 2 x).take 4 = [0, 0, x, a] from rfl, show (((keyP 56 a b).set 2 x).drop 4).take 4 = [0, 0, 0, b] from rfl, val4, val4]; omega
      · rw [show ((keyP 56 a b).set 4 x).take 4 = [0, 0, 0, a] from rfl, show (((keyP 56 a b).set 4 x).drop 4).take 4 = [x, 0, 0, b] from rfl, val4, val4]; omega
      · rw [show ((keyP 56 a b).set 5 x).take 4 = [0, 0, 0, a] from rfl, show (((keyP 56 a b).set 5 x).drop 4).take 4 = [0, x, 0, b] from rfl, val4, val4]; omega
      · rw [show ((keyP 56 a b).set 6 x).take 4 = [0, 0, 0, a] from rfl, show (((keyP 56 a b).set 6 x).drop 4).take 4 = [0, 0, x, b] from rfl, val4, val4]; omega
    · rw [show ((keyP 56 a b).set j x).take 4 = [0, 0, 0, a] from by rw [List.take_set, List.set_eq_of_length_le (by simp [keyP_length]; omega)]; rfl,
        show (((keyP 56 a b).set j x).drop 4).take 4 = [0, 0, 0, b] from by rw [List.drop_set, if_neg (by omega), List.take_set, List.set_eq_of_length_le (by simp [keyP_length]; omega)]; rfl, val4, val4]
      omega
  · simp [hk]
theorem made_zero (k : Nat) : madeCells #[Value.int .u8 0] k = (u8s (List.replicate k 0)).toArray := by
  apply Array.ext
  · rw [size_madeCells, List.size_toArray, u8s_length, List.length_replicate]
  · intro i h1 h2
    simp [madeCells, u8s, Nat.mod_one]
theorem xor_u8 (a : Nat) (ha : a < 256) : bits .xor .u8 0 (a : Int) = (a : Int) := by
  have : ∀ a : Nat, a < 256 → bits .xor .u8 0 (a : Int) = (a : Int) := by decide +kernel
  exact this a ha
/-- 'int(uint(n) % m)'. -/
theorem mod_u (m : Nat) (hm : 0 < m) (hm2 : m ≤ 1000) (n : Int) : ∃ k : Nat, k < m ∧ wrap64 ((IntKind.u64.wrap n).tmod (m : Int)) = (k : Int) := by
  have h0 : 0 ≤ IntKind.u64.wrap n := by simp [IntKind.wrap, IntKind.bits, IntKind.signed]; omega
  rw [Int.tmod_eq_emod_of_nonneg h0]
  generalize IntKind.u64.wrap n = x at *
  have h3 : 0 ≤ x % (m : Int) := Int.emod_nonneg _ (by omega)
  have h4 : x % (m : Int) < (m : Int) := Int.emod_lt_of_pos _ (by omega)
  refine ⟨(x % (m : Int)).toNat, by omega, ?_⟩
  generalize x % (m : Int) = y at *
  unfold wrap64
  omega
end Go.Proofs.YtahghfjjpbjemaaDoor
