/-
  OtsSums: what its two loops hold, over Nat. (The law itself is not walked yet.)
-/
import Derived.Test.YtahghfjjpbjemaaDoorOtEq
namespace Go.Proofs.YtahghfjjpbjemaaDoor
open Go Go.RowKit Sh

/-- The digest's byte j, of which the first n digits (of v bits) have been laid back. -/
def backB (v n x j : Nat) : Nat := x / 2 ^ (8 - v * min (n - j * (8 / v)) (8 / v)) * 2 ^ (8 - v * min (n - j * (8 / v)) (8 / v))
def backN (v : Nat) (h : List Nat) (n : Nat) : List Nat := (List.range 32).map fun j => backB v n (gt h j) j
theorem backN_length (v : Nat) (h : List Nat) (n : Nat) : (backN v h n).length = 32 := by simp [backN]
theorem backN_get (v : Nat) (h : List Nat) (n j : Nat) (hj : j < 32) : gt (backN v h n) j = backB v n (gt h j) j := by
  rw [gt_of_lt (by rw [backN_length]; exact hj)]
  simp [backN]
theorem backN_zero (v : Nat) (h : List Nat) (hb : Bytes h) : backN v h 0 = List.replicate 32 0 := by
  apply List.ext_getElem (by simp [backN])
  intro j h1 h2
  have hj := hb j
  have e : (backN v h 0)[j]'h1 = backB v 0 (gt h j) j := by simp [backN]
  refine e.trans ?_
  rw [List.getElem_replicate]
  unfold backB
  simp
  omega
theorem backN_last (v : Nat) (hv : v = 1 ∨ v = 2 ∨ v = 4 ∨ v = 8) (h : List Nat) (hl : h.length = 32) : backN v h (256 / v) = h := by
  apply List.ext_getElem (by rw [backN_length, hl])
  intro j h1 h2
  have hj : j < 32 := by rw [← hl]; exact h2
  have e : (backN v h (256 / v))[j] = backB v (256 / v) (gt h j) j := by simp [backN]
  refine e.trans ?_
  rw [← gt_of_lt h2]
  unfold backB
  have : v * min (256 / v - j * (8 / v)) (8 / v) = 8 := by
    rcases hv with rfl | rfl | rfl | rfl <;> omega
  rw [this]
  simp
/-- One digit more, laid by 'or'. -/
theorem or_digit : ∀ v, v = 1 ∨ v = 2 ∨ v = 4 ∨ v = 8 → ∀ r, r < 8 / v → ∀ x, x < 256 →
    (x / 2 ^ (8 - v * r) * 2 ^ (8 - v * r)) ||| (x / 2 ^ (8 - v * (r + 1)) % 2 ^ v * 2 ^ (8 - v * (r + 1))) = x / 2 ^ (8 - v * (r + 1)) * 2 ^ (8 - v * (r + 1)) := by
  have k1 : ∀ r, r < 8 → ∀ x, x < 256 → (x / 2 ^ (8 - 1 * r) * 2 ^ (8 - 1 * r)) ||| (x / 2 ^ (8 - 1 * (r + 1)) % 2 ^ 1 * 2 ^ (8 - 1 * (r + 1))) = x / 2 ^ (8 - 1 * (r + 1)) * 2 ^ (8 - 1 * (r + 1)) := by decide +kernel
  have k2 : ∀ r, r < 4 → ∀ x, x < 256 → (x / 2 ^ (8 - 2 * r) * 2 ^ (8 - 2 * r)) ||| (x / 2 ^ (8 - 2 * (r + 1)) % 2 ^ 2 * 2 ^ (8 - 2 * (r + 1))) = x / 2 ^ (8 - 2 * (r + 1)) * 2 ^ (8 - 2 * (r + 1)) := by decide +kernel
  have k4 : ∀ r, r < 2 → ∀ x, x < 256 → (x / 2 ^ (8 - 4 * r) * 2 ^ (8 - 4 * r)) ||| (x / 2 ^ (8 - 4 * (r + 1)) % 2 ^ 4 * 2 ^ (8 - 4 * (r + 1))) = x / 2 ^ (8 - 4 * (r + 1)) * 2 ^ (8 - 4 * (r + 1)) := by decide +kernel
  have k8 : ∀ r, r < 1 → ∀ x, x < 256 → (x / 2 ^ (8 - 8 * r) * 2 ^ (8 - 8 * r)) ||| (x / 2 ^ (8 - 8 * (r + 1)) % 2 ^ 8 * 2 ^ (8 - 8 * (r + 1))) = x / 2 ^ (8 - 8 * (r + 1)) * 2 ^ (8 - 8 * (r + 1)) := by decide +kernel
  intro v hv r hr x hx
  rcases hv with rfl | rfl | rfl | rfl
  · exact k1 r hr x hx
  · exact k2 r hr x hx
  · exact k4 r hr x hx
  · exact k8 r hr x hx
theorem backN_step (v : Nat) (hv : v = 1 ∨ v = 2 ∨ v = 4 ∨ v = 8) (h : List Nat) (hb : Bytes h) (n : Nat) (hn : n < 256 / v) :
    (backN v h n).set (n / (8 / v)) (gt (backN v h n) (n / (8 / v)) ||| coefN v h n * 2 ^ (8 - v * (n % (8 / v) + 1))) = backN v h (n + 1) := by
  have hj : n / (8 / v) < 32 := by rcases hv with rfl | rfl | rfl | rfl <;> omega
  have m1 : min (n - n / (8 / v) * (8 / v)) (8 / v) = n % (8 / v) := by rcases hv with rfl | rfl | rfl | rfl <;> omega
  have m2 : min (n + 1 - n / (8 / v) * (8 / v)) (8 / v) = n % (8 / v) + 1 := by rcases hv with rfl | rfl | rfl | rfl <;> omega
  have m3 : n % (8 / v) < 8 / v := by rcases hv with rfl | rfl | rfl | rfl <;> omega
  have m4 : ∀ j, n / (8 / v) ≠ j → min (n + 1 - j * (8 / v)) (8 / v) = min (n - j * (8 / v)) (8 / v) := fun j hne => by
    rcases hv with rfl | rfl | rfl | rfl <;> omega
  rw [backN_get _ _ _ _ hj]
  apply List.ext_getElem (by rw [List.length_set, backN_length, backN_length])
  intro j h1 h2
  have e : (backN v h (n + 1))[j]'h2 = backB v (n + 1) (gt h j) j := by simp [backN]
  refine Eq.trans ?_ e.symm
  rw [List.getElem_set]
  split
  · rename_i hij
    subst hij
    unfold backB coefN
    rw [m1, m2]
    exact or_digit v hv _ m3 _ (hb _)
  · rename_i hij
    have e0 : (backN v h n)[j]'(by rw [backN_length]; rw [backN_length] at h2; exact h2) = backB v n (gt h j) j := by simp [backN]
    refine e0.trans ?_
    unfold backB
    rw [m4 j hij]
/-- What the checksum's digits come to, glued: its first v·m bits of 16. -/
theorem glue_step (v : Nat) (c : Nat) (hc : c < 65536) (h : List Nat) (hl : h.length = 32) (m : Nat) (hv : (v = 1 ∧ m < 9) ∨ (v = 2 ∧ m < 5) ∨ (v = 4 ∧ m < 3) ∨ (v = 8 ∧ m < 2)) :
    c / 2 ^ (16 - v * (m + 1)) = c / 2 ^ (16 - v * m) * 2 ^ v + coefN v (h ++ [c / 256 % 256, c % 256]) (256 / v + m) := by
  have g1 : gt (h ++ [c / 256 % 256, c % 256]) 32 = c / 256 % 256 := by
    rw [gt_of_lt (by simp [hl])]; simp [List.getElem_append_right, hl]
  have g2 : gt (h ++ [c / 256 % 256, c % 256]) 33 = c % 256 := by
    rw [gt_of_lt (by simp [hl])]; simp [List.getElem_append_right, hl]
  unfold coefN
  rcases hv with ⟨rfl, hm⟩ | ⟨rfl, hm⟩ | ⟨rfl, hm⟩ | ⟨rfl, hm⟩
  · have : m = 0 ∨ m = 1 ∨ m = 2 ∨ m = 3 ∨ m = 4 ∨ m = 5 ∨ m = 6 ∨ m = 7 ∨ m = 8 := by omega
    rcases this with rfl | rfl | rfl | rfl | rfl | rfl | rfl | rfl | rfl <;> simp only [Nat.reduceDiv, Nat.reduceAdd, Nat.reduceMul, Nat.reduceSub, Nat.reducePow, Nat.reduceMod, g1, g2] <;> omega
  · have : m = 0 ∨ m = 1 ∨ m = 2 ∨ m = 3 ∨ m = 4 := by omega
    rcases this with rfl | rfl | rfl | rfl | rfl <;> simp only [Nat.reduceDiv, Nat.reduceAdd, Nat.reduceMul, Nat.reduceSub, Nat.reducePow, Nat.reduceMod, g1, g2] <;> omega
  · have : m = 0 ∨ m = 1 ∨ m = 2 := by omega
    rcases this with rfl | rfl | rfl <;> simp only [Nat.reduceDiv, Nat.reduceAdd, Nat.reduceMul, Nat.reduceSub, Nat.reducePow, Nat.reduceMod, g1, g2] <;> omega
  · have : m = 0 ∨ m = 1 := by omega
    rcases this with rfl | rfl <;> simp only [Nat.reduceDiv, Nat.reduceAdd, Nat.reduceMul, Nat.reduceSub, Nat.reducePow, Nat.reduceMod, g1, g2] <;> omega
theorem toNat64 (a : Nat) (ha : a < 4611686018427387904) : (BitVec.ofInt 64 (a : Int)).toNat = a := by
  rw [BitVec.ofInt_natCast, BitVec.toNat_ofNat]
  exact Nat.mod_eq_of_lt (by omega)
theorem or_i64 (a b : Nat) (ha : a < 4611686018427387904) (hb : b < 4611686018427387904) : bits .or .i64 (a : Int) (b : Int) = ((a ||| b : Nat) : Int) := by
  have hx : a ||| b < 2 ^ 62 := Nat.or_lt_two_pow ha hb
  show IntKind.i64.wrap ((BitVec.ofInt 64 (a : Int) ||| BitVec.ofInt 64 (b : Int)).toNat : Int) = _
  rw [BitVec.toNat_or, toNat64 a ha, toNat64 b hb]
  exact IntWalk.i64_in _ (by omega)
/-- 'a << v | d', d a digit. -/
theorem or_glue (a d v : Nat) (hd : d < 2 ^ v) : a * 2 ^ v ||| d = a * 2 ^ v + d := by
  rw [Nat.mul_comm, Nat.two_pow_add_eq_or_of_lt hd]
end Go.Proofs.YtahghfjjpbjemaaDoor
