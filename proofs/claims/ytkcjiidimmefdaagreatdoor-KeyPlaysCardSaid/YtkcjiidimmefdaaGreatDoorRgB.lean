/-
  THE REFERENCE OF CHAPTER 4: width, Size, Form.
-/
import Derived.Test.YtkcjiidimmefdaaGreatDoorRgA
import Derived.Test.YtkcjiidimmefdaaGreatDoorRfM
import Derived.Test.YtkcjiidimmefdaaGreatDoorLmB
namespace Go.Proofs.YtkcjiidimmefdaaGreatDoor
open Go Go.RowKit Sh

/-- The w of a typecode. -/
def widN (b : List Nat) : Nat := if 1 ≤ val b ∧ val b ≤ 4 then (kd (val b - 1)).w else 0
theorem kd_pow : ∀ j : Nat, j < 4 → (kd j).w = 2 ^ j := by decide
theorem kd_codeB : ∀ j : Nat, j < 4 → (kd j).code = j + 1 := by decide
theorem pow_le8 : ∀ j : Nat, j < 4 → 2 ^ j ≤ 8 ∧ 2 * 2 ^ j = 2 ^ (j + 1) ∧ 1 ≤ 2 ^ j := by decide
end Go.Proofs.YtkcjiidimmefdaaGreatDoor
