/-
  OtsArgs walked.
-/
import Derived.Test.YtohgggblnnokeaaGreatDoorOtE
namespace Go.Proofs.YtohgggblnnokeaaGreatDoor
open Go Go.RowKit Sh

theorem size48 (l : List Nat) (h : l.length = 48) : (Tryz.prog.info? 26).map (·.size) = some (u8s l).length := by
  rw [u8s_length, h]
  kernel_rfl
theorem size16 (l : List Nat) (h : l.length = 16) : (Tryz.prog.info? 22).map (·.size) = some (u8s l).length := by
  rw [u8s_length, h]
  kernel_rfl
end Go.Proofs.YtohgggblnnokeaaGreatDoor
