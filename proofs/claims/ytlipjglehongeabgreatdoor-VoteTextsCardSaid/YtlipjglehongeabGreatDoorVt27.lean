/-
  PACKAGE state
  PACKAGE state
-/
import Derived.Test.YtlipjglehongeabGreatDoorVt14
import Derived.Test.YtlipjglehongeabGreatDoorVt16
import Derived.Test.YtlipjglehongeabGreatDoorVt18
namespace Go.Proofs.YtlipjglehongeabGreatDoor
open Go Go.RowKit Sh

section
variable {W0 w W W' : World} {F : Nat → Prop} {g : Nat} {l l' : List Nat}
end
end Go.Proofs.YtlipjglehongeabGreatDoor
namespace Go.Proofs.YtlipjglehongeabGreatDoor
open Go Go.RowKit Sh

section
variable {w0 w2 W W' : World} {x : Spv} {l l' : List Nat}
end
theorem take_snocS {α : Type} {l : List α} {j : Nat} {y : α} (h : l[j]? = some y) : l.take (j + 1) = l.take j ++ [y] := by rw [List.take_add_one, h]; rfl
end Go.Proofs.YtlipjglehongeabGreatDoor
