import Derived.Test.YtkcjiidimmefdaaGreatDoorRow
namespace Go.Proofs.YtkcjiidimmefdaaGreatDoor
open Go.ChangeShapes Go.WideShapes Go.ChangeAt Go.RowKit Sh

/-- A world for the witness: the settled one, the table K laid as its initialiser lays it. -/
noncomputable def laidWorld (os : Os) : World :=
  { World.holding Tryz.prog os ⟨#[], #[], []⟩ with heap := (World.holding Tryz.prog os ⟨#[], #[], []⟩).heap.modify 1 fun
      | .cells _ t frozen => .cells (u32s ks).toArray t frozen
      | o => o }
end Go.Proofs.YtkcjiidimmefdaaGreatDoor
