/-
  PACKAGE space
  PACKAGE space
  PACKAGE space
  PACKAGE space
  PACKAGE space
  PACKAGE space
  PACKAGE space
-/
import Derived.Test.YtidklgicmhdapaaGreatDoorAv19
import Derived.BigQuiet
import Derived.Test.YtidklgicmhdapaaGreatDoorAv16
namespace Go.Proofs.YtidklgicmhdapaaGreatDoor
open Go Go.RowKit Sh

theorem ret_blkS {P : Program} {fn : Func} {R : Ending → World → Prop} {a : Act} {w : World} {p u : Tmp} {ty : TypeId} (hr : fn.results = #[.cell p ty, .tmp u]) (hd : a.defers = []) (g : Nat) (t : TypeId) (cs : List Value) (d : TypeDesc)
    (hp : a.tmps.getD p undef = .pointer (some ⟨g, 0, none⟩)) (hg : Blk w g t cs) (hu : P.underlying ty = some d)
    (hdd : (match d with | .struct _ | .array _ _ => true | _ => false) = true) (hi : (P.info? ty).map (·.size) = some cs.length) (v : Value) (hv : a.tmps.getD u undef = v)
    (hR : R (.returned (.tuple #[.agg cs.toArray, v])) w) : bodyPost P fn R .ret a w := by
  have hp' : a.tmps[p]?.getD undef = .pointer (some ⟨g, 0, none⟩) := by simpa using hp
  have hv' : a.tmps[u]?.getD undef = v := by simpa using hv
  refine bodyPost_ret (v := .tuple #[.agg cs.toArray, v]) ?_ hd hR
  simp [results, hr, hp', hv', asAddr, run_loadVar_row w g t ty cs.toArray (0, 0) d hg hu hdd (by simpa using hi)]

end Go.Proofs.YtidklgicmhdapaaGreatDoor
namespace Go.Proofs.YtidklgicmhdapaaGreatDoor
open Go Go.RowKit Sh

end Go.Proofs.YtidklgicmhdapaaGreatDoor
namespace Go.Proofs.YtidklgicmhdapaaGreatDoor
open Go Go.RowKit Sh

end Go.Proofs.YtidklgicmhdapaaGreatDoor
namespace Go.Proofs.YtidklgicmhdapaaGreatDoor
open Go Go.RowKit Sh

structure SS (w0 W : World) (x y : Spv) : Prop where
  a : Blk W w0.heap.size 82 (sv x)
  b : Blk W (w0.heap.size + 1) 82 (sv y)
  rx : SpW W x
  ry : SpW W y
  bel : Below w0.heap.size w0 W
end Go.Proofs.YtidklgicmhdapaaGreatDoor
namespace Go.Proofs.YtidklgicmhdapaaGreatDoor
open Go Go.RowKit Sh

end Go.Proofs.YtidklgicmhdapaaGreatDoor
namespace Go.Proofs.YtidklgicmhdapaaGreatDoor
open Go Go.RowKit Sh

end Go.Proofs.YtidklgicmhdapaaGreatDoor
namespace Go.Proofs.YtidklgicmhdapaaGreatDoor
open Go Go.RowKit Sh

end Go.Proofs.YtidklgicmhdapaaGreatDoor
