/-
  A DIGEST AMONG OTHER MEMORY: Write, Sum as a caller with several blocks of its own wants them.
-/
import Derived.Test.YtphgognhjdbdjaaDoorShaMk
import Derived.Test.YtphgognhjdbdjaaDoorBaseMk
namespace Go.Proofs.YtphgognhjdbdjaaDoor
open Go.RowKit Sh

theorem Sl.old {w W : World} {p : Option Addr} {xs : List Nat} {g : Nat} (h : Sr w p xs) (hb : Below w.heap.size w W) (hg : w.heap.size ≤ g) : Sl W W.heap.size g p xs := fun hx => by
  obtain ⟨b, o, e, h1, h2⟩ := h hx
  exact ⟨b, o, e, Nat.lt_of_lt_of_le h1 hb.size, by omega, h2.below hb h1⟩
theorem Dig.but {w w' : World} {g g' : Nat} {l : List Nat} {s : S8} {r : List Nat} (h : Dig w g l s r) (hb : But w.heap.size g' w w') (hne : g ≠ g') : Dig w' g l s r := ⟨h.blk.but hb h.blk.lt hne, h.ok, h.len, h.bytes, h.rep⟩
end Go.Proofs.YtphgognhjdbdjaaDoor
