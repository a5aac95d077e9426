/-
  PACKAGE state: OfBytes, Digest.
-/
import Derived.Test.YtphgognhjdbdjaaDoorStXk
import Derived.Test.YtphgognhjdbdjaaDoorDigUk
import Derived.Test.YtphgognhjdbdjaaDoorSpOk
import Derived.Lib.SlBytesConst
namespace Go.Proofs.YtphgognhjdbdjaaDoor
open Go Go.RowKit Sh

def zH : List Nat := List.replicate 32 0
theorem Sl.ne {w : World} {p : Option Addr} {xs : List Nat} {g : Nat} (h : Sr w p xs) (hg : ∀ a : Addr, p = some a → a.block ≠ g) : Sl w w.heap.size g p xs := fun hx => by
  obtain ⟨b, o, e, h1, h2⟩ := h hx
  exact ⟨b, o, e, h1, hg _ e, h2⟩
theorem hash_size (l : List Nat) (h : l.length = 32) : (Tryd.prog.info? 37).map (·.size) = some (u8s l).length := by
  rw [u8s_length, h]
  kernel_rfl
theorem u8s_oneD (xs : List Nat) : (u8s xs).toArray.all (·.oneCell') = true := all_oneCell_toArray (fun v hv => by
  unfold u8s at hv
  obtain ⟨x, _, rfl⟩ := List.mem_map.1 hv
  rfl)
end Go.Proofs.YtphgognhjdbdjaaDoor
