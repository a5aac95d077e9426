/-
  FOR EVERY SEAT: what a byte is; bytes that a literal laid; lists of bytes.
-/
import Derived.Test.YthcebaegijlbdaaDoorPkMem
import Derived.Test.YthcebaegijlbdaaDoorChecked
namespace Go.Proofs.YthcebaegijlbdaaDoor
open Go Go.RowKit Sh

theorem byte_info : (Tryd.prog.info? 5).map (fun i => (i.zero, i.size, i.bytes)) = some (some (.int .u8 0), 1, 1) := by kernel_rfl
theorem byte_size : (Tryd.prog.info? 5).map (·.size) = some 1 := by kernel_rfl
theorem nil_own (w : World) (base : Nat) : w.ownsRow base 5 1 (.slice none 0 0) 0 (u8s []) := World.ownsRow_nil _ _ _ _
/-- Bytes that a literal laid. -/
theorem Sr.made (xs : List Nat) (w : World) (e : TypeId) (fr : Nat × Nat) : Sr (w.alloc (.cells (u8s xs).toArray e fr)) (some ⟨w.heap.size, 0, none⟩) xs := fun _ =>
  ⟨w.heap.size, 0, rfl, by simp, fun j hj => by rw [Nat.zero_add, cell_of_row _ _ j _ e fr (heap_alloc_new w _)]; simpa using u8s_get _ _ hj⟩
theorem sl_bytes {l : List Nat} (h : ∀ x ∈ l, x < 256) : Bytes l := fun i => by
  rcases Nat.lt_or_ge i l.length with hi | hi
  · rw [gt_of_lt hi]; exact h _ (List.getElem_mem _)
  · rw [gt_out hi]; decide
/-- One byte that a literal laid. -/
theorem Sr.one (x : Nat) (z : Int) (hz : (x : Int) = z) (w : World) (e : TypeId) (fr : Nat × Nat) : Sr (w.alloc (.cells #[.int .u8 z] e fr)) (some ⟨w.heap.size, 0, none⟩) [x] := fun _ => by
  subst hz
  refine ⟨w.heap.size, 0, rfl, by simp, fun j hj => ?_⟩
  rw [Nat.zero_add, cell_of_row _ _ j _ e fr (heap_alloc_new w _)]
  obtain rfl : j = 0 := by simpa using hj
  rfl
theorem shr_byte (v k : Nat) : (((v / 2 ^ k % 256 : Nat)) : Int) = (v : Int) / 2 ^ k % 256 := by rw [Int.natCast_emod, Int.natCast_ediv, Int.natCast_pow]; rfl
theorem app_bytes {l m : List Nat} (h1 : Bytes l) (h2 : Bytes m) : Bytes (l ++ m) := fun i => by
  rcases Nat.lt_or_ge i l.length with h | h
  · rw [gt_app_left h]; exact h1 i
  · rw [gt_app_right h]; exact h2 _
theorem nil_bytes : Bytes [] := fun i => by simp [gt]
end Go.Proofs.YthcebaegijlbdaaDoor
