import Derived.Test.YtkcjiidimmefdaaGreatDoorShaM
namespace Go.Proofs.YtkcjiidimmefdaaGreatDoor
open Go.RowKit Sh

theorem run_forIn_same {P : Program} {β : Type} (r0 : β) (f : Nat → β → Sem (ForInStep β)) (w : World) : ∀ (ns : List Nat), (∀ i ∈ ns, (f i r0).run P w = .ok (.yield r0) w) → (forIn ns r0 f).run P w = .ok r0 w
  | [], _ => by simp [Sem.run_pure]
  | n :: ns, h => by
    simp only [List.forIn_cons, Sem.run_bind, h n (List.mem_cons_self), Result.andThen]
    exact run_forIn_same r0 f w ns (fun i hi => h i (List.mem_cons_of_mem _ hi))
theorem part_u8 (xs : List Nat) (k : Nat) (hk : k < xs.length) (w : World) : (part 5 (u8s xs).toArray k).run Tryz.prog w = .ok (.int .u8 ((gt xs k : Nat) : Int)) w := by
  have ha : (isAgg 5).run Tryz.prog w = .ok false w := by kernel_rfl
  unfold part
  rw [Sem.run_bind, ha]
  simp [Result.andThen, u8s_get xs k hk]
theorem equalIn_same (d : Nat) (xs : List Nat) (hx : xs.length = 32) (w : World) : (Op.equalIn (d + 2) 25 (.agg (u8s xs).toArray) (.agg (u8s xs).toArray)).run Tryz.prog w = .ok true w := by
  have h5 : (sizeOf 5).run Tryz.prog w = .ok 1 w := by kernel_rfl
  unfold Op.equalIn
  simp only [Sem.run_bind, run_underlying Tryz.underlying25, Result.andThen_ok, h5, Nat.mul_one]
  have key : ∀ i, i < 32 → (Op.equalIn (d + 1) 5 (.int .u8 ((gt xs i : Nat) : Int)) (.int .u8 ((gt xs i : Nat) : Int))).run Tryz.prog w = .ok true w := fun i hi => by
    rw [run_equalIn_int w d 5 .u8 .u8 _ _ Tryz.underlying5]; simp
  simp only [Std.Legacy.Range.forIn_eq_forIn_range', Std.Legacy.Range.size]
  rw [run_forIn_same (none, ()) _ w _ (fun i hi => by
    have hi2 : i < 32 := by simpa using hi
    simp only [Sem.run_bind, part_u8 xs i (by omega), Result.andThen_ok, key i hi2]
    rfl)]
  rfl
/-- Two digests that are the same are equal. -/
theorem eql_same (xs : List Nat) (hx : xs.length = 32) (w : World) : (binOp .eql 25 (.agg (u8s xs).toArray) (.agg (u8s xs).toArray)).run Tryz.prog w = .ok (.bool true) w := by
  rw [run_eql_struct]
  rw [equalIn_same 9998 xs hx w]
  rfl


def abc : List Nat := [97, 98, 99]
def cABC : ByteArray := { data := #[98, 97, 55, 56, 49, 54, 98, 102, 56, 102, 48, 49, 99, 102, 101, 97, 52, 49, 52, 49, 52, 48, 100, 101, 53, 100, 97, 101, 50, 50, 50, 51, 98, 48, 48, 51, 54, 49, 97, 51, 57, 54, 49, 55, 55, 97, 57, 99, 98, 52, 49, 48, 102, 102, 54, 49, 102, 50, 48, 48, 49, 53, 97, 100] }
def cNIL : ByteArray := { data := #[101, 51, 98, 48, 99, 52, 52, 50, 57, 56, 102, 99, 49, 99, 49, 52, 57, 97, 102, 98, 102, 52, 99, 56, 57, 57, 54, 102, 98, 57, 50, 52, 50, 55, 97, 101, 52, 49, 101, 52, 54, 52, 57, 98, 57, 51, 52, 99, 97, 52, 57, 53, 57, 57, 49, 98, 55, 56, 53, 50, 98, 56, 53, 53] }
theorem hABC : str (Sh.hex (sum abc)) = cABC := by
  unfold abc
  rw [show Sh.hex (sum [97, 98, 99]) = _ from hex_abc]; rfl
set_option maxRecDepth 100000 in
theorem hex_nil : Sh.hex (sum []) = [101, 51, 98, 48, 99, 52, 52, 50, 57, 56, 102, 99, 49, 99, 49, 52, 57, 97, 102, 98, 102, 52, 99, 56, 57, 57, 54, 102, 98, 57, 50, 52, 50, 55, 97, 101, 52, 49, 101, 52, 54, 52, 57, 98, 57, 51, 52, 99, 97, 52, 57, 53, 57, 57, 49, 98, 55, 56, 53, 50, 98, 56, 53, 53] := by decide +kernel
theorem hNIL : str (Sh.hex (sum [])) = cNIL := by rw [hex_nil]; rfl
theorem sum_bytes (l : List Nat) (_ : Bytes l) : Bytes (sum l) := by
  have hok : ∀ s : S8, s.ok → Bytes (out s) := fun s hs => by
    rw [bytes_mem]
    intro x hx
    obtain ⟨v, hv, hx⟩ := List.mem_flatMap.1 hx
    have hvl : v < 4294967296 := by
      obtain ⟨i, hi, rfl⟩ := List.mem_iff_getElem.1 hv
      have := list_lt hs i
      rwa [gt_of_lt hi] at this
    unfold bytes4 at hx
    simp at hx
    omega
  exact hok _ (run_ok _ _)
theorem sum_length (l : List Nat) : (sum l).length = 32 := rfl
end Go.Proofs.YtkcjiidimmefdaaGreatDoor
