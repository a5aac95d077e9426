import Derived.Test.YthcebaegijlbdaaDoorSum
import Derived.Laws.BytesArg
import Derived.Test.YthcebaegijlbdaaDoorStr
namespace Go.Proofs.YthcebaegijlbdaaDoor
open Go.RowKit Sh

set_option maxRecDepth 100000 in
set_option maxHeartbeats 600000 in
theorem new_t (w : World) : Calls Tryd.prog 52 #[] w fun e w' => e = .returned (.pointer (some ⟨w.heap.size, 0, none⟩)) ∧ w' = w.alloc (.cells DZ.toArray 128) := by
  have hz := (zero_of_info zero46).1
  go_enter Tryd.func52, Tryd.ntmps52
  go_wp2
  go_ret
  exact ⟨rfl, rfl⟩

theorem Sl.none {w : World} {B g : Nat} : Sl w B g .none [] := fun h => absurd h (by simp)
set_option maxRecDepth 100000 in
set_option maxHeartbeats 600000 in
theorem dsum_nil (w : World) (hk : KAt w) :
    Calls Tryd.prog 54 #[.pointer none] w fun e w' => e = .returned (.agg (u8s (sum [])).toArray) ∧ Below w.heap.size w w' := by
  have hb0 : Below w.heap.size w (w.alloc (.cells (u8s (List.replicate 32 0)).toArray 24)) := (Below.refl _ _).alloc (Nat.le_refl _) _
  have HB0 := Lib.hid hb0; have HK := Lib.hid (hk.below hb0 hk.lt)
  have R1 := Lib.hid (Blk.new w 24 (u8s (List.replicate 32 0)))
  have HOL := Lib.hid (show (u8s (List.replicate 32 0)).length = (u8s (sum [])).length from (sum_len []).symm)
  have HZ := Lib.hid (zs25 [])
  clear hb0 hk
  generalize hl : sum [] = l at *
  have HL := Lib.hid hl
  clear hl
  go_enter Tryd.func54, Tryd.ntmps54
  go_wp2_with (first
    | (go_at_call 51; refine (sum_t [] none 0 _ (fun i => by simp [gt]) (fun _ _ => Sl.none) (Nat.le_refl _) (by decide) HK.out).mono ?_; rintro e w2 ⟨rfl, hb2⟩; rw [HL.out]; have B2 := Lib.hid hb2; have R2 := Lib.hid (R1.out.below hb2 R1.out.lt); clear hb2)
    | ((with_reducible refine store_blk 24 (.tmp 2) (.tmp 5) w.heap.size 24 (u8s (List.replicate 32 0)) (u8s l) rfl rfl ?_ ?_ ?_ ?_ ?_ ?_ ?_); exact R2.out; exact HOL.out; exact HZ.out; exact u8s_one _; exact rfl; exact rfl))
  exact ret_blk (p := 2) (ty := 24) rfl rfl w.heap.size 24 _ _ rfl (R2.out.setRow _) Tryd.underlying24 rfl HZ.out ⟨rfl, below_setRow (HB0.out.trans (B2.out.mono HB0.out.size)) (Nat.le_refl _) _⟩

set_option maxRecDepth 100000 in
set_option maxHeartbeats 600000 in
theorem dsum_t (g : Nat) (s : S8) (r l : List Nat) (w : World) (hd : Dig w g l s r) (hsz : l.length < 2305843009213693952) (hk : KAt w) :
    Calls Tryd.prog 54 #[.pointer (some ⟨g, 0, none⟩)] w fun e w' => e = .returned (.agg (u8s (sum l)).toArray) ∧ Below w.heap.size w w' := by
  have HD := Lib.hid hd; have HSZ := Lib.hid hsz; have HSUM := Lib.hid hd.sum
  have hb0 : Below w.heap.size w (w.alloc (.cells (u8s (List.replicate 32 0)).toArray 24)) := (Below.refl _ _).alloc (Nat.le_refl _) _
  have HB0 := Lib.hid hb0; have HK := Lib.hid (hk.below hb0 hk.lt)
  have HBLK := Lib.hid (hd.blk.alloc (.cells (u8s (List.replicate 32 0)).toArray 24))
  have R1 := Lib.hid (Blk.new w 24 (u8s (List.replicate 32 0)))
  have Z46 := Lib.hid (D_all s r l.length hd.len)
  have HOL := Lib.hid (show (u8s (List.replicate 32 0)).length = (u8s (sum l)).length from (sum_len l).symm)
  have HZ := Lib.hid (zs25 l)
  clear hd hsz hb0 hk
  go_enter Tryd.func54, Tryd.ntmps54
  go_wp2_with (first
    | ((with_reducible refine load_blk 128 (.tmp 7) g 128 (D s r l.length) _ rfl rfl ?_ Tryd.underlying128 ?_ ?_ ?_ ?_); exact HBLK.out; exact rfl; exact Z46.out; exact rfl)
    | (go_at_call 71; refine (finish_t s r l.length _ HD.out.ok HD.out.len HD.out.bytes HSZ.out HK.out).mono ?_; rintro e w2 ⟨rfl, hb2⟩; rw [HSUM.out]; have B2 := Lib.hid hb2; have R2 := Lib.hid (R1.out.below hb2 R1.out.lt); clear hb2)
    | ((with_reducible refine store_blk 24 (.tmp 2) (.tmp 9) w.heap.size 24 (u8s (List.replicate 32 0)) (u8s (sum l)) rfl rfl ?_ ?_ ?_ ?_ ?_ ?_ ?_); exact R2.out; exact HOL.out; exact HZ.out; exact u8s_one _; exact rfl; exact rfl))
  exact ret_blk (p := 2) (ty := 24) rfl rfl w.heap.size 24 _ _ rfl (R2.out.setRow _) Tryd.underlying24 rfl HZ.out ⟨rfl, below_setRow (HB0.out.trans (B2.out.mono HB0.out.size)) (Nat.le_refl _) _⟩

theorem D_one (s : S8) (r : List Nat) (n : Nat) : (D s r n).toArray.all (·.oneCell') = true := all_oneCell_toArray (fun v hv => by
  rcases List.mem_append.1 hv with h | h
  · obtain ⟨n, _, rfl⟩ := List.mem_map.1 h; rfl
  · rcases List.mem_append.1 h with h | h
    · obtain ⟨n, _, rfl⟩ := List.mem_map.1 h; rfl
    · simp at h; subst h; rfl)
/-! The digits. -/
def hexN (xs : List Nat) : Nat → List Nat
  | 0 => []
  | k + 1 => hexN xs k ++ [Sh.hexDigit (gt xs k / 16), Sh.hexDigit (gt xs k % 16)]
theorem hexN_length (xs : List Nat) (k : Nat) : (hexN xs k).length = 2 * k := by
  induction k with
  | zero => rfl
  | succ k ih => simp [hexN, ih]; omega
def digits : ByteArray := { data := #[48, 49, 50, 51, 52, 53, 54, 55, 56, 57, 97, 98, 99, 100, 101, 102] }
theorem digit_run (i : Nat) (hi : i < 16) : ∀ w, (Instr.index 9 (.string digits) (.int .u8 (i : Int))).run Tryd.prog w = .ok (.int .u8 ((Sh.hexDigit i : Nat) : Int)) w := by
  have : i = 0 ∨ i = 1 ∨ i = 2 ∨ i = 3 ∨ i = 4 ∨ i = 5 ∨ i = 6 ∨ i = 7 ∨ i = 8 ∨ i = 9 ∨ i = 10 ∨ i = 11 ∨ i = 12 ∨ i = 13 ∨ i = 14 ∨ i = 15 := by omega
  rcases this with rfl | rfl | rfl | rfl | rfl | rfl | rfl | rfl | rfl | rfl | rfl | rfl | rfl | rfl | rfl | rfl <;> (intro w; kernel_rfl)
theorem set2 (p : List Nat) (n a b : Nat) : ((p ++ List.replicate (n + 2) 0).set p.length a).set (p.length + 1) b = (p ++ [a, b]) ++ List.replicate n 0 := by
  rw [List.set_append_right _ _ (Nat.le_refl _), List.set_append_right _ _ (by omega)]
  simp [List.replicate_succ, Nat.add_sub_cancel_left]
theorem index_run (xs : List Nat) (hx : xs.length = 32) (k : Nat) (hk : k < 32) : ∀ w, (Instr.index 24 (.agg (u8s xs).toArray) (.int .i64 (k : Int))).run Tryd.prog w = .ok (.int .u8 ((gt xs k : Nat) : Int)) w := by
  intro w
  have h5 : (sizeOf 5).run Tryd.prog w = .ok 1 w := by kernel_rfl
  have hp : (part 5 (u8s xs).toArray k).run Tryd.prog w = .ok (.int .u8 ((gt xs k : Nat) : Int)) w := by
    have ha : (isAgg 5).run Tryd.prog w = .ok false w := by kernel_rfl
    unfold part
    rw [Sem.run_bind, ha]
    simp [Result.andThen, u8s_get xs k (by omega)]
  simp [Instr.index, asIntOf, run_underlying Tryd.underlying24, h5, hk, hp, Result.andThen]

theorem hex_hexN (xs : List Nat) (hx : xs.length = 32) : Sh.hex xs = hexN xs 32 := by
  have key : ∀ k, k ≤ xs.length → hexN xs k = Sh.hex (xs.take k) := by
    intro k
    induction k with
    | zero => intro _; rfl
    | succ k ih =>
      intro hk
      rw [List.take_succ_eq_append_getElem (by omega)]
      unfold hexN Sh.hex
      rw [List.flatMap_append, ih (by omega)]
      simp [Sh.hex, gt_of_lt (show k < xs.length by omega)]
  rw [key 32 (by omega), ← hx, List.take_length]
theorem hexDigit_lt (n : Nat) (h : n < 16) : Sh.hexDigit n < 256 := by unfold Sh.hexDigit; split <;> omega

end Go.Proofs.YthcebaegijlbdaaDoor
