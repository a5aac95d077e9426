import Derived.Test.YtahmfbhiaoacgaaDoorSum
import Derived.Laws.BytesArg
import Derived.Test.YtahmfbhiaoacgaaDoorStr
namespace Go.Proofs.YtahmfbhiaoacgaaDoor
open Go.RowKit Sh

set_option maxRecDepth 100000 in
set_option maxHeartbeats 600000 in
theorem new_t (w : World) : Calls Tryd.prog 14 #[] w fun e w' => e = .returned (.pointer (some ⟨w.heap.size, 0, none⟩)) ∧ w' = w.alloc (.cells DZ.toArray 46) := by
  have hz := (zero_of_info zero46).1
  go_enter Tryd.func14, Tryd.ntmps14
  go_wp2
  go_ret
  exact ⟨rfl, rfl⟩

theorem Sl.none {w : World} {B g : Nat} : Sl w B g .none [] := fun h => absurd h (by simp)
set_option maxRecDepth 100000 in
set_option maxHeartbeats 600000 in
theorem dsum_nil (w : World) (hk : KAt w) :
    Calls Tryd.prog 16 #[.pointer none] w fun e w' => e = .returned (.agg (u8s (sum [])).toArray) ∧ Below w.heap.size w w' := by
  have hb0 : Below w.heap.size w (w.alloc (.cells (u8s (List.replicate 32 0)).toArray 25)) := (Below.refl _ _).alloc (Nat.le_refl _) _
  have HB0 := Lib.hid hb0; have HK := Lib.hid (hk.below hb0 hk.lt)
  have R1 := Lib.hid (Blk.new w 25 (u8s (List.replicate 32 0)))
  have HOL := Lib.hid (show (u8s (List.replicate 32 0)).length = (u8s (sum [])).length from (sum_len []).symm)
  have HZ := Lib.hid (zs25 [])
  clear hb0 hk
  generalize hl : sum [] = l at *
  have HL := Lib.hid hl
  clear hl
  go_enter Tryd.func16, Tryd.ntmps16
  go_wp2_with (first
    | (go_at_call 10; refine (sum_t [] none 0 _ (fun i => by simp [gt]) (fun _ _ => Sl.none) (Nat.le_refl _) (by decide) HK.out).mono ?_; rintro e w2 ⟨rfl, hb2⟩; rw [HL.out]; have B2 := Lib.hid hb2; have R2 := Lib.hid (R1.out.below hb2 R1.out.lt); clear hb2)
    | ((with_reducible refine store_blk 25 (.tmp 2) (.tmp 5) w.heap.size 25 (u8s (List.replicate 32 0)) (u8s l) rfl rfl ?_ ?_ ?_ ?_ ?_ ?_ ?_); exact R2.out; exact HOL.out; exact HZ.out; exact u8s_one _; exact rfl; exact rfl))
  exact ret_blk (p := 2) (ty := 25) rfl rfl w.heap.size 25 _ _ rfl (R2.out.setRow _) Tryd.underlying25 rfl HZ.out ⟨rfl, below_setRow (HB0.out.trans (B2.out.mono HB0.out.size)) (Nat.le_refl _) _⟩

set_option maxRecDepth 100000 in
set_option maxHeartbeats 600000 in
theorem dsum_t (g : Nat) (s : S8) (r l : List Nat) (w : World) (hd : Dig w g l s r) (hsz : l.length < 2305843009213693952) (hk : KAt w) :
    Calls Tryd.prog 16 #[.pointer (some ⟨g, 0, none⟩)] w fun e w' => e = .returned (.agg (u8s (sum l)).toArray) ∧ Below w.heap.size w w' := by
  have HD := Lib.hid hd; have HSZ := Lib.hid hsz; have HSUM := Lib.hid hd.sum
  have hb0 : Below w.heap.size w (w.alloc (.cells (u8s (List.replicate 32 0)).toArray 25)) := (Below.refl _ _).alloc (Nat.le_refl _) _
  have HB0 := Lib.hid hb0; have HK := Lib.hid (hk.below hb0 hk.lt)
  have HBLK := Lib.hid (hd.blk.alloc (.cells (u8s (List.replicate 32 0)).toArray 25))
  have R1 := Lib.hid (Blk.new w 25 (u8s (List.replicate 32 0)))
  have Z46 := Lib.hid (D_all s r l.length hd.len)
  have HOL := Lib.hid (show (u8s (List.replicate 32 0)).length = (u8s (sum l)).length from (sum_len l).symm)
  have HZ := Lib.hid (zs25 l)
  clear hd hsz hb0 hk
  go_enter Tryd.func16, Tryd.ntmps16
  go_wp2_with (first
    | ((with_reducible refine load_blk 46 (.tmp 7) g 46 (D s r l.length) _ rfl rfl ?_ Tryd.underlying46 ?_ ?_ ?_ ?_); exact HBLK.out; exact rfl; exact Z46.out; exact rfl)
    | (go_at_call 18; refine (finish_t s r l.length _ HD.out.ok HD.out.len HD.out.bytes HSZ.out HK.out).mono ?_; rintro e w2 ⟨rfl, hb2⟩; rw [HSUM.out]; have B2 := Lib.hid hb2; have R2 := Lib.hid (R1.out.below hb2 R1.out.lt); clear hb2)
    | ((with_reducible refine store_blk 25 (.tmp 2) (.tmp 9) w.heap.size 25 (u8s (List.replicate 32 0)) (u8s (sum l)) rfl rfl ?_ ?_ ?_ ?_ ?_ ?_ ?_); exact R2.out; exact HOL.out; exact HZ.out; exact u8s_one _; exact rfl; exact rfl))
  exact ret_blk (p := 2) (ty := 25) rfl rfl w.heap.size 25 _ _ rfl (R2.out.setRow _) Tryd.underlying25 rfl HZ.out ⟨rfl, below_setRow (HB0.out.trans (B2.out.mono HB0.out.size)) (Nat.le_refl _) _⟩

theorem copy_nil (w : World) : Calls Tryd.prog 15 #[.pointer none] w fun e w' => e = .returned (.pointer none) ∧ w = w' := by
  go_enter Tryd.func15, Tryd.ntmps15
  go_wp2
  go_ret
  exact ⟨rfl, rfl⟩

theorem D_one (s : S8) (r : List Nat) (n : Nat) : (D s r n).toArray.all (·.oneCell') = true := all_oneCell_toArray (fun v hv => by
  rcases List.mem_append.1 hv with h | h
  · obtain ⟨n, _, rfl⟩ := List.mem_map.1 h; rfl
  · rcases List.mem_append.1 h with h | h
    · obtain ⟨n, _, rfl⟩ := List.mem_map.1 h; rfl
    · simp at h; subst h; rfl)
set_option maxRecDepth 100000 in
set_option maxHeartbeats 600000 in
theorem copy_t (g : Nat) (s : S8) (r l : List Nat) (w : World) (hd : Dig w g l s r) :
    Calls Tryd.prog 15 #[.pointer (some ⟨g, 0, none⟩)] w fun e w' => e = .returned (.pointer (some ⟨w.heap.size, 0, none⟩)) ∧ Dig w' w.heap.size l s r ∧ Below w.heap.size w w' ∧ w'.heap.size = w.heap.size + 1 := by
  have HD := Lib.hid hd
  have HBLK := Lib.hid hd.blk
  have Z46 := Lib.hid (D_all s r l.length hd.len)
  have HZL := Lib.hid (show DZ.length = (D s r l.length).length by rw [D_length s r _ hd.len]; rfl)
  clear hd
  have hz := (zero_of_info zero46).1
  go_enter Tryd.func15, Tryd.ntmps15
  go_wp2_with (first
    | ((with_reducible refine load_blk 46 (.tmp 7) g 46 (D s r l.length) _ rfl rfl ?_ Tryd.underlying46 ?_ ?_ ?_ ?_); exact HBLK.out; exact rfl; exact Z46.out; exact rfl)
    | ((with_reducible refine store_blk 46 (.tmp 3) (.tmp 8) w.heap.size 46 DZ (D s r l.length) rfl rfl ?_ ?_ ?_ ?_ ?_ ?_ ?_); exact Blk.new w 46 DZ; exact HZL.out; exact Z46.out; exact D_one _ _ _; exact rfl; exact rfl))
  go_ret
  exact ⟨rfl, ⟨(Blk.new w 46 DZ).setRow _, HD.out.ok, HD.out.len, HD.out.bytes, HD.out.rep⟩, below_setRow ((Below.refl _ _).alloc (Nat.le_refl _) _) (Nat.le_refl _) _, by simp⟩

/-! The digits. -/
def hexN (xs : List Nat) : Nat → List Nat
  | 0 => []
  | k + 1 => hexN xs k ++ [Sh.hexDigit (gt xs k / 16), Sh.hexDigit (gt xs k % 16)]
theorem hexN_length (xs : List Nat) (k : Nat) : (hexN xs k).length = 2 * k := by
  induction k with
  | zero => rfl
  | succ k ih => simp [hexN, ih]; omega
def digits : ByteArray := { data := #[48, 49, 50, 51, 52, 53, 54, 55, 56, 57, 97, 98, 99, 100, 101, 102] }
theorem digit_run (i : Nat) (hi : i < 16) : ∀ w, (Instr.index 9 (.string digits) (.int .u8 (i : Int))).run Tryd.prog w = .ok (.int .u8 ((Sh.hexDigit i : Nat) : Int)) w := by
  have : i = 0 ∨ i = 1 ∨ i = 2 ∨ i = 3 ∨ i = 4 ∨ i = 5 ∨ i = 6 ∨ i = 7 ∨ i = 8 ∨ i = 9 ∨ i = 10 ∨ i = 11 ∨ i = 12 ∨ i = 13 ∨ i = 14 ∨ i = 15 := by omega
  rcases this with rfl | rfl | rfl | rfl | rfl | rfl | rfl | rfl | rfl | rfl | rfl | rfl | rfl | rfl | rfl | rfl <;> (intro w; kernel_rfl)
theorem set2 (p : List Nat) (n a b : Nat) : ((p ++ List.replicate (n + 2) 0).set p.length a).set (p.length + 1) b = (p ++ [a, b]) ++ List.replicate n 0 := by
  rw [List.set_append_right _ _ (Nat.le_refl _), List.set_append_right _ _ (by omega)]
  simp [List.replicate_succ, Nat.add_sub_cancel_left]
theorem index_run (xs : List Nat) (hx : xs.length = 32) (k : Nat) (hk : k < 32) : ∀ w, (Instr.index 25 (.agg (u8s xs).toArray) (.int .i64 (k : Int))).run Tryd.prog w = .ok (.int .u8 ((gt xs k : Nat) : Int)) w := by
  intro w
  have h5 : (sizeOf 5).run Tryd.prog w = .ok 1 w := by kernel_rfl
  have hp : (part 5 (u8s xs).toArray k).run Tryd.prog w = .ok (.int .u8 ((gt xs k : Nat) : Int)) w := by
    have ha : (isAgg 5).run Tryd.prog w = .ok false w := by kernel_rfl
    unfold part
    rw [Sem.run_bind, ha]
    simp [Result.andThen, u8s_get xs k (by omega)]
  simp [Instr.index, asIntOf, run_underlying Tryd.underlying25, h5, hk, hp, Result.andThen]

theorem hex_hexN (xs : List Nat) (hx : xs.length = 32) : Sh.hex xs = hexN xs 32 := by
  have key : ∀ k, k ≤ xs.length → hexN xs k = Sh.hex (xs.take k) := by
    intro k
    induction k with
    | zero => intro _; rfl
    | succ k ih =>
      intro hk
      rw [List.take_succ_eq_append_getElem (by omega)]
      unfold hexN Sh.hex
      rw [List.flatMap_append, ih (by omega)]
      simp [Sh.hex, gt_of_lt (show k < xs.length by omega)]
  rw [key 32 (by omega), ← hx, List.take_length]
theorem hexDigit_lt (n : Nat) (h : n < 16) : Sh.hexDigit n < 256 := by unfold Sh.hexDigit; split <;> omega

set_option maxRecDepth 100000 in
set_option maxHeartbeats 1000000 in
theorem hex_t (xs : List Nat) (w : World) (hx : xs.length = 32) (hb : Bytes xs) :
    Calls Tryd.prog 12 #[.agg (u8s xs).toArray] w fun e w' => e = .returned (.string (str (Sh.hex xs))) ∧ Below w.heap.size w w' := by
  have HX := Lib.hid hx; have HB := Lib.hid hb
  have hl : (Tryd.prog.info? 25).map (·.size) = some (u8s xs).length := by rw [u8s_length, hx]; exact s25
  have HL := Lib.hid hl
  clear hx hb hl
  go_enter Tryd.func12, Tryd.ntmps12
  go_wp2_with ((with_reducible refine load_blk 25 (.tmp 1) w.heap.size 25 (u8s xs) _ rfl rfl ?_ Tryd.underlying25 ?_ ?_ ?_ ?_); exact (Blk.new w 25 _).alloc _; exact rfl; exact HL.out; exact rfl)
  go_loopw [7] (fun i wr => ∃ k : Nat, k ≤ 32 ∧ i = .int .i64 k ∧ Blk wr (w.heap.size + 1) 43 (u8s (hexN xs k ++ List.replicate (64 - 2 * k) 0)) ∧ Below w.heap.size w wr ∧ wr.heap.size = w.heap.size + 2) (fun i _ => 32 - (intOf i).toNat)
  case atStart =>
    exact ⟨0, by omega, rfl, Blk.new2 _ _ _ _, ((Below.refl _ _).alloc (Nat.le_refl _) _).alloc (by simp) _, by simp⟩
  case round =>
    obtain ⟨k, hk, rfl, h1, h3, h4⟩ := hrel
    by_cases hlt : k < 32
    · have hidx := index_run xs HX.out k hlt
      have hb := HB.out k
      generalize hv : gt xs k = v at *
      have HV := Lib.hid hv
      clear hv
      have d1 := digit_run (v / 16) (by omega)
      have d2 := digit_run (v % 16) (by omega)
      have q1 : (((v / 16 : Nat) : Int)) = (v : Int) / 16 := by omega
      have q2 : (((v % 16 : Nat) : Int)) = (v : Int) % 16 := by omega
      rw [q1] at d1
      rw [q2] at d2
      clear q1 q2
      unfold digits at d1 d2
      have hex : ∀ j, j < 64 → ∃ v, wr.cell? ⟨w.heap.size + 1, j, none⟩ = some v := fun j hj => by
        rw [h1.cell]; exact ⟨_, List.getElem?_eq_getElem (by rw [u8s_length, List.length_append, hexN_length, List.length_replicate]; omega)⟩
      obtain ⟨v0, e0⟩ := hex (2 * k) (by omega)
      obtain ⟨v1, e1⟩ := hex (2 * k + 1) (by omega)
      clear hex
      have f0 := h1.frozen (2 * k)
      have f1 := h1.frozen (2 * k + 1)
      have H1 := Lib.hid h1; have H3 := Lib.hid h3; have H4 := Lib.hid h4
      clear h1 h3 h4
      go_wp2
      go_roundw
      case rel =>
        refine ⟨k + 1, by omega, by go_num, ?_, ?_, ?_⟩
        · have b := (H1.out.store (2 * k) (.int .u8 ((Sh.hexDigit (v / 16) : Nat) : Int))).store (2 * k + 1) (.int .u8 ((Sh.hexDigit (v % 16) : Nat) : Int))
          rw [u8s_set, u8s_set, show 64 - 2 * k = (64 - 2 * (k + 1)) + 2 from by omega] at b
          have e := set2 (hexN xs k) (64 - 2 * (k + 1)) (Sh.hexDigit (v / 16)) (Sh.hexDigit (v % 16))
          rw [hexN_length] at e
          rw [e] at b
          unfold hexN
          rw [HV.out]
          exact b
        · exact (H3.out.setCell (by simp) _).setCell (by simp) _
        · simpa using H4.out
      case measure => simp [intOf]; omega
    · obtain rfl : k = 32 := by omega
      clear hk hlt
      have hsa := sliceAt_all (P := Tryd.prog) (t := 43) (e := 5) (n := 64) Tryd.underlying43 (by kernel_rfl) (w.heap.size + 1) 0
      have hh : hexN xs 32 ++ List.replicate (64 - 2 * 32) 0 = Sh.hex xs := by rw [hex_hexN xs HX.out]; simp
      rw [hh] at h1
      have hlen : (Sh.hex xs).length = 64 := by rw [hex_hexN xs HX.out, hexN_length]
      have hcv := run_convert_bytes_arg (P := Tryd.prog) wr 22 5 Tryd.underlying22 Tryd.underlying5 (w.heap.size + 1) 0 64 64 ((Sh.hex xs).map fun (n : Nat) => (n : Int)) (by simpa using hlen) (fun i hi => by
        rw [Nat.zero_add, h1.cell, u8s_get _ _ (by omega)]
        simp [gt, List.getD_eq_getElem?_getD, List.getElem?_eq_getElem (show i < (Sh.hex xs).length by omega)]) 9 Tryd.underlying9
      rw [show strOfNums ((Sh.hex xs).map fun (n : Nat) => (n : Int)) = str (Sh.hex xs) from rfl] at hcv
      generalize hS : str (Sh.hex xs) = S at *
      have HS := Lib.hid hS
      clear hS
      have H3 := Lib.hid h3
      clear h1 h3 h4 hh hlen
      go_wp2
      go_ret
      exact ⟨by rw [HS.out]; rfl, H3.out⟩
end Go.Proofs.YtahmfbhiaoacgaaDoor
