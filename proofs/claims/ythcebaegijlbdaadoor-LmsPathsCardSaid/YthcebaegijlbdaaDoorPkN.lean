/-
  Writer.Num, Writer.Text.
-/
import Derived.Test.YthcebaegijlbdaaDoorPkR
namespace Go.Proofs.YthcebaegijlbdaaDoor
open Go Go.RowKit Sh

/-- The n lowest bytes of v, the greatest first. -/
def beN (v n : Nat) : List Nat := (List.range n).map fun i => v / 2 ^ (8 * (n - 1 - i)) % 256
theorem beN_length (v n : Nat) : (beN v n).length = n := by simp [beN]
theorem beN_bytes (v n : Nat) : Bytes (beN v n) := fun i => by
  rcases Nat.lt_or_ge i n with h | h
  · rw [gt_of_lt (by rw [beN_length]; exact h)]; simp [beN]; omega
  · rw [gt_out (by rw [beN_length]; exact h)]; decide
theorem beN_take (v n k : Nat) (hk : k < n) : (beN v n).take (k + 1) = (beN v n).take k ++ [v / 2 ^ (8 * (n - 1 - k)) % 256] := by
  rw [List.take_succ_eq_append_getElem (by rw [beN_length]; exact hk)]
  simp [beN]
theorem num_bad (p : Option Addr) (v : Nat) (n : Int) (w : World) (h : ¬ (1 ≤ n ∧ n ≤ 8)) : Calls Tryd.prog 29 #[.pointer p, .int .u64 v, .int .i64 n] w fun e w' => e = .returned (.tuple #[]) ∧ w = w' := by
  go_enter Tryd.func29, Tryd.ntmps29
  go_wp2_with (go_at_call 56; refine (wide_no n _ h).mono ?_; rintro e w2 ⟨rfl, rfl⟩)
  exact bodyPost_ret (results_none rfl _ _ _) rfl ⟨rfl, rfl⟩
/-- So many bytes are laid, and zeros behind them. -/
def laid8 (v n k : Nat) : List Nat := (beN v n).take k ++ List.replicate (8 - k) 0
theorem laid8_length (v n k : Nat) (hk : k ≤ n) (hn : n ≤ 8) : (laid8 v n k).length = 8 := by simp [laid8, beN_length]; omega
theorem laid8_set (v n k : Nat) (hk : k < n) (hn : n ≤ 8) : (laid8 v n k).set k (v / 2 ^ (8 * (n - 1 - k)) % 256) = laid8 v n (k + 1) := by
  unfold laid8
  rw [beN_take v n k hk, List.set_append_right _ _ (by simp [beN_length]; omega), List.length_take, beN_length, Nat.min_eq_left (by omega), Nat.sub_self, show 8 - k = (8 - (k + 1)) + 1 from by omega]
  simp [List.replicate_succ]
set_option maxHeartbeats 400000 in
theorem num_fill (p : Option Addr) (v n : Nat) (w : World) (_ : v < 18446744073709551616) (h1 : 1 ≤ n) (h2 : n ≤ 8) (R : Ending → World → Prop)
    (hR : ∀ w1, Below w.heap.size w w1 → w1.heap.size = w.heap.size + 1 → Blk w1 w.heap.size 108 (u8s (laid8 v n n)) → Calls Tryd.prog 30 #[.pointer p, .slice (some ⟨w.heap.size, 0, none⟩) n 8] w1 fun e w' => e = .returned (.tuple #[]) ∧ R (.returned (.tuple #[])) w') :
    Calls Tryd.prog 29 #[.pointer p, .int .u64 v, .int .i64 n] w R := by
  have HR := Lib.hid hR
  clear hR
  go_enter Tryd.func29, Tryd.ntmps29
  go_wp2_with (go_at_call 56; refine (wide_yes n _ (by omega) (by omega)).mono ?_; rintro e w2 ⟨rfl, rfl⟩)
  go_loopw [12] (fun i wr => ∃ k : Nat, k ≤ n ∧ i = .int .i64 k ∧ Blk wr w.heap.size 108 (u8s (laid8 v n k)) ∧ Below w.heap.size w wr ∧ wr.heap.size = w.heap.size + 1) (fun i _ => n - (intOf i).toNat)
  case atStart => exact ⟨0, by omega, rfl, Blk.new w _ _, (Below.refl _ _).alloc (Nat.le_refl _) _, by simp⟩
  case round =>
    obtain ⟨k, hk, rfl, h3, h4, h5⟩ := hrel
    by_cases hlt : k < n
    · obtain ⟨x, hx⟩ : ∃ x, wr.cell? ⟨w.heap.size, k, none⟩ = some x := by
        rw [h3.cell]; exact ⟨_, List.getElem?_eq_getElem (by rw [u8s_length, laid8_length v n k hk h2]; omega)⟩
      have hf := h3.frozen k
      have H3 := Lib.hid h3; have H4 := Lib.hid h4; have H5 := Lib.hid h5
      clear h3 h4 h5
      have b0 : (0 : Int) ≤ (n : Int) - 1 - (k : Int) := by omega
      have b1 : (n : Int) - 1 - (k : Int) ≤ 7 := by omega
      have b2 : (k : Int) < 8 := by omega
      go_wp2
      go_roundw
      case rel =>
        refine ⟨k + 1, by omega, by go_num, ?_, H4.out.setCell (by simp) _, by simpa [World.setCell] using H5.out⟩
        have b := H3.out.store k (.int .u8 ((v / 2 ^ (8 * (n - 1 - k)) % 256 : Nat) : Int))
        rw [u8s_set, laid8_set v n k hlt h2] at b
        have e : ((v : Int) / 2 ^ (8 * (n - 1 - k)) % 256) = ((v / 2 ^ (8 * (n - 1 - k)) % 256 : Nat) : Int) := by
          rw [Int.natCast_emod, Int.natCast_ediv, Int.natCast_pow]; rfl
        rw [e]
        exact b
      case measure => simp [intOf]; omega
    · obtain rfl : k = n := by omega
      have hsl := sliceAt_high (P := Tryd.prog) (t := 108) (e := 5) (n := 8) Tryd.underlying108 byte_size w.heap.size 0 .i64 k h2
      have HC := HR.out wr h4 h5 h3
      clear h3 h4 h5 hk hlt HR
      have HC' := Lib.hid HC
      clear HC
      go_wp2_with (go_at_call 30; refine (HC'.out).mono ?_; rintro e w2 ⟨rfl, hr⟩)
      exact bodyPost_ret (results_none rfl _ _ _) rfl hr
theorem num_t (F : Nat → Prop) (g : Nat) (l : List Nat) (v n : Nat) (w : World) (x : Wr w F g l) (hv : v < 18446744073709551616) (h1 : 1 ≤ n) (h2 : n ≤ 8) (hl : l.length + n ≤ 70368744177664) :
    Calls Tryd.prog 29 #[.pointer (some ⟨g, 0, none⟩), .int .u64 v, .int .i64 n] w fun e w' => e = .returned (.tuple #[]) ∧ Wr w' (More w w' F) g (l ++ beN v n) ∧ Kept F w w' := by
  refine num_fill (some ⟨g, 0, none⟩) v n w hv h1 h2 _ fun w1 hb hz hblk => ?_
  have x1 : Wr w1 (fun k => F k ∧ k < w.heap.size) g l := x.there.below hb
  have k1 : Kept F w w1 := Kept.of_below hb
  have hlay : laid8 v n n = beN v n ++ List.replicate (8 - n) 0 := by unfold laid8; rw [List.take_of_length_le (by rw [beN_length]; exact Nat.le_refl _)]
  have sr : Sr w1 (some ⟨w.heap.size, 0, none⟩) (beN v n) := fun _ => ⟨_, _, rfl, hblk.lt, fun j hj => by
    rw [Nat.zero_add, hblk.cell, u8s_get _ _ (by rw [laid8_length v n n (Nat.le_refl _) h2]; rw [beN_length] at hj; omega), hlay, gt_app_left hj]⟩
  refine (raw_t _ g l (beN v n) (some ⟨w.heap.size, 0, none⟩) n 8 w1 x1 (beN_length v n) sr hl).mono ?_
  rintro e w2 ⟨rfl, y, hk⟩
  refine ⟨rfl, rfl, y.mono fun k hk' => ?_, ?_⟩
  · rcases hk' with e | e
    · exact .inl e.1
    · exact .inr ⟨by omega, e.2⟩
  · exact k1.trans (hk.mono fun k e => e.1)
theorem num_nil (v n : Nat) (w : World) (hv : v < 18446744073709551616) (h1 : 1 ≤ n) (h2 : n ≤ 8) :
    Calls Tryd.prog 29 #[.pointer none, .int .u64 v, .int .i64 n] w fun e w' => e = .returned (.tuple #[]) ∧ Below w.heap.size w w' := by
  refine num_fill none v n w hv h1 h2 _ fun w1 hb _ _ => ?_
  refine (raw_nil _ _ _ w1).mono ?_
  rintro e w2 ⟨rfl, rfl⟩
  exact ⟨rfl, rfl, hb⟩
/-- A text with its length ahead. -/
def txtN (l : List Nat) : List Nat := beN l.length 4 ++ l
end Go.Proofs.YthcebaegijlbdaaDoor
