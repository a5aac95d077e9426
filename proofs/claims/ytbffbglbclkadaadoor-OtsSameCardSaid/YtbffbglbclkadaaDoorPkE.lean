/-
  Reader.Raw, Num, Text.
-/
import Derived.Test.YtbffbglbclkadaaDoorPkD
import Derived.Test.YtbffbglbclkadaaDoorPkN
import Derived.Laws.BitsAllLaws
import Derived.IntWalk
namespace Go.Proofs.YtbffbglbclkadaaDoor
open Go Go.RowKit Sh

/-- The number that bytes are, the greatest first. -/
def val (l : List Nat) : Nat := l.foldl (fun v b => v * 256 + b) 0
theorem val_snoc (l : List Nat) (b : Nat) : val (l ++ [b]) = val l * 256 + b := by simp [val]
theorem val_lt (l : List Nat) (h : Bytes l) : val l < 256 ^ l.length := by
  have key : ∀ k, k ≤ l.length → val (l.take k) < 256 ^ k := by
    intro k
    induction k with
    | zero => intro _; simp [val]
    | succ k ih =>
      intro hk
      have h1 := ih (by omega)
      have h2 := h k
      rw [List.take_succ_eq_append_getElem (by omega), val_snoc, ← gt_of_lt, Nat.pow_succ]
      omega
  have := key l.length (Nat.le_refl _)
  rwa [List.take_length] at this
theorem or_step (v b : Nat) (hv : v < 72057594037927936) (hb : b < 256) : bits .or .u64 (IntKind.u64.wrap ((v : Int) * 256)) (b : Int) = ((v * 256 + b : Nat) : Int) := by
  rw [IntWalk.u64_in _ (by omega), show (v : Int) * 256 = ((v * 256 : Nat) : Int) from by omega, u64_or_nat _ _ (by omega) (by omega)]
  have h := Nat.two_pow_add_eq_or_of_lt (i := 8) (b := b) (by omega) v
  rw [show 2 ^ 8 * v = v * 256 from by omega] at h
  rw [h]
theorem val_small (l : List Nat) (h : Bytes l) (hl : l.length ≤ 7) : val l < 72057594037927936 := by
  have h1 := val_lt l h
  have h2 : 256 ^ l.length ≤ 256 ^ 7 := Nat.pow_le_pow_right (by decide) hl
  omega
theorem bytes_take {l : List Nat} (h : Bytes l) (n : Nat) : Bytes (l.take n) := fun i => by
  rcases Nat.lt_or_ge i n with hi | hi
  · have : gt (l.take n) i = gt l i := by simp [gt, List.getD_eq_getElem?_getD, hi]
    rw [this]; exact h i
  · rw [gt_out (by rw [List.length_take]; omega)]; decide
theorem bytes_drop {l : List Nat} (h : Bytes l) (n : Nat) : Bytes (l.drop n) := fun i => by rw [gt_dropn]; exact h _
theorem rnum_wide (g : Nat) (xs : List Nat) (bad : Bool) (n : Int) (w : World) (x : Rd w g xs bad) (hn : ¬ (1 ≤ n ∧ n ≤ 8)) :
    Calls Tryd.prog 59 #[.pointer (some ⟨g, 0, none⟩), .int .i64 n] w fun e w' => e = .returned (.int .u64 0) ∧ Rd w' g [] true ∧ Kept (fun k => k = g) w w' := by
  have HT := Lib.hid (rfail_t g xs bad w x)
  have HN := Lib.hid hn
  clear x hn
  go_enter Tryd.func59, Tryd.ntmps59
  go_wp2_with (first
    | (go_at_call 56; refine (wide_no n _ HN.out).mono ?_; rintro e w2 ⟨rfl, rfl⟩)
    | (go_at_call 66; refine (HT.out).mono ?_; rintro e w2 ⟨rfl, x2, k2⟩; have X2 := Lib.hid x2; have K2 := Lib.hid k2; clear x2 k2))
  go_ret
  exact ⟨rfl, X2.out, K2.out⟩
theorem rnum_short (g : Nat) (xs : List Nat) (bad : Bool) (n : Nat) (w : World) (x : Rd w g xs bad) (h1 : 1 ≤ n) (h2 : n ≤ 8) (hn : xs.length < n) :
    Calls Tryd.prog 59 #[.pointer (some ⟨g, 0, none⟩), .int .i64 n] w fun e w' => e = .returned (.int .u64 0) ∧ Rd w' g [] true ∧ Kept (fun k => k = g) w w' := by
  have HT := Lib.hid (take_bad g xs bad n w x (by omega))
  clear x hn
  go_enter Tryd.func59, Tryd.ntmps59
  go_wp2_with (first
    | (go_at_call 56; refine (wide_yes n _ (by omega) (by omega)).mono ?_; rintro e w2 ⟨rfl, rfl⟩)
    | (go_at_call 67; refine (HT.out).mono ?_; rintro e w2 ⟨rfl, x2, k2⟩; have X2 := Lib.hid x2; have K2 := Lib.hid k2; clear x2 k2))
  go_loop [6, 18] (fun v i => v = .int .u64 0 ∧ i = .int .i64 0) (fun _ _ => 0)
  case atStart => exact ⟨rfl, rfl⟩
  case round =>
    obtain ⟨rfl, rfl⟩ := hrel
    go_wp2
    go_ret
    exact ⟨rfl, X2.out, K2.out⟩
set_option maxHeartbeats 400000 in
theorem rnum_ok (g : Nat) (xs : List Nat) (bad : Bool) (n : Nat) (w : World) (x : Rd w g xs bad) (hb : Bytes xs) (h1 : 1 ≤ n) (h2 : n ≤ 8) (hn : n ≤ xs.length) (hl : xs.length ≤ 70368744177664) :
    Calls Tryd.prog 59 #[.pointer (some ⟨g, 0, none⟩), .int .i64 n] w fun e w' => e = .returned (.int .u64 (val (xs.take n) : Nat)) ∧ Rd w' g (xs.drop n) bad ∧ Kept (fun k => k = g) w w' := by
  have HT := Lib.hid (take_ok g xs bad n w x hn hl)
  have HB := Lib.hid hb
  clear x hl
  go_enter Tryd.func59, Tryd.ntmps59
  go_wp2_with (first
    | (go_at_call 56; refine (wide_yes n _ (by omega) (by omega)).mono ?_; rintro e w2 ⟨rfl, rfl⟩)
    | (go_at_call 67; refine (HT.out).mono ?_; rintro e w2 ⟨⟨A, c, rfl, hc, hs⟩, x2, k2⟩; have X2 := Lib.hid x2; have K2 := Lib.hid k2; have HS := Lib.hid hs; clear x2 k2 hs))
  obtain ⟨b, o, rfl, _, hby⟩ := HS.out (by rw [List.length_take]; omega)
  have HBY := Lib.hid hby
  clear hby HT
  go_loop [6, 18] (fun v i => ∃ k : Nat, k ≤ n ∧ v = .int .u64 (val (xs.take k) : Nat) ∧ i = .int .i64 k) (fun _ i => n - (intOf i).toNat)
  case atStart => exact ⟨0, by omega, rfl, rfl⟩
  case round =>
    obtain ⟨k, hk, rfl, rfl⟩ := hrel
    by_cases hlt : k < n
    · have c0 := HBY.out k (by rw [List.length_take]; omega)
      have e0 : gt (xs.take n) k = gt xs k := by simp [gt, List.getD_eq_getElem?_getD, hlt]
      rw [e0] at c0
      clear e0
      have b0 := HB.out k
      go_wp2
      go_round
      case rel =>
        refine ⟨k + 1, by omega, ?_, by go_num⟩
        rw [or_step _ _ (val_small _ (bytes_take HB.out k) (by rw [List.length_take]; omega)) b0, List.take_succ_eq_append_getElem (by omega), val_snoc, ← gt_of_lt]
      case measure => simp [intOf]; omega
    · obtain rfl : k = n := by omega
      go_wp2
      go_ret
      exact ⟨rfl, X2.out, K2.out⟩
end Go.Proofs.YtbffbglbclkadaaDoor
