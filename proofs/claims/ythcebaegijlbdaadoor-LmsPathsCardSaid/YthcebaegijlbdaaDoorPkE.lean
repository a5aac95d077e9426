/-
  Reader.Raw, Num, Text.
-/
import Derived.Test.YthcebaegijlbdaaDoorPkD
import Derived.Test.YthcebaegijlbdaaDoorPkN
import Derived.Laws.BitsAllLaws
import Derived.IntWalk
namespace Go.Proofs.YthcebaegijlbdaaDoor
open Go Go.RowKit Sh

/-- The number that bytes are, the greatest first. -/
def val (l : List Nat) : Nat := l.foldl (fun v b => v * 256 + b) 0
theorem val_snoc (l : List Nat) (b : Nat) : val (l ++ [b]) = val l * 256 + b := by simp [val]
theorem val_lt (l : List Nat) (h : Bytes l) : val l < 256 ^ l.length := by
  have key : ∀ k, k ≤ l.length → val (l.take k) < 256 ^ k := by
    intro k
    induction k with
    | zero => intro _; simp [val]
    | succ k ih =>
      intro hk
      have h1 := ih (by omega)
      have h2 := h k
      rw [List.take_succ_eq_append_getElem (by omega), val_snoc, ← gt_of_lt, Nat.pow_succ]
      omega
  have := key l.length (Nat.le_refl _)
  rwa [List.take_length] at this
theorem or_step (v b : Nat) (hv : v < 72057594037927936) (hb : b < 256) : bits .or .u64 (IntKind.u64.wrap ((v : Int) * 256)) (b : Int) = ((v * 256 + b : Nat) : Int) := by
  rw [IntWalk.u64_in _ (by omega), show (v : Int) * 256 = ((v * 256 : Nat) : Int) from by omega, u64_or_nat _ _ (by omega) (by omega)]
  have h := Nat.two_pow_add_eq_or_of_lt (i := 8) (b := b) (by omega) v
  rw [show 2 ^ 8 * v = v * 256 from by omega] at h
  rw [h]
theorem val_small (l : List Nat) (h : Bytes l) (hl : l.length ≤ 7) : val l < 72057594037927936 := by
  have h1 := val_lt l h
  have h2 : 256 ^ l.length ≤ 256 ^ 7 := Nat.pow_le_pow_right (by decide) hl
  omega
theorem bytes_take {l : List Nat} (h : Bytes l) (n : Nat) : Bytes (l.take n) := fun i => by
  rcases Nat.lt_or_ge i n with hi | hi
  · have : gt (l.take n) i = gt l i := by simp [gt, List.getD_eq_getElem?_getD, hi]
    rw [this]; exact h i
  · rw [gt_out (by rw [List.length_take]; omega)]; decide
theorem bytes_drop {l : List Nat} (h : Bytes l) (n : Nat) : Bytes (l.drop n) := fun i => by rw [gt_dropn]; exact h _
theorem raw_ok (g : Nat) (xs : List Nat) (bad : Bool) (n : Nat) (w : World) (x : Rd w g xs bad) (hn : n ≤ xs.length) (hl : xs.length ≤ 70368744177664) :
    Calls Tryd.prog 78 #[.pointer (some ⟨g, 0, none⟩), .int .i64 n] w fun e w' => ∃ v, e = .returned v ∧ w'.ownsRow w.heap.size 5 1 v n (u8s (xs.take n)) ∧ Rd w' g (xs.drop n) bad ∧ Kept (fun k => k = g) w w' := by
  have X := Lib.hid x; have HL := Lib.hid hl; have HN := Lib.hid hn
  have HT := Lib.hid (take_ok g xs bad n w x hn hl)
  clear x hl hn
  go_enter Tryd.func78, Tryd.ntmps78
  go_wp2_with fail
  refine HT.out.mono ?_
  rintro e w1 ⟨⟨A, c, rfl, hc, hs⟩, x1, k1⟩
  have HS := Lib.hid hs; have X1 := Lib.hid x1; have K1 := Lib.hid k1
  have hlen : (xs.take n).length = n := by rw [List.length_take]; have := HN.out; omega
  have HLEN := Lib.hid hlen
  clear hs x1 k1 hc hlen HT
  go_wp2_with ((with_reducible refine append_bytes (.const (.slice none 0 0)) (.tmp 7) 27 rfl rfl 5 Tryd.underlying27 byte_info w.heap.size (.slice none 0 0) 0 [] (xs.take n) rfl (nil_own _ _) A n c rfl HLEN.out HS.out (by have := HL.out; have := HN.out; omega) K1.out.size ?_); intro v w2 h1 h2 h3)
  go_ret
  have o := h1.out
  simp only [Nat.zero_add, List.nil_append] at o
  have b2 : Below w1.heap.size w1 w2 := (Below.refl _ w1).grown h2.out (Nat.le_refl _) (by simp [Value.ownBlock])
  exact ⟨v, rfl, o, X1.out.below b2, K1.out.trans (Kept.of_below b2)⟩
theorem raw_bad (g : Nat) (xs : List Nat) (bad : Bool) (n : Int) (w : World) (x : Rd w g xs bad) (hn : n < 0 ∨ (xs.length : Int) < n) :
    Calls Tryd.prog 78 #[.pointer (some ⟨g, 0, none⟩), .int .i64 n] w fun e w' => ∃ v, e = .returned v ∧ w'.ownsRow w.heap.size 5 1 v 0 (u8s []) ∧ Rd w' g [] true ∧ Kept (fun k => k = g) w w' := by
  have HT := Lib.hid (take_bad g xs bad n w x hn)
  clear x hn
  go_enter Tryd.func78, Tryd.ntmps78
  go_wp2_with fail
  refine HT.out.mono ?_
  rintro e w1 ⟨rfl, x1, k1⟩
  have X1 := Lib.hid x1; have K1 := Lib.hid k1
  clear x1 k1 HT
  go_wp2_with ((with_reducible refine append_bytes (.const (.slice none 0 0)) (.tmp 7) 27 rfl rfl 5 Tryd.underlying27 byte_info w.heap.size (.slice none 0 0) 0 [] [] rfl (nil_own _ _) none 0 0 rfl rfl Sr.nil (by omega) K1.out.size ?_); intro v w2 h1 h2 h3)
  go_ret
  have o := h1.out
  simp only [List.nil_append] at o
  have b2 : Below w1.heap.size w1 w2 := (Below.refl _ w1).grown h2.out (Nat.le_refl _) (by simp [Value.ownBlock])
  exact ⟨v, rfl, o, X1.out.below b2, K1.out.trans (Kept.of_below b2)⟩
theorem rnum_wide (g : Nat) (xs : List Nat) (bad : Bool) (n : Int) (w : World) (x : Rd w g xs bad) (hn : ¬ (1 ≤ n ∧ n ≤ 8)) :
    Calls Tryd.prog 59 #[.pointer (some ⟨g, 0, none⟩), .int .i64 n] w fun e w' => e = .returned (.int .u64 0) ∧ Rd w' g [] true ∧ Kept (fun k => k = g) w w' := by
  have HT := Lib.hid (rfail_t g xs bad w x)
  have HN := Lib.hid hn
  clear x hn
  go_enter Tryd.func59, Tryd.ntmps59
  go_wp2_with (first
    | (go_at_call 56; refine (wide_no n _ HN.out).mono ?_; rintro e w2 ⟨rfl, rfl⟩)
    | (go_at_call 74; refine (HT.out).mono ?_; rintro e w2 ⟨rfl, x2, k2⟩; have X2 := Lib.hid x2; have K2 := Lib.hid k2; clear x2 k2))
  go_ret
  exact ⟨rfl, X2.out, K2.out⟩
theorem rnum_short (g : Nat) (xs : List Nat) (bad : Bool) (n : Nat) (w : World) (x : Rd w g xs bad) (h1 : 1 ≤ n) (h2 : n ≤ 8) (hn : xs.length < n) :
    Calls Tryd.prog 59 #[.pointer (some ⟨g, 0, none⟩), .int .i64 n] w fun e w' => e = .returned (.int .u64 0) ∧ Rd w' g [] true ∧ Kept (fun k => k = g) w w' := by
  have HT := Lib.hid (take_bad g xs bad n w x (by omega))
  clear x hn
  go_enter Tryd.func59, Tryd.ntmps59
  go_wp2_with (first
    | (go_at_call 56; refine (wide_yes n _ (by omega) (by omega)).mono ?_; rintro e w2 ⟨rfl, rfl⟩)
    | (go_at_call 75; refine (HT.out).mono ?_; rintro e w2 ⟨rfl, x2, k2⟩; have X2 := Lib.hid x2; have K2 := Lib.hid k2; clear x2 k2))
  go_loop [6, 18] (fun v i => v = .int .u64 0 ∧ i = .int .i64 0) (fun _ _ => 0)
  case atStart => exact ⟨rfl, rfl⟩
  case round =>
    obtain ⟨rfl, rfl⟩ := hrel
    go_wp2
    go_ret
    exact ⟨rfl, X2.out, K2.out⟩
set_option maxHeartbeats 400000 in
theorem rnum_ok (g : Nat) (xs : List Nat) (bad : Bool) (n : Nat) (w : World) (x : Rd w g xs bad) (hb : Bytes xs) (h1 : 1 ≤ n) (h2 : n ≤ 8) (hn : n ≤ xs.length) (hl : xs.length ≤ 70368744177664) :
    Calls Tryd.prog 59 #[.pointer (some ⟨g, 0, none⟩), .int .i64 n] w fun e w' => e = .returned (.int .u64 (val (xs.take n) : Nat)) ∧ Rd w' g (xs.drop n) bad ∧ Kept (fun k => k = g) w w' := by
  have HT := Lib.hid (take_ok g xs bad n w x hn hl)
  have HB := Lib.hid hb
  clear x hl
  go_enter Tryd.func59, Tryd.ntmps59
  go_wp2_with (first
    | (go_at_call 56; refine (wide_yes n _ (by omega) (by omega)).mono ?_; rintro e w2 ⟨rfl, rfl⟩)
    | (go_at_call 75; refine (HT.out).mono ?_; rintro e w2 ⟨⟨A, c, rfl, hc, hs⟩, x2, k2⟩; have X2 := Lib.hid x2; have K2 := Lib.hid k2; have HS := Lib.hid hs; clear x2 k2 hs))
  obtain ⟨b, o, rfl, _, hby⟩ := HS.out (by rw [List.length_take]; omega)
  have HBY := Lib.hid hby
  clear hby HT
  go_loop [6, 18] (fun v i => ∃ k : Nat, k ≤ n ∧ v = .int .u64 (val (xs.take k) : Nat) ∧ i = .int .i64 k) (fun _ i => n - (intOf i).toNat)
  case atStart => exact ⟨0, by omega, rfl, rfl⟩
  case round =>
    obtain ⟨k, hk, rfl, rfl⟩ := hrel
    by_cases hlt : k < n
    · have c0 := HBY.out k (by rw [List.length_take]; omega)
      have e0 : gt (xs.take n) k = gt xs k := by simp [gt, List.getD_eq_getElem?_getD, hlt]
      rw [e0] at c0
      clear e0
      have b0 := HB.out k
      go_wp2
      go_round
      case rel =>
        refine ⟨k + 1, by omega, ?_, by go_num⟩
        rw [or_step _ _ (val_small _ (bytes_take HB.out k) (by rw [List.length_take]; omega)) b0, List.take_succ_eq_append_getElem (by omega), val_snoc, ← gt_of_lt]
      case measure => simp [intOf]; omega
    · obtain rfl : k = n := by omega
      go_wp2
      go_ret
      exact ⟨rfl, X2.out, K2.out⟩
end Go.Proofs.YthcebaegijlbdaaDoor
