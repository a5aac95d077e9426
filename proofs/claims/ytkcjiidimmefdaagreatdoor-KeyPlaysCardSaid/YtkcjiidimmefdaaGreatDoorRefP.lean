/-
  The reference's Num and Text.
-/
import Derived.Test.YtkcjiidimmefdaaGreatDoorPkM
namespace Go.Proofs.YtkcjiidimmefdaaGreatDoor
open Go Go.RowKit Sh

theorem refnum_bad (v : Nat) (n : Int) (w : World) (h : ¬ (1 ≤ n ∧ n ≤ 8)) : Calls Tryz.prog 10 #[.int .u64 v, .int .i64 n] w fun e w' => e = .returned (.slice none 0 0) ∧ w = w' := by
  by_cases h1 : n < 1
  · go_enter Tryz.func10, Tryz.ntmps10
    go_wp2
    go_ret
    exact ⟨rfl, rfl⟩
  · have h2 : 8 < n := by omega
    have h3 : 1 ≤ n := by omega
    clear h h1
    go_enter Tryz.func10, Tryz.ntmps10
    go_wp2
    go_ret
    exact ⟨rfl, rfl⟩
set_option maxHeartbeats 400000 in
theorem refnum_t (v n : Nat) (w : World) (h1 : 1 ≤ n) (h2 : n ≤ 8) :
    Calls Tryz.prog 10 #[.int .u64 v, .int .i64 n] w fun e w' => ∃ u, e = .returned u ∧ Fresh 5 w w' u (beN v n) := by
  have i1 : (1 : Int) ≤ (n : Int) := by omega
  have i2 : (n : Int) ≤ 8 := by omega
  go_enter Tryz.func10, Tryz.ntmps10
  go_wp2_with fail
  go_loopw [5, 6] (fun o i wr => ∃ k : Nat, k ≤ n ∧ i = .int .i64 ((n : Int) - 1 - (k : Int)) ∧ wr.ownsRow w.heap.size 5 1 o k (u8s ((beN v n).take k)) ∧ Below w.heap.size w wr) (fun _ i _ => (intOf i + 1).toNat)
  case atStart => exact ⟨0, by omega, by simp, nil_own _ _, Below.refl _ _⟩
  case round =>
    obtain ⟨k, hk, rfl, ho, hb⟩ := hrel
    by_cases hlt : k < n
    · have b0 : (0 : Int) ≤ (n : Int) - 1 - (k : Int) := by omega
      have b1 : (n : Int) - 1 - (k : Int) ≤ 7 := by omega
      have HO := Lib.hid ho; have HB := Lib.hid hb
      clear ho hb
      have BA := Lib.hid ((Below.refl wr.heap.size wr).alloc (Nat.le_refl _) (.cells #[.int .u8 ((v : Int) / 2 ^ (8 * (n - 1 - k)) % 256)] 5))
      go_wp2_with ((with_reducible refine at_op (.call { callee := .builtin .append, args := #[.tmp 20, .tmp 27], argTypes := #[36, 36] }) rfl ?_); refine append_bytes (.tmp 20) (.tmp 27) 36 rfl rfl 5 Tryz.underlying36 byte_info w.heap.size _ k _ [v / 2 ^ (8 * (n - 1 - k)) % 256] rfl (own_below HO.out BA.out) (some ⟨wr.heap.size, 0, none⟩) 1 1 rfl rfl (Sr.one _ _ (shr_byte v _) wr _ _) (by omega) (by have := HB.out.size; simp; omega) ?_; intro v2 w2 a1 a2 a3)
      go_roundw
      case rel =>
        have o2 := a1.out
        rw [← beN_take v n k hlt] at o2
        refine ⟨k + 1, by omega, ?_, o2, ?_⟩
        · refine congrArg (Value.int .i64) ?_
          omega
        · exact (HB.out.alloc HB.out.size _).grown a2.out (Nat.le_trans HB.out.size (by simp)) fun i e => (HO.out.lt i e).1
      case measure => simp [intOf]; omega
    · obtain rfl : k = n := by omega
      have HO := Lib.hid ho; have HB := Lib.hid hb
      clear ho hb
      go_wp2
      go_ret
      refine ⟨_, rfl, ?_, HB.out⟩
      have o2 := HO.out
      rw [List.take_of_length_le (by rw [beN_length]; exact Nat.le_refl _)] at o2
      rw [beN_length]
      exact o2
end Go.Proofs.YtkcjiidimmefdaaGreatDoor
