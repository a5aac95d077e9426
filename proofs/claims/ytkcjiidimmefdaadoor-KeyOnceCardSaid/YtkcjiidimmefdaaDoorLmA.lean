/-
  PACKAGE lms, SIZES AND TYPECODES: typeOf, widthOf, otsSize, Size; slices.Index of a row of four ints.
-/
import Derived.Test.YtkcjiidimmefdaaDoorOtE
namespace Go.Proofs.YtkcjiidimmefdaaDoor
open Go Go.RowKit Sh

theorem kd_code (i : Nat) (hi : i < 4) : (kd i).code = i + 1 := by
  have : i = 0 ∨ i = 1 ∨ i = 2 ∨ i = 3 := by omega
  rcases this with rfl | rfl | rfl | rfl <;> rfl
theorem kd_w8 (i : Nat) : (kd i).w ≤ 8 ∧ 1 ≤ (kd i).w := by
  rcases i with _ | _ | _ | i <;> simp [kd]
theorem gt_widths (j : Nat) (hj : j < 4) : gt [1, 2, 4, 8] j = (kd j).w := by
  have : j = 0 ∨ j = 1 ∨ j = 2 ∨ j = 3 := by omega
  rcases this with rfl | rfl | rfl | rfl <;> rfl
set_option maxHeartbeats 400000 in
theorem index_t (g c : Nat) (n : Int) (w : World) (hc : ∀ j, j < 4 → w.cell? ⟨g, j, none⟩ = some (.int .i64 ((kd j).w : Int))) (R : Ending → World → Prop)
    (hyes : ∀ i : Nat, i < 4 → n = ((kd i).w : Int) → R (.returned (.int .i64 (i : Int))) w) (hno : (∀ i, i < 4 → n ≠ ((kd i).w : Int)) → R (.returned (.int .i64 (-1))) w) :
    Calls Tryd.prog 35 #[.slice (some ⟨g, 0, none⟩) 4 c, .int .i64 n] w R := by
  have HC := Lib.hid hc; have HY := Lib.hid hyes; have HN := Lib.hid hno
  clear hc hyes hno
  go_enter Tryd.func35, Tryd.ntmps35
  go_wp2_with fail
  go_loopw [8] (fun i wr => ∃ k : Nat, k ≤ 4 ∧ i = .int .i64 k ∧ (∀ j, j < k → n ≠ ((kd j).w : Int)) ∧ wr = w) (fun i _ => 4 - (intOf i).toNat)
  case atStart => exact ⟨0, by omega, rfl, fun j hj => absurd hj (by omega), by first | rfl | trivial⟩
  case round =>
    obtain ⟨k, hk, rfl, hn, rfl⟩ := hrel
    have HNK := Lib.hid hn
    clear hn
    by_cases hlt : k < 4
    · have c0 := HC.out k hlt
      by_cases he : n = ((kd k).w : Int)
      · have he2 : (n == ((kd k).w : Int)) = true := by simp [he]
        have HE := Lib.hid he
        clear he
        go_wp2_with fail
        exact HY.out k hlt HE.out
      · have he2 : (n == ((kd k).w : Int)) = false := by rw [beq_eq_false_iff_ne]; exact he
        have HE := Lib.hid he
        clear he
        go_wp2_with fail
        go_roundw
        case rel =>
          refine ⟨k + 1, by omega, by go_num, fun j hj => ?_, by first | rfl | trivial⟩
          rcases Nat.lt_or_ge j k with h | h
          · exact HNK.out j h
          · obtain rfl : j = k := by omega
            exact HE.out
        case measure => simp [intOf]; omega
    · obtain rfl : k = 4 := by omega
      go_wp2_with fail
      exact HN.out HNK.out
theorem typeOf_t (n : Int) (w : World) (hk : KI w) (R : Ending → World → Prop)
    (hyes : ∀ i w', i < 4 → n = ((kd i).w : Int) → Below w.heap.size w w' → R (.returned (.int .u64 ((kd i).code : Int))) w')
    (hno : ∀ w', (∀ i, i < 4 → n ≠ ((kd i).w : Int)) → Below w.heap.size w w' → R (.returned (.int .u64 0)) w') : Calls Tryd.prog 23 #[.int .i64 n] w R := by
  have HK := Lib.hid hk; have HY := Lib.hid hyes; have HN := Lib.hid hno
  clear hk hyes hno
  go_enter Tryd.func23, Tryd.ntmps23
  go_wp2_with fail
  refine (types_t w HK.out).mono ?_
  rintro e w1 ⟨v, rfl, o1, b1⟩
  obtain ⟨g1, c1, rfl, hc1, hv1, l1⟩ := own_cell o1 (by decide)
  have V1 := Lib.hid (fun j (hj : j < 4) => (hv1 j hj).trans (by rw [gt_widths j hj])); have B1 := Lib.hid b1
  clear o1 b1 hv1 HK
  go_wp2_with fail
  refine index_t g1 c1 n w1 V1.out _ (fun i hi hn => ?_) (fun hn => ?_)
  · have HI := Lib.hid hn
    have i4 : (i : Int) < 4 := by omega
    clear hn
    go_wp2_with fail
    have := HY.out i w1 hi HI.out B1.out
    rw [kd_code i hi] at this
    exact this
  · have HI := Lib.hid hn
    clear hn
    go_wp2_with fail
    exact HN.out w1 HI.out B1.out
/-- How many bytes a signature by a tree has. -/
def lszN (i : Nat) : Nat := 204 + 32 * (kd i).p
end Go.Proofs.YtkcjiidimmefdaaDoor
