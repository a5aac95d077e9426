/-
  PACKAGE ots
  PACKAGE lms, SIZES AND TYPECODES
-/
import Derived.Test.YtidklgicmhdapaaGreatDoorAv12
namespace Go.Proofs.YtidklgicmhdapaaGreatDoor
open Go Go.RowKit Sh

theorem own_cell {w : World} {base : Nat} {v : Value} {l : List Nat} {n : Nat} (h : w.ownsRow base 3 1 v n (ints l)) (hn : 0 < n) : ∃ g c, v = .slice (some ⟨g, 0, none⟩) n c ∧ n ≤ c ∧ (∀ j, j < n → w.cell? ⟨g, j, none⟩ = some (.int .i64 ((gt l j : Nat) : Int))) ∧ g < w.heap.size := by
  obtain ⟨g, cap, rfl, _, hlt⟩ := h.form hn
  have hl : l.length = n := by have := h.1; rw [ints_length] at this; omega
  obtain ⟨_, _, e, hc⟩ := own_form h
  injection e with _ _ e
  subst e
  refine ⟨g, cap, rfl, hc, fun j hj => ?_, hlt⟩
  have := h.cells (g := g) rfl j _ (ints_get l j (by omega))
  rw [Addr.add_mid, Nat.zero_add] at this
  exact this
theorem kd_inj {i j : Nat} (hi : i < 4) (hj : j < 4) (h : (kd i).w = (kd j).w) : i = j := by
  have h1 : i = 0 ∨ i = 1 ∨ i = 2 ∨ i = 3 := by omega
  have h2 : j = 0 ∨ j = 1 ∨ j = 2 ∨ j = 3 := by omega
  rcases h1 with rfl | rfl | rfl | rfl <;> rcases h2 with rfl | rfl | rfl | rfl <;> first | rfl | (exact absurd h (by decide))
theorem chains_of (i : Nat) (hi : i < 4) (w : World) (hk : KI w) : Calls Tryz.prog 79 #[.int .i64 ((kd i).w : Int)] w fun e w' => e = .returned (.int .i64 ((kd i).p : Int)) ∧ Below w.heap.size w w' :=
  chains_t _ w hk _ (fun j _ hj hn b => by
    obtain rfl := kd_inj hi hj (by omega)
    exact ⟨rfl, b⟩) (fun _ hn _ => absurd rfl (hn i hi))
end Go.Proofs.YtidklgicmhdapaaGreatDoor
namespace Go.Proofs.YtidklgicmhdapaaGreatDoor
open Go Go.RowKit Sh

theorem kd_code (i : Nat) (hi : i < 4) : (kd i).code = i + 1 := by
  have : i = 0 ∨ i = 1 ∨ i = 2 ∨ i = 3 := by omega
  rcases this with rfl | rfl | rfl | rfl <;> rfl
theorem kd_w8 (i : Nat) : (kd i).w ≤ 8 ∧ 1 ≤ (kd i).w := by
  rcases i with _ | _ | _ | i <;> simp [kd]
theorem gt_widths (j : Nat) (hj : j < 4) : gt [1, 2, 4, 8] j = (kd j).w := by
  have : j = 0 ∨ j = 1 ∨ j = 2 ∨ j = 3 := by omega
  rcases this with rfl | rfl | rfl | rfl <;> rfl
set_option maxHeartbeats 400000 in
theorem index_t (g c : Nat) (n : Int) (w : World) (hc : ∀ j, j < 4 → w.cell? ⟨g, j, none⟩ = some (.int .i64 ((kd j).w : Int))) (R : Ending → World → Prop)
    (hyes : ∀ i : Nat, i < 4 → n = ((kd i).w : Int) → R (.returned (.int .i64 (i : Int))) w) (hno : (∀ i, i < 4 → n ≠ ((kd i).w : Int)) → R (.returned (.int .i64 (-1))) w) :
    Calls Tryz.prog 101 #[.slice (some ⟨g, 0, none⟩) 4 c, .int .i64 n] w R := by
  have HC := Lib.hid hc; have HY := Lib.hid hyes; have HN := Lib.hid hno
  clear hc hyes hno
  go_enter Tryz.func101, Tryz.ntmps101
  go_wp2_with fail
  go_loopw [8] (fun i wr => ∃ k : Nat, k ≤ 4 ∧ i = .int .i64 k ∧ (∀ j, j < k → n ≠ ((kd j).w : Int)) ∧ wr = w) (fun i _ => 4 - (intOf i).toNat)
  case atStart => exact ⟨0, by omega, rfl, fun j hj => absurd hj (by omega), by first | rfl | trivial⟩
  case round =>
    obtain ⟨k, hk, rfl, hn, rfl⟩ := hrel
    have HNK := Lib.hid hn
    clear hn
    by_cases hlt : k < 4
    · have c0 := HC.out k hlt
      by_cases he : n = ((kd k).w : Int)
      · have he2 : (n == ((kd k).w : Int)) = true := by simp [he]
        have HE := Lib.hid he
        clear he
        go_wp2_with fail
        exact HY.out k hlt HE.out
      · have he2 : (n == ((kd k).w : Int)) = false := by rw [beq_eq_false_iff_ne]; exact he
        have HE := Lib.hid he
        clear he
        go_wp2_with fail
        go_roundw
        case rel =>
          refine ⟨k + 1, by omega, by go_num, fun j hj => ?_, by first | rfl | trivial⟩
          rcases Nat.lt_or_ge j k with h | h
          · exact HNK.out j h
          · obtain rfl : j = k := by omega
            exact HE.out
        case measure => simp [intOf]; omega
    · obtain rfl : k = 4 := by omega
      go_wp2_with fail
      exact HN.out HNK.out
theorem typeOf_t (n : Int) (w : World) (hk : KI w) (R : Ending → World → Prop)
    (hyes : ∀ i w', i < 4 → n = ((kd i).w : Int) → Below w.heap.size w w' → R (.returned (.int .u64 ((kd i).code : Int))) w')
    (hno : ∀ w', (∀ i, i < 4 → n ≠ ((kd i).w : Int)) → Below w.heap.size w w' → R (.returned (.int .u64 0)) w') : Calls Tryz.prog 78 #[.int .i64 n] w R := by
  have HK := Lib.hid hk; have HY := Lib.hid hyes; have HN := Lib.hid hno
  clear hk hyes hno
  go_enter Tryz.func78, Tryz.ntmps78
  go_wp2_with fail
  refine (types_t w HK.out).mono ?_
  rintro e w1 ⟨v, rfl, o1, b1⟩
  obtain ⟨g1, c1, rfl, hc1, hv1, l1⟩ := own_cell o1 (by decide)
  have V1 := Lib.hid (fun j (hj : j < 4) => (hv1 j hj).trans (by rw [gt_widths j hj])); have B1 := Lib.hid b1
  clear o1 b1 hv1 HK
  go_wp2_with fail
  refine index_t g1 c1 n w1 V1.out _ (fun i hi hn => ?_) (fun hn => ?_)
  · have HI := Lib.hid hn
    have i4 : (i : Int) < 4 := by omega
    clear hn
    go_wp2_with fail
    have := HY.out i w1 hi HI.out B1.out
    rw [kd_code i hi] at this
    exact this
  · have HI := Lib.hid hn
    clear hn
    go_wp2_with fail
    exact HN.out w1 HI.out B1.out
theorem widthOf_t (x : Nat) (w : World) (hk : KI w) (hx : 1 ≤ x) (hx4 : x ≤ 4) :
    Calls Tryz.prog 58 #[.int .u64 (x : Int)] w fun e w' => e = .returned (.int .i64 ((kd (x - 1)).w : Int)) ∧ Below w.heap.size w w' := by
  have HK := Lib.hid hk
  have x1 : (1 : Int) ≤ x := by omega
  have x2 : (x : Int) ≤ 4 := by omega
  clear hk
  go_enter Tryz.func58, Tryz.ntmps58
  go_wp2_with fail
  refine (types_t w HK.out).mono ?_
  rintro e w1 ⟨v, rfl, o1, b1⟩
  obtain ⟨g1, c1, rfl, hc1, hv1, l1⟩ := own_cell o1 (by decide)
  obtain ⟨m, rfl⟩ : ∃ m, x = m + 1 := ⟨x - 1, by omega⟩
  have v1 := (hv1 m (show m < 4 by omega)).trans (by rw [gt_widths m (by omega)])
  have V1 := Lib.hid v1; have B1 := Lib.hid b1
  have e1 : IntKind.u64.wrap (((m + 1 : Nat) : Int) - 1) = (m : Int) := by rw [show (((m + 1 : Nat) : Int) - 1) = (m : Int) from by omega]; exact IntWalk.u64_in _ (by omega)
  have m4 : (m : Int) < 4 := by omega
  clear o1 b1 hv1 HK v1
  have v1 := V1.out
  go_wp2_with fail
  go_ret
  exact ⟨rfl, B1.out⟩
theorem widthOf_no (x : Nat) (w : World) (hk : KI w) (hx : x < 1 ∨ 4 < x) :
    Calls Tryz.prog 58 #[.int .u64 (x : Int)] w fun e w' => e = .returned (.int .i64 0) ∧ Below w.heap.size w w' := by
  have HK := Lib.hid hk
  clear hk
  by_cases h1 : x < 1
  · have x1 : (x : Int) < 1 := by omega
    clear hx h1
    go_enter Tryz.func58, Tryz.ntmps58
    go_wp2_with fail
    refine (types_t w HK.out).mono ?_
    rintro e w1 ⟨v, rfl, o1, b1⟩
    have B1 := Lib.hid b1
    clear o1 b1
    go_wp2_with fail
    go_ret
    exact ⟨rfl, B1.out⟩
  · have x1 : (1 : Int) ≤ x := by omega
    have x2 : (4 : Int) < x := by omega
    clear hx h1
    go_enter Tryz.func58, Tryz.ntmps58
    go_wp2_with fail
    refine (types_t w HK.out).mono ?_
    rintro e w1 ⟨v, rfl, o1, b1⟩
    obtain ⟨g1, c1, rfl, hc1, hv1, l1⟩ := own_cell o1 (by decide)
    have B1 := Lib.hid b1
    clear o1 b1 hv1
    go_wp2_with fail
    go_ret
    exact ⟨rfl, B1.out⟩
theorem otsSize_t (i : Nat) (hi : i < 4) (w : World) (hk : KI w) :
    Calls Tryz.prog 60 #[.int .i64 ((kd i).w : Int)] w fun e w' => e = .returned (.int .i64 ((36 + 32 * (kd i).p : Nat) : Int)) ∧ Below w.heap.size w w' := by
  have CH := Lib.hid (chains_of i hi w hk)
  have hp := kd_p i hi
  obtain ⟨p, hpp⟩ : ∃ p, (kd i).p = p := ⟨_, rfl⟩
  obtain ⟨v, hv⟩ : ∃ v, (kd i).w = v := ⟨_, rfl⟩
  rw [hpp, hv] at CH
  rw [hpp] at hp
  rw [hpp, hv]
  clear hk hpp hv
  go_enter Tryz.func60, Tryz.ntmps60
  go_wp2_with fail
  refine CH.out.mono ?_
  rintro e w1 ⟨rfl, b1⟩
  have B1 := Lib.hid b1
  clear b1
  go_wp2_with fail
  go_ret
  exact ⟨congrArg (fun z : Int => Ending.returned (.int .i64 z)) (by omega), B1.out⟩
def lszN (i : Nat) : Nat := 204 + 32 * (kd i).p
theorem size_yes (i : Nat) (hi : i < 4) (w : World) (hk : KI w) :
    Calls Tryz.prog 59 #[.int .i64 ((kd i).w : Int)] w fun e w' => e = .returned (.int .i64 ((lszN i : Nat) : Int)) ∧ Below w.heap.size w w' := by
  have OS := Lib.hid (fun W hW => otsSize_t i hi W hW); have HK := Lib.hid hk
  have hp := kd_p i hi
  unfold lszN
  obtain ⟨p, hpp⟩ : ∃ p, (kd i).p = p := ⟨_, rfl⟩
  obtain ⟨v, hv⟩ : ∃ v, (kd i).w = v := ⟨_, rfl⟩
  rw [hpp, hv] at OS
  rw [hpp] at hp
  rw [hpp, hv]
  have HV := Lib.hid hv
  clear hk hpp hv
  go_enter Tryz.func59, Tryz.ntmps59
  go_wp2_with fail
  refine typeOf_t (v : Int) w HK.out _ (fun j w1 hj hn b1 => ?_) (fun _ hn _ => absurd (by rw [HV.out]) (hn i hi))
  have c1 : (((kd j).code : Int) == 0) = false := by rw [beq_eq_false_iff_ne, kd_code j hj]; omega
  have B1 := Lib.hid b1
  obtain ⟨co, hco⟩ : ∃ c, (kd j).code = c := ⟨_, rfl⟩
  rw [hco] at c1 ⊢
  clear hn b1 hco
  go_wp2_with fail
  refine (OS.out w1 (HK.out.kept B1.out)).mono ?_
  rintro e w2 ⟨rfl, b2⟩
  have B2 := Lib.hid (B1.out.trans (b2.mono B1.out.size))
  have q1 : (((36 + 32 * p : Nat)) : Int) ≤ 9000 := by omega
  clear b2
  go_wp2_with fail
  go_ret
  exact ⟨congrArg (fun z : Int => Ending.returned (.int .i64 z)) (by omega), B2.out⟩
end Go.Proofs.YtidklgicmhdapaaGreatDoor
