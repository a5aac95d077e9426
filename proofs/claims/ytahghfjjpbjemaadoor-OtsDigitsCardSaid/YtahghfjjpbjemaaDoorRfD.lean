/-
  THE REFERENCE OF CHAPTER 3: coef, Digits.
-/
import Derived.Test.YtahghfjjpbjemaaDoorRfA
import Derived.Test.YtahghfjjpbjemaaDoorOtE
namespace Go.Proofs.YtahghfjjpbjemaaDoor
open Go Go.RowKit Sh

set_option maxRecDepth 100000 in
set_option maxHeartbeats 1000000 in
theorem refcoef_0 (l : List Nat) (A : Option Addr) (n m c : Nat) (w : World) (hn : l.length = n) (hA : Sr w A l) (hb : Bytes l) (hm : m < n * (8 / 1)) (hn2 : n ≤ 34) :
    Calls Tryd.prog 32 #[.slice A n c, .int .i64 (m : Int), .int .i64 1] w fun e w' => e = .returned (.int .i64 (coefN 1 l m : Nat)) ∧ w = w' := by
  obtain ⟨b, o, rfl, _, hc⟩ := hA (by simp at hm; omega)
  have hnp : m / (8 / 1) < n := by simp at hm ⊢; omega
  have c0 := hc (m / (8 / 1)) (by rw [hn]; exact hnp)
  have hx := hb (m / (8 / 1))
  obtain ⟨j, hj⟩ : ∃ j, m / (8 / 1) = j := ⟨_, rfl⟩
  rw [hj] at c0 hx hnp
  obtain ⟨x, hxx⟩ : ∃ x, gt l j = x := ⟨_, rfl⟩
  rw [hxx] at c0 hx
  obtain ⟨s, hs⟩ : ∃ s, 8 - 1 * (m % (8 / 1) + 1) = s := ⟨_, rfl⟩
  have HE := Lib.hid (show coefN 1 l m = x / 2 ^ s % 2 ^ 1 by unfold coefN; rw [hj, hxx, hs])
  have m1 : (m : Int) < 300 := by simp at hm; omega
  have x1 : (x : Int) < 256 := by omega
  have s8 : (s : Int) < 8 := by simp at hs; omega
  have s0 : (0 : Int) ≤ (s : Int) := by omega
  have j1 : (j : Int) < (n : Int) := by omega
  have HX := Lib.hid hx
  obtain ⟨y, hy⟩ : ∃ y, x / 2 ^ s = y := ⟨_, rfl⟩
  have hy2 : y < 256 := by rw [← hy]; exact Nat.lt_of_le_of_lt (Nat.div_le_self _ _) hx
  have y1 : (y : Int) < 256 := by omega
  have HY := Lib.hid hy2; have HYE := Lib.hid hy
  have e3 : (x : Int) / 2 ^ s = (y : Int) := by rw [← hy, Int.natCast_ediv, Int.natCast_pow]; rfl
  clear hy hy2
  have e1 : (m : Int) / 8 = (j : Int) := by simp at hj; omega
  have e2 : (7 : Int) - (m : Int) % 8 = (s : Int) := by simp at hs; omega
  clear hc hn hb hm hn2 hnp hj hxx hs hx
  go_enter Tryd.func32, Tryd.ntmps32
  go_wp2
  go_ret
  refine ⟨?_, rfl⟩
  rw [HE.out]
  show Ending.returned (.int .i64 (bits .and .i64 (y : Int) 1)) = _
  have h := and_low 1 (by decide) y HY.out
  rw [show ((2 ^ 1 - 1 : Nat) : Int) = 1 from rfl] at h
  rw [h, HYE.out]
set_option maxRecDepth 100000 in
set_option maxHeartbeats 1000000 in
theorem refcoef_1 (l : List Nat) (A : Option Addr) (n m c : Nat) (w : World) (hn : l.length = n) (hA : Sr w A l) (hb : Bytes l) (hm : m < n * (8 / 2)) (hn2 : n ≤ 34) :
    Calls Tryd.prog 32 #[.slice A n c, .int .i64 (m : Int), .int .i64 2] w fun e w' => e = .returned (.int .i64 (coefN 2 l m : Nat)) ∧ w = w' := by
  obtain ⟨b, o, rfl, _, hc⟩ := hA (by simp at hm; omega)
  have hnp : m / (8 / 2) < n := by simp at hm ⊢; omega
  have c0 := hc (m / (8 / 2)) (by rw [hn]; exact hnp)
  have hx := hb (m / (8 / 2))
  obtain ⟨j, hj⟩ : ∃ j, m / (8 / 2) = j := ⟨_, rfl⟩
  rw [hj] at c0 hx hnp
  obtain ⟨x, hxx⟩ : ∃ x, gt l j = x := ⟨_, rfl⟩
  rw [hxx] at c0 hx
  obtain ⟨s, hs⟩ : ∃ s, 8 - 2 * (m % (8 / 2) + 1) = s := ⟨_, rfl⟩
  have HE := Lib.hid (show coefN 2 l m = x / 2 ^ s % 2 ^ 2 by unfold coefN; rw [hj, hxx, hs])
  have m1 : (m : Int) < 300 := by simp at hm; omega
  have x1 : (x : Int) < 256 := by omega
  have s8 : (s : Int) < 8 := by simp at hs; omega
  have s0 : (0 : Int) ≤ (s : Int) := by omega
  have j1 : (j : Int) < (n : Int) := by omega
  have HX := Lib.hid hx
  obtain ⟨y, hy⟩ : ∃ y, x / 2 ^ s = y := ⟨_, rfl⟩
  have hy2 : y < 256 := by rw [← hy]; exact Nat.lt_of_le_of_lt (Nat.div_le_self _ _) hx
  have y1 : (y : Int) < 256 := by omega
  have HY := Lib.hid hy2; have HYE := Lib.hid hy
  have e3 : (x : Int) / 2 ^ s = (y : Int) := by rw [← hy, Int.natCast_ediv, Int.natCast_pow]; rfl
  clear hy hy2
  have e1 : (m : Int) * 2 / 8 = (j : Int) := by simp at hj; omega
  have e2 : (6 : Int) - (m : Int) * 2 % 8 = (s : Int) := by simp at hs; omega
  clear hc hn hb hm hn2 hnp hj hxx hs hx
  go_enter Tryd.func32, Tryd.ntmps32
  go_wp2
  go_ret
  refine ⟨?_, rfl⟩
  rw [HE.out]
  show Ending.returned (.int .i64 (bits .and .i64 (y : Int) 3)) = _
  have h := and_low 2 (by decide) y HY.out
  rw [show ((2 ^ 2 - 1 : Nat) : Int) = 3 from rfl] at h
  rw [h, HYE.out]
set_option maxRecDepth 100000 in
set_option maxHeartbeats 1000000 in
theorem refcoef_2 (l : List Nat) (A : Option Addr) (n m c : Nat) (w : World) (hn : l.length = n) (hA : Sr w A l) (hb : Bytes l) (hm : m < n * (8 / 4)) (hn2 : n ≤ 34) :
    Calls Tryd.prog 32 #[.slice A n c, .int .i64 (m : Int), .int .i64 4] w fun e w' => e = .returned (.int .i64 (coefN 4 l m : Nat)) ∧ w = w' := by
  obtain ⟨b, o, rfl, _, hc⟩ := hA (by simp at hm; omega)
  have hnp : m / (8 / 4) < n := by simp at hm ⊢; omega
  have c0 := hc (m / (8 / 4)) (by rw [hn]; exact hnp)
  have hx := hb (m / (8 / 4))
  obtain ⟨j, hj⟩ : ∃ j, m / (8 / 4) = j := ⟨_, rfl⟩
  rw [hj] at c0 hx hnp
  obtain ⟨x, hxx⟩ : ∃ x, gt l j = x := ⟨_, rfl⟩
  rw [hxx] at c0 hx
  obtain ⟨s, hs⟩ : ∃ s, 8 - 4 * (m % (8 / 4) + 1) = s := ⟨_, rfl⟩
  have HE := Lib.hid (show coefN 4 l m = x / 2 ^ s % 2 ^ 4 by unfold coefN; rw [hj, hxx, hs])
  have m1 : (m : Int) < 300 := by simp at hm; omega
  have x1 : (x : Int) < 256 := by omega
  have s8 : (s : Int) < 8 := by simp at hs; omega
  have s0 : (0 : Int) ≤ (s : Int) := by omega
  have j1 : (j : Int) < (n : Int) := by omega
  have HX := Lib.hid hx
  obtain ⟨y, hy⟩ : ∃ y, x / 2 ^ s = y := ⟨_, rfl⟩
  have hy2 : y < 256 := by rw [← hy]; exact Nat.lt_of_le_of_lt (Nat.div_le_self _ _) hx
  have y1 : (y : Int) < 256 := by omega
  have HY := Lib.hid hy2; have HYE := Lib.hid hy
  have e3 : (x : Int) / 2 ^ s = (y : Int) := by rw [← hy, Int.natCast_ediv, Int.natCast_pow]; rfl
  clear hy hy2
  have e1 : (m : Int) * 4 / 8 = (j : Int) := by simp at hj; omega
  have e2 : (4 : Int) - (m : Int) * 4 % 8 = (s : Int) := by simp at hs; omega
  clear hc hn hb hm hn2 hnp hj hxx hs hx
  go_enter Tryd.func32, Tryd.ntmps32
  go_wp2
  go_ret
  refine ⟨?_, rfl⟩
  rw [HE.out]
  show Ending.returned (.int .i64 (bits .and .i64 (y : Int) 15)) = _
  have h := and_low 4 (by decide) y HY.out
  rw [show ((2 ^ 4 - 1 : Nat) : Int) = 15 from rfl] at h
  rw [h, HYE.out]
set_option maxRecDepth 100000 in
set_option maxHeartbeats 1000000 in
theorem refcoef_3 (l : List Nat) (A : Option Addr) (n m c : Nat) (w : World) (hn : l.length = n) (hA : Sr w A l) (hb : Bytes l) (hm : m < n * (8 / 8)) (hn2 : n ≤ 34) :
    Calls Tryd.prog 32 #[.slice A n c, .int .i64 (m : Int), .int .i64 8] w fun e w' => e = .returned (.int .i64 (coefN 8 l m : Nat)) ∧ w = w' := by
  obtain ⟨b, o, rfl, _, hc⟩ := hA (by simp at hm; omega)
  have hnp : m / (8 / 8) < n := by simp at hm ⊢; omega
  have c0 := hc (m / (8 / 8)) (by rw [hn]; exact hnp)
  have hx := hb (m / (8 / 8))
  obtain ⟨j, hj⟩ : ∃ j, m / (8 / 8) = j := ⟨_, rfl⟩
  rw [hj] at c0 hx hnp
  obtain ⟨x, hxx⟩ : ∃ x, gt l j = x := ⟨_, rfl⟩
  rw [hxx] at c0 hx
  obtain ⟨s, hs⟩ : ∃ s, 8 - 8 * (m % (8 / 8) + 1) = s := ⟨_, rfl⟩
  have HE := Lib.hid (show coefN 8 l m = x / 2 ^ s % 2 ^ 8 by unfold coefN; rw [hj, hxx, hs])
  have m1 : (m : Int) < 300 := by simp at hm; omega
  have x1 : (x : Int) < 256 := by omega
  have s8 : (s : Int) < 8 := by simp at hs; omega
  have s0 : (0 : Int) ≤ (s : Int) := by omega
  have j1 : (j : Int) < (n : Int) := by omega
  have HX := Lib.hid hx
  obtain rfl : j = m := by simp at hj; omega
  obtain rfl : s = 0 := by simp at hs; omega
  clear hc hn hb hm hn2 hnp hj hxx hs hx
  go_enter Tryd.func32, Tryd.ntmps32
  go_wp2
  go_ret
  refine ⟨?_, rfl⟩
  rw [HE.out]
  show Ending.returned (.int .i64 (bits .and .i64 (x : Int) 255)) = _
  have h := and_low 8 (by decide) x HX.out
  rw [show ((2 ^ 8 - 1 : Nat) : Int) = 255 from rfl] at h
  rw [h, Nat.pow_zero, Nat.div_one]
theorem refcoef_t (i : Nat) (hi : i < 4) (l : List Nat) (A : Option Addr) (n m c : Nat) (w : World) (hn : l.length = n) (hA : Sr w A l) (hb : Bytes l) (hm : m < n * (8 / (kd i).w)) (hn2 : n ≤ 34) :
    Calls Tryd.prog 32 #[.slice A n c, .int .i64 (m : Int), .int .i64 ((kd i).w : Int)] w fun e w' => e = .returned (.int .i64 (coefN (kd i).w l m : Nat)) ∧ w = w' := by
  have : i = 0 ∨ i = 1 ∨ i = 2 ∨ i = 3 := by omega
  rcases this with rfl | rfl | rfl | rfl
  · exact refcoef_0 l A n m c w hn hA hb hm hn2
  · exact refcoef_1 l A n m c w hn hA hb hm hn2
  · exact refcoef_2 l A n m c w hn hA hb hm hn2
  · exact refcoef_3 l A n m c w hn hA hb hm hn2
end Go.Proofs.YtahghfjjpbjemaaDoor
