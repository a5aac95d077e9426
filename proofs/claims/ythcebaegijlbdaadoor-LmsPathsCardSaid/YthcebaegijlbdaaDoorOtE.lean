/-
  PACKAGE ots: WHAT MAY NOT BE: Public, Sign, Candidate of a width or a leaf that is none.
-/
import Derived.Test.YthcebaegijlbdaaDoorOtD
namespace Go.Proofs.YthcebaegijlbdaaDoor
open Go Go.RowKit Sh

def z32 : List Nat := List.replicate 32 0
theorem z32_size : (Tryd.prog.info? 24).map (·.size) = some (u8s z32).length := size32 _ rfl
/-- No kind has that width, or no leaf that number. -/
def Nope (q n : Int) : Prop := (∀ i, i < 4 → n ≠ ((kd i).w : Int)) ∨ q < 0 ∨ 32 ≤ q
set_option maxRecDepth 100000 in
set_option maxHeartbeats 1000000 in
theorem public_bad (S : List Nat) (q n : Int) (w : World) (hk : KI w) (hq : Nope q n) :
    Calls Tryd.prog 7 #[.agg (u8s S).toArray, .int .i64 q, .int .i64 n] w fun e w' => e = .returned (.tuple #[.agg (u8s z32).toArray, .int .i64 1]) ∧ Below w.heap.size w w' := by
  have B0 := Lib.hid (((Below.refl w.heap.size w).alloc (Nat.le_refl _) (.cells (u8s S).toArray 26)).alloc (by simp) (.cells (u8s z32).toArray 24))
  have K0 := Lib.hid (hk.kept B0.out)
  have HQ := Lib.hid hq
  have Z0 := Lib.hid (Blk.new2 w (.cells (u8s S).toArray 26) 24 (u8s z32))
  clear hk hq
  go_enter Tryd.func7, Tryd.ntmps7
  go_wp2_with fail
  refine find_t n _ K0.out _ (fun i w1 hi hn b1 => ?_) (fun w1 hn b1 => ?_)
  · have hl : q < 0 ∨ 32 ≤ q := by
      rcases HQ.out with h | h
      · exact absurd hn (h i hi)
      · exact h
    have HL := Lib.hid hl
    have B1 := Lib.hid (B0.out.trans (b1.mono B0.out.size)); have Z1 := Lib.hid (Z0.out.below b1 Z0.out.lt); have R1 := Lib.hid (Blk.new w1 51 kz)
    have g1 := Z1.out.lt
    clear hn b1 hl B0 K0 Z0 HQ
    go_wp2_with (first
      | ((with_reducible refine store_blk 51 (.tmp 8) (.tmp 15) w1.heap.size 51 kz (kv (kd i)) rfl rfl ?_ ?_ ?_ ?_ ?_ ?_ ?_); exact R1.out; exact rfl; exact kv_size _; exact kv_one _; exact rfl; exact rfl)
      | (go_at_call 21; refine (isLeaf_no q _ HL.out).mono ?_; rintro e w2 ⟨rfl, rfl⟩)
      | ((with_reducible refine store_blk 24 (.tmp 6) (.tmp 24) (w.heap.size + 1) 24 (u8s z32) (u8s z32) rfl rfl ?_ ?_ ?_ ?_ ?_ ?_ ?_); exact (Z1.out.alloc _).setRow_far (by omega) _; exact rfl; exact z32_size; exact u8s_one _; exact rfl; exact rfl))
    refine ret_blk2 (p := 6) (u := 7) (ty := 24) rfl rfl (w.heap.size + 1) 24 (u8s z32) _ rfl (((Z1.out.alloc _).setRow_far (by omega) _).setRow _) Tryd.underlying24 rfl z32_size (.int .i64 1) rfl ?_
    exact ⟨rfl, below_setRow (below_setRow (B1.out.alloc B1.out.size _) B1.out.size _) (by omega) _⟩
  · have B1 := Lib.hid (B0.out.trans (b1.mono B0.out.size)); have Z1 := Lib.hid (Z0.out.below b1 Z0.out.lt); have R1 := Lib.hid (Blk.new w1 51 kz)
    have g1 := Z1.out.lt
    clear hn b1 B0 K0 Z0 HQ
    go_wp2_with (first
      | ((with_reducible refine store_blk 51 (.tmp 8) (.tmp 15) w1.heap.size 51 kz kz rfl rfl ?_ ?_ ?_ ?_ ?_ ?_ ?_); exact R1.out; exact rfl; exact kz_size; exact kz_one; exact rfl; exact rfl)
      | ((with_reducible refine store_blk 24 (.tmp 6) (.tmp 24) (w.heap.size + 1) 24 (u8s z32) (u8s z32) rfl rfl ?_ ?_ ?_ ?_ ?_ ?_ ?_); exact (Z1.out.alloc _).setRow_far (by omega) _; exact rfl; exact z32_size; exact u8s_one _; exact rfl; exact rfl))
    refine ret_blk2 (p := 6) (u := 7) (ty := 24) rfl rfl (w.heap.size + 1) 24 (u8s z32) _ rfl (((Z1.out.alloc _).setRow_far (by omega) _).setRow _) Tryd.underlying24 rfl z32_size (.int .i64 1) rfl ?_
    exact ⟨rfl, below_setRow (below_setRow (B1.out.alloc B1.out.size _) B1.out.size _) (by omega) _⟩
set_option maxRecDepth 100000 in
set_option maxHeartbeats 1000000 in
theorem sign_bad (S : List Nat) (q n : Int) (p : Option Addr) (m c : Nat) (w : World) (hk : KI w) (hq : Nope q n) :
    Calls Tryd.prog 8 #[.agg (u8s S).toArray, .int .i64 q, .int .i64 n, .slice p m c] w fun e w' => e = .returned (.tuple #[.slice none 0 0, .int .i64 1]) ∧ Below w.heap.size w w' := by
  have B0 := Lib.hid ((Below.refl w.heap.size w).alloc (Nat.le_refl _) (.cells (u8s S).toArray 26))
  have K0 := Lib.hid (hk.kept B0.out)
  have HQ := Lib.hid hq
  clear hk hq
  go_enter Tryd.func8, Tryd.ntmps8
  go_wp2_with fail
  refine find_t n _ K0.out _ (fun i w1 hi hn b1 => ?_) (fun w1 hn b1 => ?_)
  · have hl : q < 0 ∨ 32 ≤ q := by
      rcases HQ.out with h | h
      · exact absurd hn (h i hi)
      · exact h
    have HL := Lib.hid hl
    have B1 := Lib.hid (B0.out.trans (b1.mono B0.out.size)); have R1 := Lib.hid (Blk.new w1 51 kz)
    clear hn b1 hl B0 K0 HQ
    go_wp2_with (first
      | ((with_reducible refine store_blk 51 (.tmp 10) (.tmp 23) w1.heap.size 51 kz (kv (kd i)) rfl rfl ?_ ?_ ?_ ?_ ?_ ?_ ?_); exact R1.out; exact rfl; exact kv_size _; exact kv_one _; exact rfl; exact rfl)
      | (go_at_call 21; refine (isLeaf_no q _ HL.out).mono ?_; rintro e w2 ⟨rfl, rfl⟩))
    go_ret2
    exact ⟨rfl, below_setRow (B1.out.alloc B1.out.size _) B1.out.size _⟩
  · have B1 := Lib.hid (B0.out.trans (b1.mono B0.out.size)); have R1 := Lib.hid (Blk.new w1 51 kz)
    clear hn b1 B0 K0 HQ
    go_wp2_with (first
      | ((with_reducible refine store_blk 51 (.tmp 10) (.tmp 23) w1.heap.size 51 kz kz rfl rfl ?_ ?_ ?_ ?_ ?_ ?_ ?_); exact R1.out; exact rfl; exact kz_size; exact kz_one; exact rfl; exact rfl))
    go_ret2
    exact ⟨rfl, below_setRow (B1.out.alloc B1.out.size _) B1.out.size _⟩
set_option maxRecDepth 100000 in
set_option maxHeartbeats 1000000 in
theorem cand_bad (I : List Nat) (q n : Int) (p r : Option Addr) (m c m2 c2 : Nat) (w : World) (hk : KI w) (hq : Nope q n) :
    Calls Tryd.prog 10 #[.agg (u8s I).toArray, .int .i64 q, .int .i64 n, .slice p m c, .slice r m2 c2] w fun e w' => e = .returned (.tuple #[.agg (u8s z32).toArray, .int .i64 1]) ∧ Below w.heap.size w w' := by
  have B0 := Lib.hid ((((Below.refl w.heap.size w).alloc (Nat.le_refl _) (.cells (u8s I).toArray 22)).alloc (by simp) (.cells #[.slice r m2 c2] 27)).alloc (by simp; omega) (.cells (u8s z32).toArray 24))
  have K0 := Lib.hid (hk.kept B0.out)
  have HQ := Lib.hid hq
  have Z0 := Lib.hid (blk_at (w := (w.alloc (.cells (u8s I).toArray 22)).alloc (.cells #[.slice r m2 c2] 27)) (g := w.heap.size + 1 + 1) (by simp) (.cells (u8s z32).toArray 24) 24 (u8s z32))
  clear hk hq
  go_enter Tryd.func10, Tryd.ntmps10
  go_wp2_with fail
  refine find_t n _ K0.out _ (fun i w1 hi hn b1 => ?_) (fun w1 hn b1 => ?_)
  · have hl : q < 0 ∨ 32 ≤ q := by
      rcases HQ.out with h | h
      · exact absurd hn (h i hi)
      · exact h
    have HL := Lib.hid hl
    have B1 := Lib.hid (B0.out.trans (b1.mono B0.out.size)); have Z1 := Lib.hid (Z0.out.below b1 Z0.out.lt); have R1 := Lib.hid (Blk.new w1 51 kz)
    have g1 := Z1.out.lt
    clear hn b1 hl B0 K0 Z0 HQ
    go_wp2_with (first
      | ((with_reducible refine store_blk 51 (.tmp 12) (.tmp 20) w1.heap.size 51 kz (kv (kd i)) rfl rfl ?_ ?_ ?_ ?_ ?_ ?_ ?_); exact R1.out; exact rfl; exact kv_size _; exact kv_one _; exact rfl; exact rfl)
      | (go_at_call 21; refine (isLeaf_no q _ HL.out).mono ?_; rintro e w2 ⟨rfl, rfl⟩)
      | ((with_reducible refine store_blk 24 (.tmp 10) (.tmp 29) (w.heap.size + 1 + 1) 24 (u8s z32) (u8s z32) rfl rfl ?_ ?_ ?_ ?_ ?_ ?_ ?_); exact (Z1.out.alloc _).setRow_far (by omega) _; exact rfl; exact z32_size; exact u8s_one _; exact rfl; exact rfl))
    refine ret_blk2 (p := 10) (u := 11) (ty := 24) rfl rfl (w.heap.size + 1 + 1) 24 (u8s z32) _ rfl (((Z1.out.alloc _).setRow_far (by omega) _).setRow _) Tryd.underlying24 rfl z32_size (.int .i64 1) rfl ?_
    exact ⟨rfl, below_setRow (below_setRow (B1.out.alloc B1.out.size _) B1.out.size _) (by omega) _⟩
  · have B1 := Lib.hid (B0.out.trans (b1.mono B0.out.size)); have Z1 := Lib.hid (Z0.out.below b1 Z0.out.lt); have R1 := Lib.hid (Blk.new w1 51 kz)
    have g1 := Z1.out.lt
    clear hn b1 B0 K0 Z0 HQ
    go_wp2_with (first
      | ((with_reducible refine store_blk 51 (.tmp 12) (.tmp 20) w1.heap.size 51 kz kz rfl rfl ?_ ?_ ?_ ?_ ?_ ?_ ?_); exact R1.out; exact rfl; exact kz_size; exact kz_one; exact rfl; exact rfl)
      | ((with_reducible refine store_blk 24 (.tmp 10) (.tmp 29) (w.heap.size + 1 + 1) 24 (u8s z32) (u8s z32) rfl rfl ?_ ?_ ?_ ?_ ?_ ?_ ?_); exact (Z1.out.alloc _).setRow_far (by omega) _; exact rfl; exact z32_size; exact u8s_one _; exact rfl; exact rfl))
    refine ret_blk2 (p := 10) (u := 11) (ty := 24) rfl rfl (w.heap.size + 1 + 1) 24 (u8s z32) _ rfl (((Z1.out.alloc _).setRow_far (by omega) _).setRow _) Tryd.underlying24 rfl z32_size (.int .i64 1) rfl ?_
    exact ⟨rfl, below_setRow (below_setRow (B1.out.alloc B1.out.size _) B1.out.size _) (by omega) _⟩
theorem own_cell {w : World} {base : Nat} {v : Value} {l : List Nat} {n : Nat} (h : w.ownsRow base 3 1 v n (ints l)) (hn : 0 < n) : ∃ g c, v = .slice (some ⟨g, 0, none⟩) n c ∧ n ≤ c ∧ (∀ j, j < n → w.cell? ⟨g, j, none⟩ = some (.int .i64 ((gt l j : Nat) : Int))) ∧ g < w.heap.size := by
  obtain ⟨g, cap, rfl, _, hlt⟩ := h.form hn
  have hl : l.length = n := by have := h.1; rw [ints_length] at this; omega
  obtain ⟨_, _, e, hc⟩ := own_form h
  injection e with _ _ e
  subst e
  refine ⟨g, cap, rfl, hc, fun j hj => ?_, hlt⟩
  have := h.cells (g := g) rfl j _ (ints_get l j (by omega))
  rw [Addr.add_mid, Nat.zero_add] at this
  exact this
theorem kd_inj {i j : Nat} (hi : i < 4) (hj : j < 4) (h : (kd i).w = (kd j).w) : i = j := by
  have h1 : i = 0 ∨ i = 1 ∨ i = 2 ∨ i = 3 := by omega
  have h2 : j = 0 ∨ j = 1 ∨ j = 2 ∨ j = 3 := by omega
  rcases h1 with rfl | rfl | rfl | rfl <;> rcases h2 with rfl | rfl | rfl | rfl <;> first | rfl | (exact absurd h (by decide))
theorem chains_of (i : Nat) (hi : i < 4) (w : World) (hk : KI w) : Calls Tryd.prog 9 #[.int .i64 ((kd i).w : Int)] w fun e w' => e = .returned (.int .i64 ((kd i).p : Int)) ∧ Below w.heap.size w w' :=
  chains_t _ w hk _ (fun j _ hj hn b => by
    obtain rfl := kd_inj hi hj (by omega)
    exact ⟨rfl, b⟩) (fun _ hn _ => absurd rfl (hn i hi))
theorem chains_no (n : Int) (hn : ∀ i, i < 4 → n ≠ ((kd i).w : Int)) (w : World) (hk : KI w) : Calls Tryd.prog 9 #[.int .i64 n] w fun e w' => e = .returned (.int .i64 0) ∧ Below w.heap.size w w' :=
  chains_t _ w hk _ (fun j _ hj h _ => absurd h (hn j hj)) (fun _ _ b => ⟨rfl, b⟩)
set_option maxRecDepth 100000 in
set_option maxHeartbeats 2000000 in
theorem told_t (w : World) (hk : KI w) : Calls Tryd.prog 5 #[] w fun e w' => e = .returned (.bool true) ∧ Below w.heap.size w w' := by
  have HK := Lib.hid hk
  clear hk
  go_enter Tryd.func5, Tryd.ntmps5
  go_wp2_with fail
  refine (types_t w HK.out).mono ?_
  rintro e w1 ⟨v, rfl, o1, b1⟩
  obtain ⟨g1, c1, rfl, hc1, hv1, l1⟩ := own_cell o1 (by decide)
  have V1 := Lib.hid (hv1 3 (by decide)); have B1 := Lib.hid b1; have K1 := Lib.hid (HK.out.kept b1)
  clear o1 b1 hv1 HK
  go_wp2_with fail
  refine (public_bad (List.replicate 48 0) 0 3 w1 K1.out (.inl (by decide))).mono ?_
  rintro e w2 ⟨rfl, b2⟩
  have R2 := Lib.hid (Blk.new w2 24 (u8s z32))
  have B2 := Lib.hid (below_setRow (b2.alloc b2.size (.cells (u8s z32).toArray 24)) b2.size (u8s z32).toArray)
  clear b2
  go_wp2_with ((with_reducible refine store_blk 24 (.tmp 2) (.tmp 12) w2.heap.size 24 (u8s z32) (u8s z32) rfl rfl ?_ ?_ ?_ ?_ ?_ ?_ ?_); exact R2.out; exact rfl; exact z32_size; exact u8s_one _; exact rfl; exact rfl)
  refine (sign_bad (List.replicate 48 0) 32 2 none 0 0 _ (K1.out.kept B2.out) (.inr (by decide))).mono ?_
  rintro e w3 ⟨rfl, b3⟩
  have B3 := Lib.hid (B2.out.trans (b3.mono B2.out.size))
  clear b3 R2 B2
  go_wp2_with fail
  refine digitsCall_t 8 z32 w3 rfl (zeros_bytes 32) (K1.out.kept B3.out) _ (fun i v w4 hi hn f4 => ?_) (fun _ hn _ => absurd rfl (hn 3 (by decide)))
  obtain rfl := kd_inj (j := 3) hi (by decide) (show (kd i).w = 8 by omega)
  clear hn hi
  obtain ⟨g2, c2, rfl, hc2, hv2, l2⟩ := own_cell f4.1 (by rw [digs_length]; decide)
  rw [digs_length, show (kd 3).p = 34 from rfl] at hc2 hv2 ⊢
  have b4 := B3.out.trans (f4.2.mono B3.out.size)
  have v0 := hv2 0 (by decide)
  have v32 := hv2 32 (by decide)
  have v33 := hv2 33 (by decide)
  rw [show gt (digs 3 z32) 0 = 0 from by decide +kernel] at v0
  rw [show gt (digs 3 z32) 32 = 31 from by decide +kernel] at v32
  rw [show gt (digs 3 z32) 33 = 224 from by decide +kernel] at v33
  have V0 := Lib.hid v0; have V32 := Lib.hid v32; have V33 := Lib.hid v33; have B4 := Lib.hid b4; have K4 := Lib.hid (K1.out.kept b4)
  have v1 : w4.cell? ⟨g1, 3, none⟩ = some (.int .i64 8) := (b4.cell (p := ⟨g1, 3, none⟩) l1).trans V1.out
  clear f4 hv2 v0 v32 v33 b4 B3
  go_wp2_with fail
  clear v1
  refine (chains_of 0 (by decide) w4 K4.out).mono ?_
  rintro e w5 ⟨rfl, b5⟩
  have B5 := Lib.hid b5
  clear b5
  go_wp2_with fail
  refine (chains_of 1 (by decide) w5 (K4.out.kept B5.out)).mono ?_
  rintro e w6 ⟨rfl, b6⟩
  have B6 := Lib.hid (B5.out.trans (b6.mono B5.out.size))
  clear b6 B5
  go_wp2_with fail
  refine (chains_of 2 (by decide) w6 (K4.out.kept B6.out)).mono ?_
  rintro e w7 ⟨rfl, b7⟩
  have B7 := Lib.hid (B6.out.trans (b7.mono B6.out.size))
  clear b7 B6
  go_wp2_with fail
  refine (chains_of 3 (by decide) w7 (K4.out.kept B7.out)).mono ?_
  rintro e w8 ⟨rfl, b8⟩
  have B8 := Lib.hid (B7.out.trans (b8.mono B7.out.size))
  clear b8 B7
  go_wp2_with fail
  refine (chains_no 3 (by decide) w8 (K4.out.kept B8.out)).mono ?_
  rintro e w9 ⟨rfl, b9⟩
  have B9 := Lib.hid (B8.out.trans (b9.mono B8.out.size))
  clear b9 B8
  have v0 : w9.cell? ⟨g2, 0, none⟩ = some (.int .i64 0) := (B9.out.cell (p := ⟨g2, 0, none⟩) l2).trans V0.out
  have v32 : w9.cell? ⟨g2, 32, none⟩ = some (.int .i64 31) := (B9.out.cell (p := ⟨g2, 32, none⟩) l2).trans V32.out
  have v33 : w9.cell? ⟨g2, 33, none⟩ = some (.int .i64 224) := (B9.out.cell (p := ⟨g2, 33, none⟩) l2).trans V33.out
  go_wp2_with fail
  go_ret
  exact ⟨rfl, B1.out.trans ((B4.out.trans (B9.out.mono B4.out.size)).mono B1.out.size)⟩
end Go.Proofs.YthcebaegijlbdaaDoor
