/-
  PACKAGE ots: WHAT MAY NOT BE: Public, Sign, Candidate of a width or a leaf that is none.
-/
import Derived.Test.YtkcjiidimmefdaaGreatDoorOtD
namespace Go.Proofs.YtkcjiidimmefdaaGreatDoor
open Go Go.RowKit Sh

def z32 : List Nat := List.replicate 32 0
theorem z32_size : (Tryz.prog.info? 25).map (·.size) = some (u8s z32).length := size32 _ rfl
/-- No kind has that width, or no leaf that number. -/
def Nope (q n : Int) : Prop := (∀ i, i < 4 → n ≠ ((kd i).w : Int)) ∨ q < 0 ∨ 32 ≤ q
set_option maxRecDepth 100000 in
set_option maxHeartbeats 1000000 in
theorem public_bad (S : List Nat) (q n : Int) (w : World) (hk : KI w) (hq : Nope q n) :
    Calls Tryz.prog 109 #[.agg (u8s S).toArray, .int .i64 q, .int .i64 n] w fun e w' => e = .returned (.tuple #[.agg (u8s z32).toArray, .int .i64 1]) ∧ Below w.heap.size w w' := by
  have B0 := Lib.hid (((Below.refl w.heap.size w).alloc (Nat.le_refl _) (.cells (u8s S).toArray 27)).alloc (by simp) (.cells (u8s z32).toArray 25))
  have K0 := Lib.hid (hk.kept B0.out)
  have HQ := Lib.hid hq
  have Z0 := Lib.hid (Blk.new2 w (.cells (u8s S).toArray 27) 25 (u8s z32))
  clear hk hq
  go_enter Tryz.func109, Tryz.ntmps109
  go_wp2_with fail
  refine find_t n _ K0.out _ (fun i w1 hi hn b1 => ?_) (fun w1 hn b1 => ?_)
  · have hl : q < 0 ∨ 32 ≤ q := by
      rcases HQ.out with h | h
      · exact absurd hn (h i hi)
      · exact h
    have HL := Lib.hid hl
    have B1 := Lib.hid (B0.out.trans (b1.mono B0.out.size)); have Z1 := Lib.hid (Z0.out.below b1 Z0.out.lt); have R1 := Lib.hid (Blk.new w1 125 kz)
    have g1 := Z1.out.lt
    clear hn b1 hl B0 K0 Z0 HQ
    go_wp2_with (first
      | ((with_reducible refine store_blk 125 (.tmp 8) (.tmp 15) w1.heap.size 125 kz (kv (kd i)) rfl rfl ?_ ?_ ?_ ?_ ?_ ?_ ?_); exact R1.out; exact rfl; exact kv_size _; exact kv_one _; exact rfl; exact rfl)
      | (go_at_call 67; refine (isLeaf_no q _ HL.out).mono ?_; rintro e w2 ⟨rfl, rfl⟩)
      | ((with_reducible refine store_blk 25 (.tmp 6) (.tmp 24) (w.heap.size + 1) 25 (u8s z32) (u8s z32) rfl rfl ?_ ?_ ?_ ?_ ?_ ?_ ?_); exact (Z1.out.alloc _).setRow_far (by omega) _; exact rfl; exact z32_size; exact u8s_one _; exact rfl; exact rfl))
    refine ret_blk2 (p := 6) (u := 7) (ty := 25) rfl rfl (w.heap.size + 1) 25 (u8s z32) _ rfl (((Z1.out.alloc _).setRow_far (by omega) _).setRow _) Tryz.underlying25 rfl z32_size (.int .i64 1) rfl ?_
    exact ⟨rfl, below_setRow (below_setRow (B1.out.alloc B1.out.size _) B1.out.size _) (by omega) _⟩
  · have B1 := Lib.hid (B0.out.trans (b1.mono B0.out.size)); have Z1 := Lib.hid (Z0.out.below b1 Z0.out.lt); have R1 := Lib.hid (Blk.new w1 125 kz)
    have g1 := Z1.out.lt
    clear hn b1 B0 K0 Z0 HQ
    go_wp2_with (first
      | ((with_reducible refine store_blk 125 (.tmp 8) (.tmp 15) w1.heap.size 125 kz kz rfl rfl ?_ ?_ ?_ ?_ ?_ ?_ ?_); exact R1.out; exact rfl; exact kz_size; exact kz_one; exact rfl; exact rfl)
      | ((with_reducible refine store_blk 25 (.tmp 6) (.tmp 24) (w.heap.size + 1) 25 (u8s z32) (u8s z32) rfl rfl ?_ ?_ ?_ ?_ ?_ ?_ ?_); exact (Z1.out.alloc _).setRow_far (by omega) _; exact rfl; exact z32_size; exact u8s_one _; exact rfl; exact rfl))
    refine ret_blk2 (p := 6) (u := 7) (ty := 25) rfl rfl (w.heap.size + 1) 25 (u8s z32) _ rfl (((Z1.out.alloc _).setRow_far (by omega) _).setRow _) Tryz.underlying25 rfl z32_size (.int .i64 1) rfl ?_
    exact ⟨rfl, below_setRow (below_setRow (B1.out.alloc B1.out.size _) B1.out.size _) (by omega) _⟩
set_option maxRecDepth 100000 in
set_option maxHeartbeats 1000000 in
theorem sign_bad (S : List Nat) (q n : Int) (p : Option Addr) (m c : Nat) (w : World) (hk : KI w) (hq : Nope q n) :
    Calls Tryz.prog 46 #[.agg (u8s S).toArray, .int .i64 q, .int .i64 n, .slice p m c] w fun e w' => e = .returned (.tuple #[.slice none 0 0, .int .i64 1]) ∧ Below w.heap.size w w' := by
  have B0 := Lib.hid ((Below.refl w.heap.size w).alloc (Nat.le_refl _) (.cells (u8s S).toArray 27))
  have K0 := Lib.hid (hk.kept B0.out)
  have HQ := Lib.hid hq
  clear hk hq
  go_enter Tryz.func46, Tryz.ntmps46
  go_wp2_with fail
  refine find_t n _ K0.out _ (fun i w1 hi hn b1 => ?_) (fun w1 hn b1 => ?_)
  · have hl : q < 0 ∨ 32 ≤ q := by
      rcases HQ.out with h | h
      · exact absurd hn (h i hi)
      · exact h
    have HL := Lib.hid hl
    have B1 := Lib.hid (B0.out.trans (b1.mono B0.out.size)); have R1 := Lib.hid (Blk.new w1 125 kz)
    clear hn b1 hl B0 K0 HQ
    go_wp2_with (first
      | ((with_reducible refine store_blk 125 (.tmp 10) (.tmp 23) w1.heap.size 125 kz (kv (kd i)) rfl rfl ?_ ?_ ?_ ?_ ?_ ?_ ?_); exact R1.out; exact rfl; exact kv_size _; exact kv_one _; exact rfl; exact rfl)
      | (go_at_call 67; refine (isLeaf_no q _ HL.out).mono ?_; rintro e w2 ⟨rfl, rfl⟩))
    go_ret2
    exact ⟨rfl, below_setRow (B1.out.alloc B1.out.size _) B1.out.size _⟩
  · have B1 := Lib.hid (B0.out.trans (b1.mono B0.out.size)); have R1 := Lib.hid (Blk.new w1 125 kz)
    clear hn b1 B0 K0 HQ
    go_wp2_with (first
      | ((with_reducible refine store_blk 125 (.tmp 10) (.tmp 23) w1.heap.size 125 kz kz rfl rfl ?_ ?_ ?_ ?_ ?_ ?_ ?_); exact R1.out; exact rfl; exact kz_size; exact kz_one; exact rfl; exact rfl))
    go_ret2
    exact ⟨rfl, below_setRow (B1.out.alloc B1.out.size _) B1.out.size _⟩
set_option maxRecDepth 100000 in
set_option maxHeartbeats 1000000 in
theorem cand_bad (I : List Nat) (q n : Int) (p r : Option Addr) (m c m2 c2 : Nat) (w : World) (hk : KI w) (hq : Nope q n) :
    Calls Tryz.prog 60 #[.agg (u8s I).toArray, .int .i64 q, .int .i64 n, .slice p m c, .slice r m2 c2] w fun e w' => e = .returned (.tuple #[.agg (u8s z32).toArray, .int .i64 1]) ∧ Below w.heap.size w w' := by
  have B0 := Lib.hid ((((Below.refl w.heap.size w).alloc (Nat.le_refl _) (.cells (u8s I).toArray 23)).alloc (by simp) (.cells #[.slice r m2 c2] 36)).alloc (by simp; omega) (.cells (u8s z32).toArray 25))
  have K0 := Lib.hid (hk.kept B0.out)
  have HQ := Lib.hid hq
  have Z0 := Lib.hid (blk_at (w := (w.alloc (.cells (u8s I).toArray 23)).alloc (.cells #[.slice r m2 c2] 36)) (g := w.heap.size + 1 + 1) (by simp) (.cells (u8s z32).toArray 25) 25 (u8s z32))
  clear hk hq
  go_enter Tryz.func60, Tryz.ntmps60
  go_wp2_with fail
  refine find_t n _ K0.out _ (fun i w1 hi hn b1 => ?_) (fun w1 hn b1 => ?_)
  · have hl : q < 0 ∨ 32 ≤ q := by
      rcases HQ.out with h | h
      · exact absurd hn (h i hi)
      · exact h
    have HL := Lib.hid hl
    have B1 := Lib.hid (B0.out.trans (b1.mono B0.out.size)); have Z1 := Lib.hid (Z0.out.below b1 Z0.out.lt); have R1 := Lib.hid (Blk.new w1 125 kz)
    have g1 := Z1.out.lt
    clear hn b1 hl B0 K0 Z0 HQ
    go_wp2_with (first
      | ((with_reducible refine store_blk 125 (.tmp 12) (.tmp 20) w1.heap.size 125 kz (kv (kd i)) rfl rfl ?_ ?_ ?_ ?_ ?_ ?_ ?_); exact R1.out; exact rfl; exact kv_size _; exact kv_one _; exact rfl; exact rfl)
      | (go_at_call 67; refine (isLeaf_no q _ HL.out).mono ?_; rintro e w2 ⟨rfl, rfl⟩)
      | ((with_reducible refine store_blk 25 (.tmp 10) (.tmp 29) (w.heap.size + 1 + 1) 25 (u8s z32) (u8s z32) rfl rfl ?_ ?_ ?_ ?_ ?_ ?_ ?_); exact (Z1.out.alloc _).setRow_far (by omega) _; exact rfl; exact z32_size; exact u8s_one _; exact rfl; exact rfl))
    refine ret_blk2 (p := 10) (u := 11) (ty := 25) rfl rfl (w.heap.size + 1 + 1) 25 (u8s z32) _ rfl (((Z1.out.alloc _).setRow_far (by omega) _).setRow _) Tryz.underlying25 rfl z32_size (.int .i64 1) rfl ?_
    exact ⟨rfl, below_setRow (below_setRow (B1.out.alloc B1.out.size _) B1.out.size _) (by omega) _⟩
  · have B1 := Lib.hid (B0.out.trans (b1.mono B0.out.size)); have Z1 := Lib.hid (Z0.out.below b1 Z0.out.lt); have R1 := Lib.hid (Blk.new w1 125 kz)
    have g1 := Z1.out.lt
    clear hn b1 B0 K0 Z0 HQ
    go_wp2_with (first
      | ((with_reducible refine store_blk 125 (.tmp 12) (.tmp 20) w1.heap.size 125 kz kz rfl rfl ?_ ?_ ?_ ?_ ?_ ?_ ?_); exact R1.out; exact rfl; exact kz_size; exact kz_one; exact rfl; exact rfl)
      | ((with_reducible refine store_blk 25 (.tmp 10) (.tmp 29) (w.heap.size + 1 + 1) 25 (u8s z32) (u8s z32) rfl rfl ?_ ?_ ?_ ?_ ?_ ?_ ?_); exact (Z1.out.alloc _).setRow_far (by omega) _; exact rfl; exact z32_size; exact u8s_one _; exact rfl; exact rfl))
    refine ret_blk2 (p := 10) (u := 11) (ty := 25) rfl rfl (w.heap.size + 1 + 1) 25 (u8s z32) _ rfl (((Z1.out.alloc _).setRow_far (by omega) _).setRow _) Tryz.underlying25 rfl z32_size (.int .i64 1) rfl ?_
    exact ⟨rfl, below_setRow (below_setRow (B1.out.alloc B1.out.size _) B1.out.size _) (by omega) _⟩
theorem own_cell {w : World} {base : Nat} {v : Value} {l : List Nat} {n : Nat} (h : w.ownsRow base 3 1 v n (ints l)) (hn : 0 < n) : ∃ g c, v = .slice (some ⟨g, 0, none⟩) n c ∧ n ≤ c ∧ (∀ j, j < n → w.cell? ⟨g, j, none⟩ = some (.int .i64 ((gt l j : Nat) : Int))) ∧ g < w.heap.size := by
  obtain ⟨g, cap, rfl, _, hlt⟩ := h.form hn
  have hl : l.length = n := by have := h.1; rw [ints_length] at this; omega
  obtain ⟨_, _, e, hc⟩ := own_form h
  injection e with _ _ e
  subst e
  refine ⟨g, cap, rfl, hc, fun j hj => ?_, hlt⟩
  have := h.cells (g := g) rfl j _ (ints_get l j (by omega))
  rw [Addr.add_mid, Nat.zero_add] at this
  exact this
theorem kd_inj {i j : Nat} (hi : i < 4) (hj : j < 4) (h : (kd i).w = (kd j).w) : i = j := by
  have h1 : i = 0 ∨ i = 1 ∨ i = 2 ∨ i = 3 := by omega
  have h2 : j = 0 ∨ j = 1 ∨ j = 2 ∨ j = 3 := by omega
  rcases h1 with rfl | rfl | rfl | rfl <;> rcases h2 with rfl | rfl | rfl | rfl <;> first | rfl | (exact absurd h (by decide))
theorem chains_of (i : Nat) (hi : i < 4) (w : World) (hk : KI w) : Calls Tryz.prog 80 #[.int .i64 ((kd i).w : Int)] w fun e w' => e = .returned (.int .i64 ((kd i).p : Int)) ∧ Below w.heap.size w w' :=
  chains_t _ w hk _ (fun j _ hj hn b => by
    obtain rfl := kd_inj hi hj (by omega)
    exact ⟨rfl, b⟩) (fun _ hn _ => absurd rfl (hn i hi))
theorem chains_no (n : Int) (hn : ∀ i, i < 4 → n ≠ ((kd i).w : Int)) (w : World) (hk : KI w) : Calls Tryz.prog 80 #[.int .i64 n] w fun e w' => e = .returned (.int .i64 0) ∧ Below w.heap.size w w' :=
  chains_t _ w hk _ (fun j _ hj h _ => absurd h (hn j hj)) (fun _ _ b => ⟨rfl, b⟩)
end Go.Proofs.YtkcjiidimmefdaaGreatDoor
