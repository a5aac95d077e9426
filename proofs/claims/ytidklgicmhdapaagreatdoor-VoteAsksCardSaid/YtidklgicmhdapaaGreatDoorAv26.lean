/-
  PACKAGE space
  LAW 8
  LAYER 9
-/
import Derived.Test.YtidklgicmhdapaaGreatDoorAv19
import Derived.Test.YtidklgicmhdapaaGreatDoorAv23
import Derived.Test.YtidklgicmhdapaaGreatDoorAv24
import Derived.Test.YtidklgicmhdapaaGreatDoorAv25
namespace Go.Proofs.YtidklgicmhdapaaGreatDoor
open Go Go.RowKit Sh

def nrep (c : Int) : Rpv := ⟨⟨c, 0, 0, [], false⟩, none, 0⟩
def nsp (rd wr : Int) (a b c d : Int) : Spv := ⟨0, [], none, 0, [], none, 0, bits .and .i64 rd 15, bits .and .i64 wr 15, [nrep a, nrep b, nrep c, nrep d]⟩
theorem nsp_sp (rd wr : Int) : (nsp rd wr 0 1 2 3).sp = newS rd wr := rfl
def nK (rd wr : Int) (j : Nat) : Spv := nsp rd wr 0 (if 1 < j then 1 else 0) (if 2 < j then 2 else 0) (if 3 < j then 3 else 0)
theorem nK_set (rd wr : Int) (j : Nat) (hj : j < 4) : (sv (nK rd wr j)).set (5 + j * 5) (.int .i64 (j : Int)) = sv (nK rd wr (j + 1)) := by
  have hc : j = 0 ∨ j = 1 ∨ j = 2 ∨ j = 3 := by omega
  rcases hc with rfl | rfl | rfl | rfl <;> rfl
structure NW (w0 W : World) (rd wr : Int) (j : Nat) : Prop where
  a : Blk W (w0.heap.size + 1) 82 (sv (nK rd wr j))
  z : Blk W w0.heap.size 82 [.int .i64 0, .slice none 0 0, .slice none 0 0, .int .i64 0, .int .i64 0, .int .i64 0, .int .i64 0, .int .i64 0, .slice none 0 0, .bool false, .int .i64 0, .int .i64 0, .int .i64 0, .slice none 0 0, .bool false, .int .i64 0, .int .i64 0, .int .i64 0, .slice none 0 0, .bool false, .int .i64 0, .int .i64 0, .int .i64 0, .slice none 0 0, .bool false]
  bel : Below w0.heap.size w0 W
set_option maxRecDepth 100000 in
set_option maxHeartbeats 1000000 in
theorem New_t (rd wx : Int) (w : World) : Calls Tryz.prog 54 #[.int .i64 rd, .int .i64 wx] w fun e w' => e = .returned (.agg (sv (nsp rd wx 0 1 2 3)).toArray) ∧ Below w.heap.size w w' := by
  have Y0 := Lib.hid (Blk.new2 w (.cells #[.int .i64 0, .slice none 0 0, .slice none 0 0, .int .i64 0, .int .i64 0, .int .i64 0, .int .i64 0, .int .i64 0, .slice none 0 0, .bool false, .int .i64 0, .int .i64 0, .int .i64 0, .slice none 0 0, .bool false, .int .i64 0, .int .i64 0, .int .i64 0, .slice none 0 0, .bool false, .int .i64 0, .int .i64 0, .int .i64 0, .slice none 0 0, .bool false] 82) 82 [.int .i64 0, .slice none 0 0, .slice none 0 0, .int .i64 0, .int .i64 0, .int .i64 0, .int .i64 0, .int .i64 0, .slice none 0 0, .bool false, .int .i64 0, .int .i64 0, .int .i64 0, .slice none 0 0, .bool false, .int .i64 0, .int .i64 0, .int .i64 0, .slice none 0 0, .bool false, .int .i64 0, .int .i64 0, .int .i64 0, .slice none 0 0, .bool false])
  have S0 := Lib.hid (show NW w (((w.alloc (.cells #[.int .i64 0, .slice none 0 0, .slice none 0 0, .int .i64 0, .int .i64 0, .int .i64 0, .int .i64 0, .int .i64 0, .slice none 0 0, .bool false, .int .i64 0, .int .i64 0, .int .i64 0, .slice none 0 0, .bool false, .int .i64 0, .int .i64 0, .int .i64 0, .slice none 0 0, .bool false, .int .i64 0, .int .i64 0, .int .i64 0, .slice none 0 0, .bool false] 82)).alloc (.cells #[.int .i64 0, .slice none 0 0, .slice none 0 0, .int .i64 0, .int .i64 0, .int .i64 0, .int .i64 0, .int .i64 0, .slice none 0 0, .bool false, .int .i64 0, .int .i64 0, .int .i64 0, .slice none 0 0, .bool false, .int .i64 0, .int .i64 0, .int .i64 0, .slice none 0 0, .bool false, .int .i64 0, .int .i64 0, .int .i64 0, .slice none 0 0, .bool false] 82)).setRow (w.heap.size + 1) (sv (nK rd wx 0)).toArray) rd wx 0 from by
    have b1 := (Below.refl w.heap.size w).alloc (Nat.le_refl _) (.cells #[.int .i64 0, .slice none 0 0, .slice none 0 0, .int .i64 0, .int .i64 0, .int .i64 0, .int .i64 0, .int .i64 0, .slice none 0 0, .bool false, .int .i64 0, .int .i64 0, .int .i64 0, .slice none 0 0, .bool false, .int .i64 0, .int .i64 0, .int .i64 0, .slice none 0 0, .bool false, .int .i64 0, .int .i64 0, .int .i64 0, .slice none 0 0, .bool false] 82)
    exact ⟨(Blk.new2 w _ _ _).setRow _, ((Blk.new w 82 [.int .i64 0, .slice none 0 0, .slice none 0 0, .int .i64 0, .int .i64 0, .int .i64 0, .int .i64 0, .int .i64 0, .slice none 0 0, .bool false, .int .i64 0, .int .i64 0, .int .i64 0, .slice none 0 0, .bool false, .int .i64 0, .int .i64 0, .int .i64 0, .slice none 0 0, .bool false, .int .i64 0, .int .i64 0, .int .i64 0, .slice none 0 0, .bool false]).alloc _).setRow_far (by omega) _, below_setRow (b1.alloc (by simp) _) (Nat.le_succ _) _⟩)
  have F0 := Lib.hid (sv_size (nK rd wx 0) rfl); have F10 := Lib.hid (sv_one (nK rd wx 0))
  have hl : sv (nK rd wx 0) = [.int .i64 0, .slice none 0 0, .slice none 0 0, .int .i64 (bits .and .i64 rd 15), .int .i64 (bits .and .i64 wx 15), .int .i64 0, .int .i64 0, .int .i64 0, .slice none 0 0, .bool false, .int .i64 0, .int .i64 0, .int .i64 0, .slice none 0 0, .bool false, .int .i64 0, .int .i64 0, .int .i64 0, .slice none 0 0, .bool false, .int .i64 0, .int .i64 0, .int .i64 0, .slice none 0 0, .bool false] := rfl
  rw [hl] at S0 F0 F10
  clear hl
  go_enter Tryz.func54, Tryz.ntmps54
  go_upto_region 3 with (((with_reducible refine store_blk 82 (.tmp 5) (.tmp 11) (w.heap.size + 1) 82 [.int .i64 0, .slice none 0 0, .slice none 0 0, .int .i64 0, .int .i64 0, .int .i64 0, .int .i64 0, .int .i64 0, .slice none 0 0, .bool false, .int .i64 0, .int .i64 0, .int .i64 0, .slice none 0 0, .bool false, .int .i64 0, .int .i64 0, .int .i64 0, .slice none 0 0, .bool false, .int .i64 0, .int .i64 0, .int .i64 0, .slice none 0 0, .bool false] [.int .i64 0, .slice none 0 0, .slice none 0 0, .int .i64 (bits .and .i64 rd 15), .int .i64 (bits .and .i64 wx 15), .int .i64 0, .int .i64 0, .int .i64 0, .slice none 0 0, .bool false, .int .i64 0, .int .i64 0, .int .i64 0, .slice none 0 0, .bool false, .int .i64 0, .int .i64 0, .int .i64 0, .slice none 0 0, .bool false, .int .i64 0, .int .i64 0, .int .i64 0, .slice none 0 0, .bool false] rfl rfl ?_ ?_ ?_ ?_ ?_ ?_ ?_); exact Y0.out; exact rfl; exact F0.out; exact F10.out; exact rfl; exact rfl))
  clear Y0 F0 F10
  go_loopw [12] (fun x wr => ∃ j : Nat, j ≤ 4 ∧ x = .int .i64 (j : Int) ∧ NW w wr rd wx j) (fun x _ => 4 - (intOf x).toNat)
  case atStart => exact ⟨0, by omega, rfl, S0.out⟩
  case round =>
    obtain ⟨j, hj, rfl, hS⟩ := hrel
    have S1 := Lib.hid hS
    clear hS S0
    by_cases hlt : j < 4
    · have j1 : (j : Int) < 4 := by omega
      have ct : ∃ v, wr.cell? ⟨w.heap.size + 1, 5 + j * 5, none⟩ = some v := by
        rw [S1.out.a.cell]
        exact ⟨_, List.getElem?_eq_getElem (by rw [sv_len _ rfl]; omega)⟩
      obtain ⟨v, ct⟩ := ct
      have fz := S1.out.a.frozen (5 + j * 5)
      have S2 := Lib.hid (show NW w (wr.setCell ⟨w.heap.size + 1, 5 + j * 5, none⟩ (.int .i64 (j : Int))) rd wx (j + 1) from by
        refine ⟨?_, S1.out.z.far (p := ⟨w.heap.size + 1, 5 + j * 5, none⟩) (by show w.heap.size ≠ w.heap.size + 1; omega) _, S1.out.bel.setCell (p := ⟨w.heap.size + 1, 5 + j * 5, none⟩) (Nat.le_succ _) _⟩
        rw [← nK_set rd wx j hlt]
        exact S1.out.a.store _ _)
      go_wp2_with fail
      go_roundw
      case rel => exact ⟨j + 1, hlt, by go_num, S2.out⟩
      case measure => simp [intOf]; omega
    · obtain rfl : j = 4 := by omega
      clear hlt
      have FS := Lib.hid (sv_size (nK rd wx 4) rfl); have F1 := Lib.hid (sv_one (nK rd wx 4))
      have A1 := Lib.hid S1.out.a; have Z1 := Lib.hid S1.out.z
      have Z2 := Lib.hid (S1.out.z.setRow (sv (nK rd wx 4)))
      have B2 := Lib.hid (below_setRow S1.out.bel (Nat.le_refl _) (sv (nK rd wx 4)).toArray)
      go_wp2_with (first
        | ((with_reducible refine load_blk 82 (.tmp 5) (w.heap.size + 1) 82 (sv (nK rd wx 4)) _ rfl rfl ?_ Tryz.underlying82 ?_ ?_ ?_ ?_); exact A1.out; exact rfl; exact FS.out; exact rfl)
        | ((with_reducible refine store_blk 82 (.tmp 4) (.tmp 21) w.heap.size 82 [.int .i64 0, .slice none 0 0, .slice none 0 0, .int .i64 0, .int .i64 0, .int .i64 0, .int .i64 0, .int .i64 0, .slice none 0 0, .bool false, .int .i64 0, .int .i64 0, .int .i64 0, .slice none 0 0, .bool false, .int .i64 0, .int .i64 0, .int .i64 0, .slice none 0 0, .bool false, .int .i64 0, .int .i64 0, .int .i64 0, .slice none 0 0, .bool false] (sv (nK rd wx 4)) rfl rfl ?_ ?_ ?_ ?_ ?_ ?_ ?_); exact Z1.out; exact rfl; exact FS.out; exact F1.out; exact rfl; exact rfl))
      exact ret_blk (p := 4) (ty := 82) rfl rfl w.heap.size 82 _ _ rfl Z2.out Tryz.underlying82 rfl FS.out ⟨rfl, B2.out⟩
end Go.Proofs.YtidklgicmhdapaaGreatDoor
namespace Go.Proofs.YtidklgicmhdapaaGreatDoor
open Go Go.RowKit Sh

def fA : Fld := ⟨5, 0, eS⟩
def fI (n : Int) : Fld := ⟨1, n, eS⟩
def q1 : Rq := ⟨0, 1, 5, 0, 1, fun _ => fA, 0, fun _ => f0⟩
def q2 : Rq := ⟨1, 1, 1, 9, 0, fun _ => f0, 1, fun _ => fI 4⟩
structure KSp (W : World) (g : Nat) (x : Spv) : Prop where
  box : Blk W g 82 (sv x)
  w : SpW W x
theorem KSp.new {w1 : World} {x : Spv} (h : SpW w1 x) : KSp ((w1.alloc (.cells #[.int .i64 0, .slice none 0 0, .slice none 0 0, .int .i64 0, .int .i64 0, .int .i64 0, .int .i64 0, .int .i64 0, .slice none 0 0, .bool false, .int .i64 0, .int .i64 0, .int .i64 0, .slice none 0 0, .bool false, .int .i64 0, .int .i64 0, .int .i64 0, .slice none 0 0, .bool false, .int .i64 0, .int .i64 0, .int .i64 0, .slice none 0 0, .bool false] 82)).setRow w1.heap.size (sv x).toArray) w1.heap.size x ∧ Below w1.heap.size w1 ((w1.alloc (.cells #[.int .i64 0, .slice none 0 0, .slice none 0 0, .int .i64 0, .int .i64 0, .int .i64 0, .int .i64 0, .int .i64 0, .slice none 0 0, .bool false, .int .i64 0, .int .i64 0, .int .i64 0, .slice none 0 0, .bool false, .int .i64 0, .int .i64 0, .int .i64 0, .slice none 0 0, .bool false, .int .i64 0, .int .i64 0, .int .i64 0, .slice none 0 0, .bool false] 82)).setRow w1.heap.size (sv x).toArray) := by
  have b := below_setRow (g := w1.heap.size) ((Below.refl w1.heap.size w1).alloc (Nat.le_refl _) (.cells #[.int .i64 0, .slice none 0 0, .slice none 0 0, .int .i64 0, .int .i64 0, .int .i64 0, .int .i64 0, .int .i64 0, .slice none 0 0, .bool false, .int .i64 0, .int .i64 0, .int .i64 0, .slice none 0 0, .bool false, .int .i64 0, .int .i64 0, .int .i64 0, .slice none 0 0, .bool false, .int .i64 0, .int .i64 0, .int .i64 0, .slice none 0 0, .bool false] 82)) (Nat.le_refl _) (sv x).toArray
  exact ⟨⟨(Blk.new w1 82 [.int .i64 0, .slice none 0 0, .slice none 0 0, .int .i64 0, .int .i64 0, .int .i64 0, .int .i64 0, .int .i64 0, .slice none 0 0, .bool false, .int .i64 0, .int .i64 0, .int .i64 0, .slice none 0 0, .bool false, .int .i64 0, .int .i64 0, .int .i64 0, .slice none 0 0, .bool false, .int .i64 0, .int .i64 0, .int .i64 0, .slice none 0 0, .bool false]).setRow (sv x), h.below b⟩, b⟩
end Go.Proofs.YtidklgicmhdapaaGreatDoor
namespace Go.Proofs.YtidklgicmhdapaaGreatDoor
open Go Go.RowKit Sh

def nS9 : Sp := newS 15 7
theorem in9 : InS nS9 := by
  refine ⟨fun i hi => ?_, fun i hi => ?_, fun r hr f hf => ?_⟩
  · cases hi
  · cases hi
  · simp only [nS9, newS, List.mem_cons, List.not_mem_nil, or_false] at hr
    rcases hr with rfl | rfl | rfl | rfl <;> cases hf
theorem gsp_w (a b c : Int) (W : World) : SpW W (gsp a b c) :=
  ⟨RowL.nil, (fun y hy => by cases hy), RowL.nil, (fun y hy => by cases hy), rfl, (fun y hy => by
    simp only [gsp, List.mem_cons, List.not_mem_nil, or_false] at hy
    rcases hy with rfl | rfl | rfl | rfl <;> exact ⟨fun j hj => absurd hj (Nat.not_lt_zero j), Nat.zero_le _⟩), Nat.zero_le _, Nat.zero_le _⟩
end Go.Proofs.YtidklgicmhdapaaGreatDoor
