/-
  A READER WHOSE BYTES LIE IN CERTAIN BLOCKS
  PACKAGE space
-/
import Derived.Test.YtidklgicmhdapaaGreatDoorAv15
import Derived.Test.YtidklgicmhdapaaGreatDoorAv5
namespace Go.Proofs.YtidklgicmhdapaaGreatDoor
open Go Go.RowKit Sh

theorem RdF.nil {F : Nat → Prop} {w : World} {g : Nat} {b : Bool} (x : Rd w g [] b) : RdF F w g [] b := by
  obtain ⟨A, c, h1, h2, h3⟩ := x.is
  exact ⟨⟨A, c, h1, h2, h3, fun h => absurd h (by decide)⟩, fun _ => rfl⟩
set_option maxHeartbeats 400000 in
theorem rnum_okF (F : Nat → Prop) (g : Nat) (xs : List Nat) (bad : Bool) (n : Nat) (w : World) (x : RdF F w g xs bad) (hb : Bytes xs) (h1 : 1 ≤ n) (h2 : n ≤ 8) (hn : n ≤ xs.length) :
    Calls Tryz.prog 24 #[.pointer (some ⟨g, 0, none⟩), .int .i64 n] w fun e w' => e = .returned (.int .u64 (val (xs.take n) : Nat)) ∧ RdF F w' g (xs.drop n) bad ∧ Kept (fun k => k = g) w w' := by
  have HT := Lib.hid (take_F F g xs bad n w x hn)
  have HB := Lib.hid hb
  clear x
  go_enter Tryz.func24, Tryz.ntmps24
  go_wp2_with (first
    | (go_at_call 41; refine (wide_yes n _ (by omega) (by omega)).mono ?_; rintro e w2 ⟨rfl, rfl⟩)
    | (go_at_call 44; refine (HT.out).mono ?_; rintro e w2 ⟨⟨A, c, rfl, hc, hs⟩, x2, k2⟩; have X2 := Lib.hid x2; have K2 := Lib.hid k2; have HS := Lib.hid hs; clear x2 k2 hs))
  obtain ⟨b, o, rfl, _, hby⟩ := HS.out (by rw [List.length_take]; omega)
  have HBY := Lib.hid hby
  clear hby HT
  go_loop [6, 18] (fun v i => ∃ k : Nat, k ≤ n ∧ v = .int .u64 (val (xs.take k) : Nat) ∧ i = .int .i64 k) (fun _ i => n - (intOf i).toNat)
  case atStart => exact ⟨0, by omega, rfl, rfl⟩
  case round =>
    obtain ⟨k, hk, rfl, rfl⟩ := hrel
    by_cases hlt : k < n
    · have c0 := HBY.out k (by rw [List.length_take]; omega)
      have e0 : gt (xs.take n) k = gt xs k := by simp [gt, List.getD_eq_getElem?_getD, hlt]
      rw [e0] at c0
      clear e0
      have b0 := HB.out k
      go_wp2
      go_round
      case rel =>
        refine ⟨k + 1, by omega, ?_, by go_num⟩
        rw [or_step _ _ (val_small _ (bytes_take HB.out k) (by rw [List.length_take]; omega)) b0, List.take_succ_eq_append_getElem (by omega), val_snoc, ← gt_of_lt]
      case measure => simp [intOf]; omega
    · obtain rfl : k = n := by omega
      go_wp2
      go_ret
      exact ⟨rfl, X2.out, K2.out⟩
theorem rtext_okF (F : Nat → Prop) (g : Nat) (xs : List Nat) (bad : Bool) (most : Int) (w : World) (x : RdF F w g xs bad) (hb : Bytes xs) (hm : -9223372036854775808 ≤ most ∧ most ≤ 9223372036854775807) (hl : xs.length ≤ 70368744177664) (hn : 4 ≤ xs.length) (s : Nat) (hs : val (xs.take 4) = s) (h1 : s ≤ most.toNat) (h2 : s ≤ xs.length - 4) :
    Calls Tryz.prog 26 #[.pointer (some ⟨g, 0, none⟩), .int .i64 most] w fun e w' => ∃ v, e = .returned v ∧ w'.ownsRow w.heap.size 5 1 v s (u8s ((xs.drop 4).take s)) ∧ RdF F w' g ((xs.drop 4).drop s) bad ∧ Kept (fun k => k = g) w w' := by
  have HT := Lib.hid (rnum_okF F g xs bad 4 w x hb (by omega) (by omega) hn)
  have hv : val (xs.take 4) < 4294967296 := by have := val_lt (xs.take 4) (bytes_take hb 4); rw [List.length_take, Nat.min_eq_left hn] at this; exact this
  have hlen : (xs.drop 4).length = xs.length - 4 := List.length_drop
  rw [hs] at HT hv
  generalize xs.drop 4 = ys at *
  rw [← hlen] at h2
  have hyl : ys.length ≤ 70368744177664 := by omega
  clear x hn hb hl hlen hs
  obtain ⟨hm1, hm2⟩ := hm
  rcases (show most < 0 ∨ 0 ≤ most by omega) with h0 | h0
  · have hs0 : s = 0 := by omega
    subst hs0
    go_enter Tryz.func26, Tryz.ntmps26
    go_wp2_with fail
    refine HT.out.mono ?_
    rintro e w1 ⟨rfl, x1, k1⟩
    have X1 := Lib.hid x1; have K1 := Lib.hid k1
    clear x1 k1 HT
    go_wp2_with (first
      | (go_at_call 45; refine (left_t g ys bad _ (by exact X1.out.rd)).mono ?_; rintro e w2 ⟨rfl, rfl⟩)
      | (go_at_call 25; refine (raw_F F g ys bad 0 _ (by exact X1.out) (Nat.zero_le _) hyl).mono ?_; rintro e w2 ⟨v, rfl, o2, x2, k2⟩; have O2 := Lib.hid o2; have X2 := Lib.hid x2; have K2 := Lib.hid k2; clear o2 x2 k2))
    go_ret
    exact ⟨v, rfl, own_base O2.out (fun k hk => by have h1 := K1.out.size; have h2 := O2.out.lt k hk; omega), X2.out, K1.out.trans K2.out⟩
  · obtain ⟨m, rfl⟩ := Int.eq_ofNat_of_zero_le h0
    have hsm : s ≤ m := by omega
    clear h1
    go_enter Tryz.func26, Tryz.ntmps26
    go_wp2_with fail
    refine HT.out.mono ?_
    rintro e w1 ⟨rfl, x1, k1⟩
    have X1 := Lib.hid x1; have K1 := Lib.hid k1
    clear x1 k1 HT
    go_wp2_with (first
      | (go_at_call 45; refine (left_t g ys bad _ (by exact X1.out.rd)).mono ?_; rintro e w2 ⟨rfl, rfl⟩)
      | (go_at_call 25; refine (raw_F F g ys bad s _ (by exact X1.out) h2 hyl).mono ?_; rintro e w2 ⟨v, rfl, o2, x2, k2⟩; have O2 := Lib.hid o2; have X2 := Lib.hid x2; have K2 := Lib.hid k2; clear o2 x2 k2))
    go_ret
    exact ⟨v, rfl, own_base O2.out (fun k hk => by have h1 := K1.out.size; have h2 := O2.out.lt k hk; omega), X2.out, K1.out.trans K2.out⟩
theorem rnum_F (F : Nat → Prop) (g : Nat) (xs : List Nat) (bad : Bool) (n : Nat) (w : World) (x : RdF F w g xs bad) (hb : Bytes xs) (h1 : 1 ≤ n) (h2 : n ≤ 8) :
    Calls Tryz.prog 24 #[.pointer (some ⟨g, 0, none⟩), .int .i64 n] w fun e w' => e = .returned (.int .u64 ((rNum xs bad n).1 : Nat)) ∧ RdF F w' g (rNum xs bad n).2.1 (rNum xs bad n).2.2 ∧ Kept (fun k => k = g) w w' := by
  unfold rNum
  by_cases h : xs.length < n
  · rw [if_pos h]
    refine (rnum_short g xs bad n w x.rd h1 h2 h).mono ?_
    rintro e w' ⟨rfl, r, k⟩
    exact ⟨rfl, .nil r, k⟩
  · rw [if_neg h]
    exact rnum_okF F g xs bad n w x hb h1 h2 (by omega)
theorem rtxt_F (F : Nat → Prop) (g : Nat) (xs : List Nat) (bad : Bool) (most : Nat) (w : World) (x : RdF F w g xs bad) (hb : Bytes xs) (hm : most ≤ 1000000) (hl : xs.length ≤ 70368744177664) :
    Calls Tryz.prog 26 #[.pointer (some ⟨g, 0, none⟩), .int .i64 (most : Int)] w fun e w' => ∃ v, e = .returned v ∧ w'.ownsRow w.heap.size 5 1 v (rTxt xs bad most).1.length (u8s (rTxt xs bad most).1) ∧ RdF F w' g (rTxt xs bad most).2.1 (rTxt xs bad most).2.2 ∧ Kept (fun k => k = g) w w' := by
  unfold rTxt
  by_cases h : 4 ≤ xs.length ∧ val (xs.take 4) ≤ most ∧ val (xs.take 4) ≤ xs.length - 4
  · rw [if_pos h]
    refine (rtext_okF F g xs bad (most : Int) w x hb (by omega) hl h.1 _ rfl (by simpa using h.2.1) h.2.2).mono ?_
    rintro e w' ⟨v, rfl, o, r, k⟩
    refine ⟨v, rfl, ?_, r, k⟩
    show w'.ownsRow w.heap.size _ 1 v ((xs.drop 4).take (val (xs.take 4))).length _
    rw [List.length_take, List.length_drop, Nat.min_eq_left h.2.2]
    exact o
  · rw [if_neg h]
    by_cases h4 : xs.length < 4
    · refine (rtext_short g xs bad (most : Int) w x.rd (by omega) h4).mono ?_
      rintro e w' ⟨v, rfl, o, r, k⟩
      exact ⟨v, rfl, o, .nil r, k⟩
    · refine (rtext_over g xs bad (most : Int) w x.rd hb (by omega) hl (by omega) (by
        have : most < val (xs.take 4) ∨ xs.length - 4 < val (xs.take 4) := by omega
        simpa using this)).mono ?_
      rintro e w' ⟨v, rfl, o, r, k⟩
      exact ⟨v, rfl, o, .nil r, k⟩
end Go.Proofs.YtidklgicmhdapaaGreatDoor
namespace Go.Proofs.YtidklgicmhdapaaGreatDoor
open Go Go.RowKit Sh

theorem sv_cells {w : World} {g : Nat} {x : Spv} (h : Blk w g 82 (sv x)) :
    w.cell? ⟨g, 0, none⟩ = some (.int .i64 x.now) ∧ w.cell? ⟨g, 1, none⟩ = some (.slice x.ip x.its.length x.ic) ∧ w.cell? ⟨g, 2, none⟩ = some (.slice x.wp x.wts.length x.wc) ∧ w.cell? ⟨g, 3, none⟩ = some (.int .i64 x.rd) ∧ w.cell? ⟨g, 4, none⟩ = some (.int .i64 x.wr) := ⟨h.cell 0, h.cell 1, h.cell 2, h.cell 3, h.cell 4⟩
theorem iv_oneA (x : Itv) : (iv x).toArray.all (·.oneCell') = true := by simp [iv, Value.oneCell']
theorem wv_oneA (x : Wtv) : (wv x).toArray.all (·.oneCell') = true := by simp [wv, Value.oneCell']
theorem iv_cells {w : World} {g : Nat} {x : Itv} (h : Blk w g 108 (iv x)) :
    w.cell? ⟨g, 0, none⟩ = some (.int .i64 x.i.own) ∧ w.cell? ⟨g, 1, none⟩ = some (.int .i64 x.i.un) ∧ w.cell? ⟨g, 2, none⟩ = some (.slice x.p x.i.t.length x.c) := ⟨h.cell 0, h.cell 1, h.cell 2⟩
theorem wv_cells {w : World} {g : Nat} {x : Wtv} (h : Blk w g 113 (wv x)) :
    w.cell? ⟨g, 0, none⟩ = some (.int .i64 x.x.cl) ∧ w.cell? ⟨g, 1, none⟩ = some (.int .i64 x.x.sq) ∧ w.cell? ⟨g, 2, none⟩ = some (.bool x.x.tk) ∧ w.cell? ⟨g, 3, none⟩ = some (.slice x.p x.x.p.length x.c) := ⟨h.cell 0, h.cell 1, h.cell 2, h.cell 3⟩
end Go.Proofs.YtidklgicmhdapaaGreatDoor
