/-
  PACKAGE tuple
  PACKAGE tuple
  PACKAGE tuple
-/
import Derived.Test.YtidklgicmhdapaaGreatDoorAv1
import Derived.Laws.StructEq
import Derived.StillTailTactics
import Derived.LoopTactic
import Derived.Deep.DeepCutAuto
import Derived.WalkKit
import Derived.Deep.DeepMust
namespace Go.Proofs.YtidklgicmhdapaaGreatDoor
open Go Go.RowKit Sh

structure Fld where
  k : Int
  n : Int
  s : ByteArray
def fv (f : Fld) : List Value := [.int .i64 f.k, .int .i64 f.n, .string f.s]
theorem fv_size (f : Fld) : (Tryz.prog.info? 158).map (·.size) = some (fv f).length := by
  show (Tryz.prog.info? 158).map (·.size) = some 3
  kernel_rfl
theorem fv_one (f : Fld) : (fv f).toArray.all (·.oneCell') = true := by simp [fv, Value.oneCell']
theorem fv_cells {w : World} {g : Nat} {k n : Int} {s : ByteArray} (h : Blk w g 158 (fv ⟨k, n, s⟩)) :
    w.cell? ⟨g, 0, none⟩ = some (.int .i64 k) ∧ w.cell? ⟨g, 1, none⟩ = some (.int .i64 n) ∧ w.cell? ⟨g, 2, none⟩ = some (.string s) := ⟨h.cell 0, h.cell 1, h.cell 2⟩
def okV (f : Fld) : Bool := if f.k = 1 then f.s.toList.isEmpty else if f.k = 2 then (f.n == 0) && decide ((f.s.size : Int) ≤ 40) else false
def okP (f : Fld) : Bool := if f.k = 3 ∨ f.k = 4 ∨ f.k = 5 then (f.n == 0) && f.s.toList.isEmpty else okV f

theorem isValue_t (f : Fld) (w : World) : Calls Tryz.prog 125 #[.agg (fv f).toArray] w fun e w' => e = .returned (.bool (okV f)) ∧ Below w.heap.size w w' := by
  obtain ⟨k, n, s⟩ := f
  have B0 := Lib.hid (Blk.new w 158 (fv ⟨k, n, s⟩))
  have BW := Lib.hid ((Below.refl w.heap.size w).alloc (Nat.le_refl _) (.cells (fv ⟨k, n, s⟩).toArray 158))
  obtain ⟨c0, c1, c2⟩ := fv_cells B0.out
  by_cases h1 : k = 1
  · subst h1
    go_enter Tryz.func125, Tryz.ntmps125
    go_wp2
    go_ret
    exact ⟨by simp [okV], BW.out⟩
  · have e1 : (k == 1) = false := by rw [beq_eq_false_iff_ne]; exact h1
    by_cases h2 : k = 2
    · subst h2
      cases hn : (n == 0) with
      | false =>
        go_enter Tryz.func125, Tryz.ntmps125
        go_wp2
        go_ret
        exact ⟨by simp [okV, hn], BW.out⟩
      | true =>
        go_enter Tryz.func125, Tryz.ntmps125
        go_wp2
        go_ret
        exact ⟨by simp [okV, hn], BW.out⟩
    · have e2 : (k == 2) = false := by rw [beq_eq_false_iff_ne]; exact h2
      go_enter Tryz.func125, Tryz.ntmps125
      go_wp2
      go_ret
      exact ⟨by simp [okV, h1, h2], BW.out⟩

theorem isPattern_t (f : Fld) (w : World) : Calls Tryz.prog 124 #[.agg (fv f).toArray] w fun e w' => e = .returned (.bool (okP f)) ∧ Below w.heap.size w w' := by
  have IV := Lib.hid (fun W => isValue_t f W)
  obtain ⟨k, n, s⟩ := f
  have FV := Lib.hid (fv_size ⟨k, n, s⟩)
  have B0 := Lib.hid (Blk.new w 158 (fv ⟨k, n, s⟩))
  have BW := Lib.hid ((Below.refl w.heap.size w).alloc (Nat.le_refl _) (.cells (fv ⟨k, n, s⟩).toArray 158))
  obtain ⟨c0, c1, c2⟩ := fv_cells B0.out
  by_cases h : k = 3 ∨ k = 4 ∨ k = 5
  · have hk : okP ⟨k, n, s⟩ = ((n == 0) && s.toList.isEmpty) := if_pos h
    rw [hk]
    clear IV hk
    rcases h with rfl | rfl | rfl
    all_goals
      cases hn : (n == 0) with
      | false =>
        go_enter Tryz.func124, Tryz.ntmps124
        go_wp2
        go_ret
        exact ⟨by simp, BW.out⟩
      | true =>
        go_enter Tryz.func124, Tryz.ntmps124
        go_wp2
        go_ret
        exact ⟨by simp, BW.out⟩
  · have hk : okP ⟨k, n, s⟩ = okV ⟨k, n, s⟩ := if_neg h
    rw [hk]
    have e3 : (k == 3) = false := by rw [beq_eq_false_iff_ne]; exact fun e => h (.inl e)
    have e4 : (k == 4) = false := by rw [beq_eq_false_iff_ne]; exact fun e => h (.inr (.inl e))
    have e5 : (k == 5) = false := by rw [beq_eq_false_iff_ne]; exact fun e => h (.inr (.inr e))
    clear hk h
    obtain ⟨b, hb⟩ : ∃ b, okV ⟨k, n, s⟩ = b := ⟨_, rfl⟩
    rw [hb] at IV ⊢
    obtain ⟨cs, hcs⟩ : ∃ cs, fv ⟨k, n, s⟩ = cs := ⟨_, rfl⟩
    rw [hcs] at IV FV B0 BW c0 c1 c2 ⊢
    clear hb hcs
    go_enter Tryz.func124, Tryz.ntmps124
    go_wp2_with ((with_reducible refine load_blk 158 (.tmp 1) w.heap.size 158 cs _ rfl rfl ?_ Tryz.underlying158 ?_ ?_ ?_ ?_); exact B0.out; exact rfl; exact FV.out; exact rfl)
    refine (IV.out _).mono ?_
    rintro e w1 ⟨rfl, b1⟩
    go_wp2_with fail
    go_ret
    exact ⟨rfl, BW.out.trans (b1.mono BW.out.size)⟩
end Go.Proofs.YtidklgicmhdapaaGreatDoor
namespace Go.Proofs.YtidklgicmhdapaaGreatDoor
open Go Go.RowKit Sh

def sameF (a b : Fld) : Bool := (a.k == b.k) && ((a.n == b.n) && (a.s.toList == b.s.toList))
end Go.Proofs.YtidklgicmhdapaaGreatDoor
namespace Go.Proofs.YtidklgicmhdapaaGreatDoor
open Go Go.RowKit Sh

def allN (B : Nat → Bool) : Nat → Bool
  | 0 => true
  | n + 1 => allN B n && B n
theorem allN_iff (B : Nat → Bool) : ∀ n, allN B n = true ↔ ∀ i, i < n → B i = true
  | 0 => by simp [allN]
  | n + 1 => by
    rw [allN, Bool.and_eq_true, allN_iff B n]
    constructor
    · rintro ⟨h, h'⟩ i hi
      rcases Nat.lt_or_ge i n with hlt | hge
      · exact h i hlt
      · obtain rfl : i = n := by omega
        exact h'
    · exact fun h => ⟨fun i hi => h i (by omega), h n (by omega)⟩
theorem allN_no {B : Nat → Bool} {n j : Nat} (hj : j < n) (h : B j = false) : allN B n = false := by
  cases hb : allN B n with
  | false => rfl
  | true => rw [(allN_iff B n).1 hb j hj] at h; cases h
set_option maxRecDepth 100000 in
set_option maxHeartbeats 400000 in
theorem every_t (F : FuncId) (C : Array Value) (n c : Nat) (p : Option Addr) (G : Nat → Fld) (B : Nat → Bool) (Iv : Nat → World → Prop) (w : World)
    (hcf : ∀ args W, (callFunc F args).run Tryz.prog W = .ok (.enter F args) W) (hn : n ≤ 9223372036854775807)
    (h0 : Iv 0 w) (hst : ∀ j W W', Iv j W → Below W.heap.size W W' → Iv j W')
    (hrd : ∀ j W, Iv j W → j < n → ∃ b o, p = some ⟨b, o, none⟩ ∧ W.rangeAt b (o + j * 3) (fv (G j)))
    (hcall : ∀ (j : Nat) W, j < n → (∀ i, i < j → B i = true) → Iv j W → Calls Tryz.prog F (#[.int .i64 (j : Int), .agg (fv (G j)).toArray] ++ C) W fun e W' => e = .returned (.bool (B j)) ∧ Iv (j + 1) W') :
    Calls Tryz.prog 106 #[.slice p n c, .func (.func F) #[] C] w fun e W' => ∃ m, m ≤ n ∧ e = .returned (.bool (allN B n)) ∧ Iv m W' ∧ (allN B n = true → m = n) := by
  have H0 := Lib.hid h0; have HST := Lib.hid hst; have HRD := Lib.hid hrd; have HC := Lib.hid hcall
  have AY := Lib.hid (fun h => (allN_iff B n).2 h); have AN := Lib.hid (fun j hj h => allN_no (B := B) (n := n) (j := j) hj h)
  obtain ⟨r, hr⟩ : ∃ r, allN B n = r := ⟨_, rfl⟩
  rw [hr] at AY AN ⊢
  clear h0 hst hrd hcall hr
  go_enter Tryz.func106, Tryz.ntmps106
  go_upto_region 2 with (fail)
  go_loopw [9] (fun x wr => ∃ j : Nat, j ≤ n ∧ x = .int .i64 (j : Int) ∧ Iv j wr ∧ ∀ i, i < j → B i = true) (fun x _ => n - (intOf x).toNat)
  case atStart => exact ⟨0, by omega, rfl, H0.out, fun i hi => absurd hi (by omega)⟩
  case round =>
    obtain ⟨j, hj, rfl, iv, hb⟩ := hrel
    have IV := Lib.hid iv; have HB := Lib.hid hb
    clear iv hb
    by_cases hlt : j < n
    · obtain ⟨b, o, rfl, rg⟩ := HRD.out j wr IV.out hlt
      have RG := Lib.hid rg
      have FS := Lib.hid (fv_size (G j)); have F1 := Lib.hid (fv_one (G j))
      have j1 : (j : Int) < (n : Int) := by omega
      have nB : (n : Int) ≤ 9223372036854775807 := by omega
      have B0 := Lib.hid (Blk.new wr 158 [.int .i64 0, .int .i64 0, .string { data := #[] }])
      have Z0 := Lib.hid (show (Tryz.prog.info? 158).map (·.size) = some 3 by kernel_rfl)
      clear rg
      have B1 := Lib.hid (B0.out.setRow (fv (G j)))
      have BW := Lib.hid (below_setRow ((Below.refl wr.heap.size wr).alloc (Nat.le_refl _) (.cells #[.int .i64 0, .int .i64 0, .string { data := #[] }] 158)) (Nat.le_refl _) (fv (G j)).toArray)
      go_wp2_with (first
        | (with_reducible refine at_op (.load 158 (.tmp 12)) rfl ?_; go_must (refine wpList_load_mid rfl 158 (.tmp 12) rfl b (o + j * 3) rfl (fv (G j)) _ RG.out Tryz.underlying158 rfl FS.out ?_))
        | (with_reducible refine at_op (.store 158 (.tmp 6) (.tmp 13)) rfl ?_; go_must (refine store_blk 158 (.tmp 6) (.tmp 13) wr.heap.size 158 [.int .i64 0, .int .i64 0, .string { data := #[] }] (fv (G j)) rfl rfl B0.out rfl FS.out F1.out rfl rfl ?_))
        | (with_reducible refine at_op (.load 158 (.tmp 6)) rfl ?_; go_must (refine load_blk 158 (.tmp 6) wr.heap.size 158 (fv (G j)) _ rfl rfl B1.out Tryz.underlying158 rfl FS.out rfl ?_)))
      refine (HC.out j _ hlt HB.out (HST.out j wr _ IV.out BW.out)).mono ?_
      rintro e w2 ⟨rfl, iv2⟩
      have IV2 := Lib.hid iv2
      clear iv2 IV B0 B1 BW RG FS F1 Z0
      cases hb : B j with
      | false =>
        have hR := AN.out j hlt hb
        subst hR
        clear hb
        go_wp2_with fail
        go_ret
        exact ⟨j + 1, hlt, rfl, IV2.out, fun h => by cases h⟩
      | true =>
        have HB2 := Lib.hid (show ∀ i, i < j + 1 → B i = true from fun i hi => by
          rcases Nat.lt_or_ge i j with h | h
          · exact HB.out i h
          · obtain rfl : i = j := by omega
            exact hb)
        clear hb
        go_wp2_with fail
        go_roundw
        case rel => exact ⟨j + 1, hlt, by go_num, IV2.out, HB2.out⟩
        case measure => simp [intOf]; omega
    · obtain rfl : j = n := by omega
      have hR := AY.out HB.out
      subst hR
      clear hlt
      go_wp2_with fail
      go_ret
      exact ⟨j, Nat.le_refl _, rfl, IV.out, by simp⟩
end Go.Proofs.YtidklgicmhdapaaGreatDoor
