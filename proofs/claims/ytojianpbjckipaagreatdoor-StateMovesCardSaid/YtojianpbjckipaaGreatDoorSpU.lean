/-
  PACKAGE space: Do.
-/
import Derived.Test.YtojianpbjckipaaGreatDoorSpT
namespace Go.Proofs.YtojianpbjckipaaGreatDoor
open Go Go.RowKit Sh

theorem SF.low {B B' : Nat} {W : World} {x : Spv} (h : SF B W x) (hb : B' ≤ B) : SF B' W x :=
  ⟨own_base h.its (fun k hk => Nat.le_trans hb (h.its.lt k hk).1), fun y hy => (h.it y hy).low hb, own_base h.wts (fun k hk => Nat.le_trans hb (h.wts.lt k hk).1), fun y hy => (h.wt y hy).low hb, h.l4, fun y hy => (h.la y hy).low hb⟩
theorem do_no {s : Sp} {now : Int} {r : Rq} (h : okDo s now r = false) : doP s now r = (s, []) := by
  unfold doP
  rw [if_pos h]
theorem spMay_h {s : Sp} (h : spMay s = true) : 0 ≤ s.now ∧ ∀ y ∈ s.wts, clB y.cl = true := by
  unfold spMay wtsB at h
  simp only [Bool.and_eq_true, decide_eq_true_eq] at h
  refine ⟨h.1, fun y hy => ?_⟩
  have h1 := List.all_eq_true.1 h.2.2.2.2.2.1.2 y hy
  unfold wtB at h1
  simp only [Bool.and_eq_true] at h1
  exact h1.1
theorem small_goOn {s : Sp} (hs : Small s) (now : Int) : Small (goOnP s now) :=
  ⟨Nat.le_trans (List.length_filter_le _ _) hs.n, fun y hy => hs.it y (List.mem_filter.1 hy).1, hs.m, hs.wt, hs.la⟩
/-- Another block of a space is written: this one stays. -/
theorem SM.farS {wB W W' : World} {g b : Nat} {x : Spv} {cs : List Value} (h : SM wB W g x) (hb : Blk W b 29 cs) (hne : g ≠ b) (hge : wB.heap.size ≤ b) (hk : Kept (fun k => k = b) W W') : SM wB W' g x :=
  ⟨h.box.kept hk hne, h.ge, h.bel.trans ⟨hk.os, hk.tape, hk.output, hk.size, fun k hlt => hk.block k (Nat.lt_of_lt_of_le hlt h.bel.size) (by omega)⟩, h.sf.kept hk hb⟩
theorem may_smallU {r : Rq} (h : mayR r = true) : r.n ≤ 1000 ∧ r.m ≤ 1000 := by
  have h' := h
  unfold mayR findB bringB at h'
  simp only [Bool.and_eq_true] at h'
  obtain ⟨_, f, b⟩ := h'
  constructor
  · split at f
    · have := (mayP_iff f).2.1; omega
    · simp only [decide_eq_true_eq] at f; omega
  · split at b
    · simp only [Bool.and_eq_true] at b
      have := (mayP_iff (mayV_P b.1)).2.1; omega
    · simp only [Bool.and_eq_true, decide_eq_true_eq] at b; omega
set_option maxRecDepth 100000 in
set_option maxHeartbeats 4000000 in
theorem DoA_t (x : Spv) (now : Int) (r : Rv) (w : World) (hx : SpW w x) (hs : Small x.sp) (hr : RvW w r) (hu : UT w) :
    Calls Tryz.prog 20 #[.agg (sv x).toArray, .int .i64 now, .agg (rv r).toArray] w fun e w' => ∃ (x' : Spv) (R : List Rpv) (q : Option Addr) (c : Nat), e = .returned (.tuple #[.agg (sv x').toArray, .slice q R.length c]) ∧ x'.sp = (doP x.sp now r.r).1 ∧ R.map (·.r) = (doP x.sp now r.r).2 ∧ SF w.heap.size w' x' ∧ w'.ownsRow w.heap.size 26 5 (.slice q R.length c) R.length (R.flatMap pv) ∧ (∀ y ∈ R, FT w' w.heap.size y.p y.c y.r.t) ∧ (r.r.kd = 2 → ∀ y ∈ R, AP y x') ∧ Below w.heap.size w w' := by
  obtain ⟨V, hV⟩ : ∃ V, ((w.alloc (.cells (sv x).toArray 29)).alloc (.cells (rv r).toArray 51)).alloc (.cells #[.int .i64 0, .slice none 0 0, .slice none 0 0, .int .i64 0, .int .i64 0, .int .i64 0, .int .i64 0, .int .i64 0, .slice none 0 0, .bool false, .int .i64 0, .int .i64 0, .int .i64 0, .slice none 0 0, .bool false, .int .i64 0, .int .i64 0, .int .i64 0, .slice none 0 0, .bool false, .int .i64 0, .int .i64 0, .int .i64 0, .slice none 0 0, .bool false] 29) = V := ⟨_, rfl⟩
  have B0 := Lib.hid (show Below w.heap.size w V from by rw [← hV]; exact (((Below.refl _ _).alloc (Nat.le_refl _) _).alloc (by simp) _).alloc (by simp; omega) _)
  have BS := Lib.hid (show Blk V w.heap.size 29 (sv x) from by rw [← hV]; exact ((Blk.new w 29 (sv x)).alloc _).alloc _)
  have BR := Lib.hid (show Blk V (w.heap.size + 1) 51 (rv r) from by rw [← hV]; exact (Blk.new2 w _ 51 (rv r)).alloc _)
  have BZ := Lib.hid (show Blk V (w.heap.size + 2) 29 [.int .i64 0, .slice none 0 0, .slice none 0 0, .int .i64 0, .int .i64 0, .int .i64 0, .int .i64 0, .int .i64 0, .slice none 0 0, .bool false, .int .i64 0, .int .i64 0, .int .i64 0, .slice none 0 0, .bool false, .int .i64 0, .int .i64 0, .int .i64 0, .slice none 0 0, .bool false, .int .i64 0, .int .i64 0, .int .i64 0, .slice none 0 0, .bool false] from by rw [← hV]; exact new3 w _ _ _ _)
  have CL_ := Lib.hid (clone_t x V (hx.below B0.out) hs)
  have FX := Lib.hid (sv_size x hx.l4)
  have FR := Lib.hid (rv_size r)
  have HX := Lib.hid hx; have HS := Lib.hid hs; have HR := Lib.hid hr; have HU := Lib.hid hu
  have HVS := Lib.hid (show w.heap.size + 2 < V.heap.size from BZ.out.lt)
  clear hx hs hr hu
  go_enter Tryz.func20, Tryz.ntmps20
  go_upto_region 1 with (fail)
  clear hV
  go_wp2_with ((with_reducible refine load_blk 29 (.tmp 3) w.heap.size 29 (sv x) _ rfl rfl ?_ Tryz.underlying29 ?_ ?_ ?_ ?_); exact BS.out; exact rfl; exact FX.out; exact rfl)
  refine CL_.out.mono ?_
  rintro e w1 ⟨x1, rfl, hsp, f1, b1⟩
  have HSP := Lib.hid hsp
  have BS1 := Lib.hid (BS.out.below b1 BS.out.lt); have BR1 := Lib.hid (BR.out.below b1 BR.out.lt); have BZ1 := Lib.hid (BZ.out.below b1 BZ.out.lt)
  have B1 := Lib.hid (B0.out.trans (b1.mono B0.out.size))
  have HW1 := Lib.hid (show w.heap.size + 2 < w1.heap.size from BZ1.out.lt)
  have FX1 := Lib.hid (sv_size x1 f1.l4); have F1 := Lib.hid (sv_one x1); have SL := Lib.hid (sv_len x1 f1.l4)
  have SF1 := Lib.hid (f1.low B0.out.size)
  have A0 := Lib.hid (Blk.new w1 29 [.int .i64 0, .slice none 0 0, .slice none 0 0, .int .i64 0, .int .i64 0, .int .i64 0, .int .i64 0, .int .i64 0, .slice none 0 0, .bool false, .int .i64 0, .int .i64 0, .int .i64 0, .slice none 0 0, .bool false, .int .i64 0, .int .i64 0, .int .i64 0, .slice none 0 0, .bool false, .int .i64 0, .int .i64 0, .int .i64 0, .slice none 0 0, .bool false])
  have A1 := Lib.hid (A0.out.setRow (sv x1))
  have W1 := Lib.hid (below_setRow ((Below.refl w1.heap.size w1).alloc (Nat.le_refl _) (.cells #[.int .i64 0, .slice none 0 0, .slice none 0 0, .int .i64 0, .int .i64 0, .int .i64 0, .int .i64 0, .int .i64 0, .slice none 0 0, .bool false, .int .i64 0, .int .i64 0, .int .i64 0, .slice none 0 0, .bool false, .int .i64 0, .int .i64 0, .int .i64 0, .slice none 0 0, .bool false, .int .i64 0, .int .i64 0, .int .i64 0, .slice none 0 0, .bool false] 29)) (Nat.le_refl _) (sv x1).toArray)
  clear hsp f1 b1 CL_ BS BR BZ B0
  go_upto_region 2 with ((with_reducible refine at_op (.store 29 (.tmp 8) (.tmp 12)) rfl ?_); go_must (refine store_blk 29 (.tmp 8) (.tmp 12) w1.heap.size 29 _ (sv x1) rfl rfl A0.out SL.out.symm FX1.out F1.out rfl rfl ?_))
  obtain ⟨V2, hV2⟩ : ∃ V, (w1.alloc (.cells #[.int .i64 0, .slice none 0 0, .slice none 0 0, .int .i64 0, .int .i64 0, .int .i64 0, .int .i64 0, .int .i64 0, .slice none 0 0, .bool false, .int .i64 0, .int .i64 0, .int .i64 0, .slice none 0 0, .bool false, .int .i64 0, .int .i64 0, .int .i64 0, .slice none 0 0, .bool false, .int .i64 0, .int .i64 0, .int .i64 0, .slice none 0 0, .bool false] 29)).setRow w1.heap.size (sv x1).toArray = V := ⟨_, rfl⟩
  rw [hV2] at A1 W1 ⊢
  have M2 := Lib.hid (show SM w V2 w1.heap.size x1 from ⟨A1.out, B1.out.size, B1.out.trans (W1.out.mono B1.out.size), SF1.out.below W1.out⟩)
  have BS2 := Lib.hid (BS1.out.below W1.out BS1.out.lt); have BR2 := Lib.hid (BR1.out.below W1.out BR1.out.lt); have BZ2 := Lib.hid (BZ1.out.below W1.out BZ1.out.lt)
  obtain ⟨gg, hgg⟩ : ∃ g, w1.heap.size = g := ⟨_, rfl⟩
  have HGG := Lib.hid (show w.heap.size + 2 < gg from by have := HW1.out; omega)
  rw [hgg] at M2 ⊢
  clear hV2 hgg A0 A1 W1 SF1 BS1 BR1 BZ1 B1 FX1 F1 SL HW1
  have MY := Lib.hid (SpMay_t x V2 (HX.out.below M2.out.bel))
  cases hb1 : spMay x.sp with
  | false =>
    rw [hb1] at MY
    go_wp2_with ((with_reducible refine load_blk 29 (.tmp 3) w.heap.size 29 (sv x) _ rfl rfl ?_ Tryz.underlying29 ?_ ?_ ?_ ?_); exact BS2.out; exact rfl; exact FX.out; exact rfl)
    refine MY.out.mono ?_
    rintro e w2 ⟨rfl, b2⟩
    have M3 := Lib.hid (M2.out.below b2)
    have BZ3 := Lib.hid (BZ2.out.below b2 BZ2.out.lt)
    clear b2 MY M2 BS2 BR2 BZ2
    have FXU := Lib.hid (sv_size x1 M3.out.sf.l4)
    have FOU := Lib.hid (sv_one x1)
    have SLU := Lib.hid (sv_len x1 M3.out.sf.l4)
    have RZ := Lib.hid (BZ3.out.setRow (sv x1))
    have BXU := Lib.hid M3.out.box
    have KU : Kept (fun b => b = w.heap.size + 2) w2 ((w2).setRow (w.heap.size + 2) (sv x1).toArray) := (Kept.refl (fun b => b = w.heap.size + 2) w2).setRowK (.inl rfl) _
    have SFU := Lib.hid (M3.out.sf.kept KU BZ3.out)
    have BFU := Lib.hid (below_setRow (g := w.heap.size + 2) M3.out.bel (by omega) (sv x1).toArray)
    have HQ := Lib.hid (do_no (s := x.sp) (now := now) (r := r.r) (by unfold okDo; rw [hb1]; rfl))
    go_wp2_with (first
      | ((with_reducible refine load_blk 29 (.tmp 8) gg 29 (sv x1) _ rfl rfl ?_ Tryz.underlying29 ?_ ?_ ?_ ?_); exact BXU.out; exact rfl; exact FXU.out; exact rfl)
      | ((with_reducible refine at_op (.store 29 (.tmp 6) (.tmp 31)) rfl ?_); go_must (refine store_blk 29 (.tmp 6) (.tmp 31) (w.heap.size + 2) 29 _ (sv x1) rfl rfl BZ3.out SLU.out.symm FXU.out FOU.out rfl rfl ?_)))
    exact ret_blkS (p := 6) (u := 7) (ty := 29) rfl rfl (w.heap.size + 2) 29 _ _ rfl RZ.out Tryz.underlying29 rfl FXU.out _ rfl ⟨x1, [], none, 0, rfl, (by rw [HQ.out]; exact HSP.out), (by rw [HQ.out]; rfl), SFU.out, World.ownsRow_nil _ _ _ _, (fun y hy => by simp at hy), (fun _ y hy => by simp at hy), BFU.out⟩
  | true =>
    rw [hb1] at MY
    have HSM := Lib.hid (spMay_h hb1)
    go_wp2_with ((with_reducible refine load_blk 29 (.tmp 3) w.heap.size 29 (sv x) _ rfl rfl ?_ Tryz.underlying29 ?_ ?_ ?_ ?_); exact BS2.out; exact rfl; exact FX.out; exact rfl)
    refine MY.out.mono ?_
    rintro e w2 ⟨rfl, b2⟩
    have M3 := Lib.hid (M2.out.below b2)
    have BS3 := Lib.hid (BS2.out.below b2 BS2.out.lt); have BR3 := Lib.hid (BR2.out.below b2 BR2.out.lt); have BZ3 := Lib.hid (BZ2.out.below b2 BZ2.out.lt)
    have OM := Lib.hid (May_r r w2 (HU.out.below M3.out.bel) (HR.out.below M3.out.bel))
    clear b2 MY M2 BS2 BR2 BZ2
    cases hb2 : mayR r.r with
    | false =>
      rw [hb2] at OM
      go_wp2_with ((with_reducible refine load_blk_gdO 17 51 (.tmp 5) (w.heap.size + 1) 51 (rv r) _ ?_ ?_ rfl ?_ Tryz.underlying51 ?_ ?_ ?_ ?_); exact rfl; kernel_rfl; exact BR3.out; exact rfl; exact FR.out; exact rfl)
      refine OM.out.mono ?_
      rintro e w3 ⟨rfl, b3⟩
      have M4 := Lib.hid (M3.out.below b3)
      have BZ4 := Lib.hid (BZ3.out.below b3 BZ3.out.lt)
      clear b3 OM M3 BS3 BR3 BZ3
      have FXU := Lib.hid (sv_size x1 M4.out.sf.l4)
      have FOU := Lib.hid (sv_one x1)
      have SLU := Lib.hid (sv_len x1 M4.out.sf.l4)
      have RZ := Lib.hid (BZ4.out.setRow (sv x1))
      have BXU := Lib.hid M4.out.box
      have KU : Kept (fun b => b = w.heap.size + 2) w3 ((w3).setRow (w.heap.size + 2) (sv x1).toArray) := (Kept.refl (fun b => b = w.heap.size + 2) w3).setRowK (.inl rfl) _
      have SFU := Lib.hid (M4.out.sf.kept KU BZ4.out)
      have BFU := Lib.hid (below_setRow (g := w.heap.size + 2) M4.out.bel (by omega) (sv x1).toArray)
      have HQ := Lib.hid (do_no (s := x.sp) (now := now) (r := r.r) (by unfold okDo; rw [hb1, hb2]; rfl))
      go_wp2_with (first
        | ((with_reducible refine load_blk 29 (.tmp 8) gg 29 (sv x1) _ rfl rfl ?_ Tryz.underlying29 ?_ ?_ ?_ ?_); exact BXU.out; exact rfl; exact FXU.out; exact rfl)
        | ((with_reducible refine at_op (.store 29 (.tmp 6) (.tmp 31)) rfl ?_); go_must (refine store_blk 29 (.tmp 6) (.tmp 31) (w.heap.size + 2) 29 _ (sv x1) rfl rfl BZ4.out SLU.out.symm FXU.out FOU.out rfl rfl ?_)))
      exact ret_blkS (p := 6) (u := 7) (ty := 29) rfl rfl (w.heap.size + 2) 29 _ _ rfl RZ.out Tryz.underlying29 rfl FXU.out _ rfl ⟨x1, [], none, 0, rfl, (by rw [HQ.out]; exact HSP.out), (by rw [HQ.out]; rfl), SFU.out, World.ownsRow_nil _ _ _ _, (fun y hy => by simp at hy), (fun _ y hy => by simp at hy), BFU.out⟩
    | true =>
      rw [hb2] at OM
      have HMR := Lib.hid (mayR_h hb2); have HN := Lib.hid (may_smallU hb2).1; have HM := Lib.hid (may_smallU hb2).2
      go_wp2_with ((with_reducible refine load_blk_gdO 17 51 (.tmp 5) (w.heap.size + 1) 51 (rv r) _ ?_ ?_ rfl ?_ Tryz.underlying51 ?_ ?_ ?_ ?_); exact rfl; kernel_rfl; exact BR3.out; exact rfl; exact FR.out; exact rfl)
      refine OM.out.mono ?_
      rintro e w3 ⟨rfl, b3⟩
      have M4 := Lib.hid (M3.out.below b3)
      have BR4 := Lib.hid (BR3.out.below b3 BR3.out.lt); have BZ4 := Lib.hid (BZ3.out.below b3 BZ3.out.lt)
      have c0 : w3.cell? ⟨w.heap.size, 0, none⟩ = some (.int .i64 x.now) := (sv_cells (BS3.out.below b3 BS3.out.lt)).1
      clear b3 OM M3 BS3 BR3 BZ3
      by_cases h1 : now < x.now
      · have e1 : decide (now < x.now) = true := decide_eq_true h1
        have FXU := Lib.hid (sv_size x1 M4.out.sf.l4)
        have FOU := Lib.hid (sv_one x1)
        have SLU := Lib.hid (sv_len x1 M4.out.sf.l4)
        have RZ := Lib.hid (BZ4.out.setRow (sv x1))
        have BXU := Lib.hid M4.out.box
        have KU : Kept (fun b => b = w.heap.size + 2) w3 ((w3).setRow (w.heap.size + 2) (sv x1).toArray) := (Kept.refl (fun b => b = w.heap.size + 2) w3).setRowK (.inl rfl) _
        have SFU := Lib.hid (M4.out.sf.kept KU BZ4.out)
        have BFU := Lib.hid (below_setRow (g := w.heap.size + 2) M4.out.bel (by omega) (sv x1).toArray)
        have HQ := Lib.hid (do_no (s := x.sp) (now := now) (r := r.r) (by unfold okDo; rw [hb1, hb2, show decide (x.sp.now ≤ now) = false from decide_eq_false (by show ¬ x.now ≤ now; omega)]; rfl))
        go_wp2_with (first
          | ((with_reducible refine load_blk 29 (.tmp 8) gg 29 (sv x1) _ rfl rfl ?_ Tryz.underlying29 ?_ ?_ ?_ ?_); exact BXU.out; exact rfl; exact FXU.out; exact rfl)
          | ((with_reducible refine at_op (.store 29 (.tmp 6) (.tmp 31)) rfl ?_); go_must (refine store_blk 29 (.tmp 6) (.tmp 31) (w.heap.size + 2) 29 _ (sv x1) rfl rfl BZ4.out SLU.out.symm FXU.out FOU.out rfl rfl ?_)))
        exact ret_blkS (p := 6) (u := 7) (ty := 29) rfl rfl (w.heap.size + 2) 29 _ _ rfl RZ.out Tryz.underlying29 rfl FXU.out _ rfl ⟨x1, [], none, 0, rfl, (by rw [HQ.out]; exact HSP.out), (by rw [HQ.out]; rfl), SFU.out, World.ownsRow_nil _ _ _ _, (fun y hy => by simp at hy), (fun _ y hy => by simp at hy), BFU.out⟩
      · have e1 : decide (now < x.now) = false := decide_eq_false h1
        by_cases h2 : 1099511627776 < now
        · have e2 : decide (1099511627776 < now) = true := decide_eq_true h2
          have FXU := Lib.hid (sv_size x1 M4.out.sf.l4)
          have FOU := Lib.hid (sv_one x1)
          have SLU := Lib.hid (sv_len x1 M4.out.sf.l4)
          have RZ := Lib.hid (BZ4.out.setRow (sv x1))
          have BXU := Lib.hid M4.out.box
          have KU : Kept (fun b => b = w.heap.size + 2) w3 ((w3).setRow (w.heap.size + 2) (sv x1).toArray) := (Kept.refl (fun b => b = w.heap.size + 2) w3).setRowK (.inl rfl) _
          have SFU := Lib.hid (M4.out.sf.kept KU BZ4.out)
          have BFU := Lib.hid (below_setRow (g := w.heap.size + 2) M4.out.bel (by omega) (sv x1).toArray)
          have HQ := Lib.hid (do_no (s := x.sp) (now := now) (r := r.r) (by unfold okDo; rw [hb1, hb2, show decide (now ≤ 1099511627776) = false from decide_eq_false (by omega), Bool.and_false]; rfl))
          go_wp2_with (first
            | ((with_reducible refine load_blk 29 (.tmp 8) gg 29 (sv x1) _ rfl rfl ?_ Tryz.underlying29 ?_ ?_ ?_ ?_); exact BXU.out; exact rfl; exact FXU.out; exact rfl)
            | ((with_reducible refine at_op (.store 29 (.tmp 6) (.tmp 31)) rfl ?_); go_must (refine store_blk 29 (.tmp 6) (.tmp 31) (w.heap.size + 2) 29 _ (sv x1) rfl rfl BZ4.out SLU.out.symm FXU.out FOU.out rfl rfl ?_)))
          exact ret_blkS (p := 6) (u := 7) (ty := 29) rfl rfl (w.heap.size + 2) 29 _ _ rfl RZ.out Tryz.underlying29 rfl FXU.out _ rfl ⟨x1, [], none, 0, rfl, (by rw [HQ.out]; exact HSP.out), (by rw [HQ.out]; rfl), SFU.out, World.ownsRow_nil _ _ _ _, (fun y hy => by simp at hy), (fun _ y hy => by simp at hy), BFU.out⟩
        · have e2 : decide (1099511627776 < now) = false := decide_eq_false h2
          have hOK : okDo x.sp now r.r = true := by
            unfold okDo
            rw [hb1, hb2, decide_eq_true (show x.sp.now ≤ now from by show x.now ≤ now; omega), decide_eq_true (show now ≤ 1099511627776 from by omega)]
            rfl
          have hl : x1.its.length ≤ 1000 := by
            have h : x1.sp.its.length = x.sp.its.length := congrArg (fun s : Sp => s.its.length) HSP.out
            have h3 := HS.out.n
            rw [show x1.its.length = x1.sp.its.length from (List.length_map _).symm, h]
            exact h3
          have GO := Lib.hid (goOn_t w gg x1 now w3 M4.out hl)
          have HN0 := Lib.hid (show 0 ≤ now ∧ now ≤ 1099511627776 from ⟨by have h3 := HSM.out.1; have h4 : x.sp.now = x.now := rfl; omega, by omega⟩)
          obtain ⟨c, hcc, h4⟩ : ∃ c : Nat, r.r.cl = (c : Int) ∧ c < 4 := ⟨r.r.cl.toNat, by have := HMR.out.cl0; omega, by have := HMR.out.cl0; have := HMR.out.cl4; omega⟩
          go_upto_region 4 with (fail)
          go_wp2_with fail
          refine GO.out.mono ?_
          rintro e w4 ⟨rfl, x2, m5, v5, s5⟩
          have M5 := Lib.hid m5
          have S5 := Lib.hid (show x2.sp = goOnP x.sp now from by rw [s5, HSP.out])
          have BR5 := Lib.hid (v5.blk M4.out BR4.out (by decide) (by decide) (by have := HGG.out; omega))
          have BZ5 := Lib.hid (v5.blk M4.out BZ4.out (by decide) (by decide) (by have := HGG.out; omega))
          obtain ⟨z, hz⟩ : ∃ z, x2.last[c]? = some z := ⟨_, List.getElem?_eq_getElem (by have := m5.sf.l4; omega)⟩
          have BB := Lib.hid (show Blk w4 gg 29 (svL x2 c ++ (pv z ++ svR x2 c)) from by rw [← sv_at x2 c z hz]; exact m5.box)
          have LL := Lib.hid (svL_len x2 c (by have := m5.sf.l4; omega))
          have lz := lastOf_at hz
          rw [← hcc, S5.out] at lz
          have hD : doP x.sp now r.r = if r.r.sq < z.r.sq then (x2.sp, [tellP (qp r.r) 7]) else if r.r.sq = z.r.sq then (x2.sp, [z.r]) else answP x2.sp (qp r.r) := by
            unfold doP
            rw [if_neg (by rw [hOK]; decide)]
            dsimp only
            rw [lz, ← S5.out]
          have HD := Lib.hid hD
          have HSZ := Lib.hid (small_goOn HS.out now)
          have FZ := Lib.hid (m5.sf.la z (List.mem_of_getElem? hz))
          have FS := Lib.hid (pv_size z); have FA := Lib.hid (pv_oneA z)
          have HZL := Lib.hid (show z.r.t.length ≤ 1000 from by have h := HSZ.out.la z.r; rw [← S5.out] at h; exact h (List.mem_map_of_mem (List.mem_of_getElem? hz)))
          have d0 := (rv_cells BR5.out).1
          rw [hcc] at d0
          have k4 : (c : Int) < 4 := by omega
          have A0 := Lib.hid (Blk.new w4 26 [.int .i64 0, .int .i64 0, .int .i64 0, .slice none 0 0, .bool false])
          have A1 := Lib.hid (A0.out.setRow (pv z))
          have W4 := Lib.hid (below_setRow ((Below.refl w4.heap.size w4).alloc (Nat.le_refl _) (.cells #[.int .i64 0, .int .i64 0, .int .i64 0, .slice none 0 0, .bool false] 26)) (Nat.le_refl _) (pv z).toArray)
          have HG4 := Lib.hid (show gg < w4.heap.size from m5.box.lt)
          clear m5 v5 s5 hz lz hD GO M4 BR4 BZ4 hl c0
          go_upto_region 6 with (first
            | ((with_reducible refine at_op (.load 26 (.tmp 37)) rfl ?_); go_must (refine load_part 26 (.tmp 37) gg (5 + c * 5) 29 (svL x2 c) (pv z) (svR x2 c) _ rfl rfl BB.out LL.out.symm Tryz.underlying26 rfl FS.out rfl ?_))
            | ((with_reducible refine store_blk 26 (.tmp 9) (.tmp 38) w4.heap.size 26 [.int .i64 0, .int .i64 0, .int .i64 0, .slice none 0 0, .bool false] (pv z) rfl rfl ?_ ?_ ?_ ?_ ?_ ?_ ?_); exact A0.out; exact rfl; exact FS.out; exact FA.out; exact rfl; exact rfl))
          obtain ⟨V6, hV6⟩ : ∃ V, (w4.alloc (.cells #[.int .i64 0, .int .i64 0, .int .i64 0, .slice none 0 0, .bool false] 26)).setRow w4.heap.size (pv z).toArray = V := ⟨_, rfl⟩
          rw [hV6] at A1 W4 ⊢
          have M6 := Lib.hid (M5.out.below W4.out)
          have BR6 := Lib.hid (BR5.out.below W4.out BR5.out.lt); have BZ6 := Lib.hid (BZ5.out.below W4.out BZ5.out.lt)
          have FZ6 := Lib.hid (FZ.out.below W4.out)
          have d1 := (rv_cells BR6.out).2.1
          have d9 := (pv_cells A1.out).2.1
          clear hV6 A0 W4 M5 BR5 BZ5 FZ BB LL d0
          by_cases q1 : r.r.sq < z.r.sq
          · have eq1 : decide (r.r.sq < z.r.sq) = true := decide_eq_true q1
            have HQ := Lib.hid (HD.out.trans (if_pos q1))
            go_upto_region 7 with (fail)
            obtain ⟨U, hU⟩ : ∃ U, V6.drew = U := ⟨_, rfl⟩
            have BU := Lib.hid (show Below V6.heap.size V6 U from by rw [← hU]; exact (Below.refl _ _).drew)
            have M7 := Lib.hid (M6.out.below BU.out)
            have BZ7 := Lib.hid (BZ6.out.below BU.out BZ6.out.lt)
            have G7 : Blk U gg 29 (sv x2) ∧ Blk U (w.heap.size + 1) 51 (rv r) := ⟨M7.out.box, BR6.out.below BU.out BR6.out.lt⟩
            have FX2' := Lib.hid (sv_size x2 M6.out.sf.l4)
            have TT_ := Lib.hid (tell_t r 7 U)
            obtain ⟨y7, hy7⟩ : ∃ y : Rpv, ⟨tellP (qp r.r) 7, none, 0⟩ = y := ⟨_, rfl⟩
            rw [hy7] at TT_
            have HYR := Lib.hid (show y7.r = tellP (qp r.r) 7 from by rw [← hy7])
            have HAP := Lib.hid (show AP y7 x2 from by rw [← hy7]; exact fun _ _ _ e => absurd e (ob_none _))
            refine wp_region_held (S := fun Y => Blk Y gg 29 (sv x2) ∧ Blk Y (w.heap.size + 1) 51 (rv r)) (by kernel_rfl) ?_
            change wpAnyH _ _ _ _ _ _ _ _ V6.drew
            rw [hU]
            clear hU
            refine wpAnyH_take (i := 0) (v := .agg (sv x2).toArray) rfl (by kernel_rfl) (by kernel_rfl) (by kernel_rfl) (fun _ _ _ h => h) (yieldsIf_load_mid (by kernel_rfl) 29 (.tmp 8) rfl gg 0 (by go_simp) (sv x2) _ (fun _ h => rows_of_blk h.1) Tryz.underlying29 rfl (FX2'.out)) G7 ?_
            refine wpAnyH_take (i := 1) (v := .agg (rv r).toArray) rfl (by kernel_rfl) (by kernel_rfl) (by kernel_rfl) (fun _ _ _ h => h) (yieldsIf_load_mid (by kernel_rfl) 51 (.tmp 5) rfl (w.heap.size + 1) 0 (by go_simp) (rv r) _ (fun _ h => rows_of_blk h.2) Tryz.underlying51 rfl (FR.out)) G7 ?_
            refine wpAnyH_ready (rs := [2]) (by kernel_rfl) (by simp) ?_
            refine AllReadyH.cons rfl (fun K hK => ?_) AllReadyH.nil
            go_simp
            refine TT_.out.mono ?_
            rintro e w8 ⟨rfl, b8⟩
            have M8 := Lib.hid (M7.out.below b8)
            have BZ8 := Lib.hid (BZ7.out.below b8 BZ7.out.lt)
            have FY8 := Lib.hid (show FT w8 w.heap.size y7.p y7.c y7.r.t from by rw [← hy7]; exact FT.nil _ _)
            have G8 : Blk w8 gg 29 (sv x2) ∧ Blk w8 (w.heap.size + 1) 51 (rv r) := ⟨M8.out.box, G7.2.below b8 G7.2.lt⟩
            refine hK.out _ _ G8 (fun _ => ?_)
            clear hK K b8 G7 M7 BZ7 BU TT_ hy7
            have FX2 := Lib.hid (sv_size x2 M6.out.sf.l4); have FO2 := Lib.hid (sv_one x2); have SL2 := Lib.hid (sv_len x2 M6.out.sf.l4)
            refine wpAnyH_ready (rs := [3, 4]) (by kernel_rfl) (by simp) ?_
            refine AllReadyH.cons rfl (fun K hK => ?_) (AllReadyH.cons rfl (fun K hK => ?_) AllReadyH.nil)
            · skip
              have BA := Lib.hid ((Below.refl w8.heap.size w8).alloc (Nat.le_refl _) (.cells (pv y7).toArray 26))
              have M9 := Lib.hid (M8.out.below BA.out)
              have Z9 := Lib.hid (BZ8.out.below BA.out BZ8.out.lt)
              have OW9 := Lib.hid (own_lit1 w8 y7)
              have F9 := Lib.hid (FY8.out.below BA.out)
              have G9 := And.intro M9.out.box (G8.2.alloc (.cells (pv y7).toArray 26))
              refine wp_build1 54 26 (.tmp 46) rfl (pv y7) rfl (build_pv y7 _) ?_
              refine hK.out _ _ G9 (fun _ => ?_)
              clear hK K
              refine wpAnyH_ready (rs := [4]) (by kernel_rfl) (by simp) ?_
              refine AllReadyH.cons rfl (fun K hK => ?_) AllReadyH.nil
              rw [if_pos (by kernel_rfl)]
              refine wstore_part 29 (.tmp 6) (.tmp 44) (w.heap.size + 2) 0 29 [] [.int .i64 0, .slice none 0 0, .slice none 0 0, .int .i64 0, .int .i64 0, .int .i64 0, .int .i64 0, .int .i64 0, .slice none 0 0, .bool false, .int .i64 0, .int .i64 0, .int .i64 0, .slice none 0 0, .bool false, .int .i64 0, .int .i64 0, .int .i64 0, .slice none 0 0, .bool false, .int .i64 0, .int .i64 0, .int .i64 0, .slice none 0 0, .bool false] [] (sv x2) rfl (by rw [List.nil_append, List.append_nil]; exact Z9.out) rfl SL2.out.symm FX2.out FO2.out rfl rfl ?_
              intro wz a1 a2 a3
              have RZ := Lib.hid (show Blk wz (w.heap.size + 2) 29 (sv x2) by have := a1.out; rwa [List.nil_append, List.append_nil] at this)
              have KZ := a2.out.keptOne rfl
              have M10 := Lib.hid (M9.out.farS Z9.out (by have := HGG.out; omega) (by omega) KZ)
              have OW10 := Lib.hid (own_kept OW9.out KZ (fun k hk e => own_apart OW9.out Z9.out (by decide) (by rw [hk, e])))
              have F10 := Lib.hid (show FT wz w.heap.size (y7).p (y7).c (y7).r.t from own_kept F9.out KZ (fun k hk e => own_apart F9.out Z9.out (by decide) (by rw [hk, e])))
              have G10 := And.intro M10.out.box (G9.2.kept KZ (by omega))
              have HB8 := Lib.hid (show w.heap.size ≤ w8.heap.size from M8.out.bel.size)
              refine hK.out _ _ G10 (fun _ => ?_)
              clear hK K a1 a2 a3
              refine wpAnyH_take (i := 5) (v := ?_) rfl (by kernel_rfl) (by kernel_rfl) (by kernel_rfl) (fun _ _ _ h => h) (Or.inl ⟨by kernel_rfl, ?_⟩) G10 ?_
              rotate_left 1
              · (intro w hS; clear hS; go_simp; try (with_reducible rfl))
              refine wpAnyH_done (by kernel_rfl) ?_ _
              go_simp
              go_wp2_with fail
              exact ret_blkS (p := 6) (u := 7) (ty := 29) rfl rfl (w.heap.size + 2) 29 _ _ rfl RZ.out Tryz.underlying29 rfl FX2.out _ rfl ⟨x2, [y7], some ⟨w8.heap.size, 0, none⟩, 1, rfl, (by rw [HQ.out]), (by rw [HQ.out]; exact congrArg (fun z => [z]) HYR.out), M10.out.sf, own_base OW10.out (fun k hk => Nat.le_trans HB8.out (OW10.out.lt k hk).1), (fun y hy => by rw [List.mem_singleton.1 hy]; exact F10.out), (fun _ y hy => by rw [List.mem_singleton.1 hy]; exact HAP.out), M10.out.bel⟩
            · skip
              refine wstore_part 29 (.tmp 6) (.tmp 44) (w.heap.size + 2) 0 29 [] [.int .i64 0, .slice none 0 0, .slice none 0 0, .int .i64 0, .int .i64 0, .int .i64 0, .int .i64 0, .int .i64 0, .slice none 0 0, .bool false, .int .i64 0, .int .i64 0, .int .i64 0, .slice none 0 0, .bool false, .int .i64 0, .int .i64 0, .int .i64 0, .slice none 0 0, .bool false, .int .i64 0, .int .i64 0, .int .i64 0, .slice none 0 0, .bool false] [] (sv x2) rfl (by rw [List.nil_append, List.append_nil]; exact BZ8.out) rfl SL2.out.symm FX2.out FO2.out rfl rfl ?_
              intro wz a1 a2 a3
              have RZ0 := Lib.hid (show Blk wz (w.heap.size + 2) 29 (sv x2) by have := a1.out; rwa [List.nil_append, List.append_nil] at this)
              have KZ := a2.out.keptOne rfl
              have M9 := Lib.hid (M8.out.farS BZ8.out (by have := HGG.out; omega) (by omega) KZ)
              have F9 := Lib.hid (show FT wz w.heap.size (y7).p (y7).c (y7).r.t from own_kept FY8.out KZ (fun k hk e => own_apart FY8.out BZ8.out (by decide) (by rw [hk, e])))
              have G9 := And.intro M9.out.box (G8.2.kept KZ (by omega))
              refine hK.out _ _ G9 (fun _ => ?_)
              clear hK K a1 a2 a3
              have BA := Lib.hid ((Below.refl wz.heap.size wz).alloc (Nat.le_refl _) (.cells (pv y7).toArray 26))
              have M10 := Lib.hid (M9.out.below BA.out)
              have RZ := Lib.hid (RZ0.out.below BA.out RZ0.out.lt)
              have OW10 := Lib.hid (own_lit1 wz y7)
              have F10 := Lib.hid (F9.out.below BA.out)
              have G10 := And.intro M10.out.box (G9.2.alloc (.cells (pv y7).toArray 26))
              have HB8 := Lib.hid (show w.heap.size ≤ wz.heap.size from M9.out.bel.size)
              refine wpAnyH_ready (rs := [3]) (by kernel_rfl) (by simp) ?_
              refine AllReadyH.cons rfl (fun K hK => ?_) AllReadyH.nil
              rw [if_pos (by kernel_rfl)]
              refine wp_build1 54 26 (.tmp 46) rfl (pv y7) rfl (build_pv y7 _) ?_
              refine hK.out _ _ G10 (fun _ => ?_)
              clear hK K
              refine wpAnyH_take (i := 5) (v := ?_) rfl (by kernel_rfl) (by kernel_rfl) (by kernel_rfl) (fun _ _ _ h => h) (Or.inl ⟨by kernel_rfl, ?_⟩) G10 ?_
              rotate_left 1
              · (intro w hS; clear hS; go_simp; try (with_reducible rfl))
              refine wpAnyH_done (by kernel_rfl) ?_ _
              go_simp
              go_wp2_with fail
              exact ret_blkS (p := 6) (u := 7) (ty := 29) rfl rfl (w.heap.size + 2) 29 _ _ rfl RZ.out Tryz.underlying29 rfl FX2.out _ rfl ⟨x2, [y7], some ⟨wz.heap.size, 0, none⟩, 1, rfl, (by rw [HQ.out]), (by rw [HQ.out]; exact congrArg (fun z => [z]) HYR.out), M10.out.sf, own_base OW10.out (fun k hk => Nat.le_trans HB8.out (OW10.out.lt k hk).1), (fun y hy => by rw [List.mem_singleton.1 hy]; exact F10.out), (fun _ y hy => by rw [List.mem_singleton.1 hy]; exact HAP.out), M10.out.bel⟩
          · have eq1 : decide (r.r.sq < z.r.sq) = false := decide_eq_false q1
            by_cases q2 : r.r.sq = z.r.sq
            · have eq2 : (r.r.sq == z.r.sq) = true := by rw [q2]; exact beq_self_eq_true _
              have HQ := Lib.hid (HD.out.trans ((if_neg q1).trans (if_pos q2)))
              go_upto_region 9 with (fail)
              obtain ⟨U, hU⟩ : ∃ U, V6.drew = U := ⟨_, rfl⟩
              have BU := Lib.hid (show Below V6.heap.size V6 U from by rw [← hU]; exact (Below.refl _ _).drew)
              have M7 := Lib.hid (M6.out.below BU.out)
              have BZ7 := Lib.hid (BZ6.out.below BU.out BZ6.out.lt)
              have G7 : Blk U gg 29 (sv x2) ∧ Blk U w4.heap.size 26 (pv z) := ⟨M7.out.box, A1.out.below BU.out A1.out.lt⟩
              have FX2' := Lib.hid (sv_size x2 M6.out.sf.l4)
              have CR := Lib.hid (cloneReply_t z U ((FZ6.out.below BU.out).tr (by have := HZL.out; omega)) (by have := HZL.out; omega))
              refine wp_region_held (S := fun Y => Blk Y gg 29 (sv x2) ∧ Blk Y w4.heap.size 26 (pv z)) (by kernel_rfl) ?_
              change wpAnyH _ _ _ _ _ _ _ _ V6.drew
              rw [hU]
              clear hU
              refine wpAnyH_take (i := 0) (v := .agg (sv x2).toArray) rfl (by kernel_rfl) (by kernel_rfl) (by kernel_rfl) (fun _ _ _ h => h) (yieldsIf_load_mid (by kernel_rfl) 29 (.tmp 8) rfl gg 0 (by go_simp) (sv x2) _ (fun _ h => rows_of_blk h.1) Tryz.underlying29 rfl (FX2'.out)) G7 ?_
              refine wpAnyH_take (i := 1) (v := .agg (pv z).toArray) rfl (by kernel_rfl) (by kernel_rfl) (by kernel_rfl) (fun _ _ _ h => h) (yieldsIf_load_mid (by kernel_rfl) 26 (.tmp 9) rfl w4.heap.size 0 (by go_simp) (pv z) _ (fun _ h => rows_of_blk h.2) Tryz.underlying26 rfl (FS.out)) G7 ?_
              refine wpAnyH_ready (rs := [2]) (by kernel_rfl) (by simp) ?_
              refine AllReadyH.cons rfl (fun K hK => ?_) AllReadyH.nil
              go_simp
              refine CR.out.mono ?_
              rintro e w8 ⟨y7, rfl, hyr, f8, b8⟩
              have HYR := Lib.hid hyr
              have HAP := Lib.hid (show AP y7 x2 from fun z hz k e1 e2 => absurd (f8.lt k e1.own).1 (by have := ((M7.out.sf.it z hz).lt k e2.own).2; omega))
              have M8 := Lib.hid (M7.out.below b8)
              have BZ8 := Lib.hid (BZ7.out.below b8 BZ7.out.lt)
              have FY8 := Lib.hid (show FT w8 w.heap.size y7.p y7.c y7.r.t from f8.low M7.out.bel.size)
              have G8 : Blk w8 gg 29 (sv x2) ∧ Blk w8 w4.heap.size 26 (pv z) := ⟨M8.out.box, G7.2.below b8 G7.2.lt⟩
              refine hK.out _ _ G8 (fun _ => ?_)
              clear hK K b8 G7 M7 BZ7 BU CR f8 hyr
              have FX2 := Lib.hid (sv_size x2 M6.out.sf.l4); have FO2 := Lib.hid (sv_one x2); have SL2 := Lib.hid (sv_len x2 M6.out.sf.l4)
              refine wpAnyH_ready (rs := [3, 4]) (by kernel_rfl) (by simp) ?_
              refine AllReadyH.cons rfl (fun K hK => ?_) (AllReadyH.cons rfl (fun K hK => ?_) AllReadyH.nil)
              · skip
                have BA := Lib.hid ((Below.refl w8.heap.size w8).alloc (Nat.le_refl _) (.cells (pv y7).toArray 26))
                have M9 := Lib.hid (M8.out.below BA.out)
                have Z9 := Lib.hid (BZ8.out.below BA.out BZ8.out.lt)
                have OW9 := Lib.hid (own_lit1 w8 y7)
                have F9 := Lib.hid (FY8.out.below BA.out)
                have G9 := And.intro M9.out.box (G8.2.alloc (.cells (pv y7).toArray 26))
                refine wp_build1 54 26 (.tmp 55) rfl (pv y7) rfl (build_pv y7 _) ?_
                refine hK.out _ _ G9 (fun _ => ?_)
                clear hK K
                refine wpAnyH_ready (rs := [4]) (by kernel_rfl) (by simp) ?_
                refine AllReadyH.cons rfl (fun K hK => ?_) AllReadyH.nil
                rw [if_pos (by kernel_rfl)]
                refine wstore_part 29 (.tmp 6) (.tmp 53) (w.heap.size + 2) 0 29 [] [.int .i64 0, .slice none 0 0, .slice none 0 0, .int .i64 0, .int .i64 0, .int .i64 0, .int .i64 0, .int .i64 0, .slice none 0 0, .bool false, .int .i64 0, .int .i64 0, .int .i64 0, .slice none 0 0, .bool false, .int .i64 0, .int .i64 0, .int .i64 0, .slice none 0 0, .bool false, .int .i64 0, .int .i64 0, .int .i64 0, .slice none 0 0, .bool false] [] (sv x2) rfl (by rw [List.nil_append, List.append_nil]; exact Z9.out) rfl SL2.out.symm FX2.out FO2.out rfl rfl ?_
                intro wz a1 a2 a3
                have RZ := Lib.hid (show Blk wz (w.heap.size + 2) 29 (sv x2) by have := a1.out; rwa [List.nil_append, List.append_nil] at this)
                have KZ := a2.out.keptOne rfl
                have M10 := Lib.hid (M9.out.farS Z9.out (by have := HGG.out; omega) (by omega) KZ)
                have OW10 := Lib.hid (own_kept OW9.out KZ (fun k hk e => own_apart OW9.out Z9.out (by decide) (by rw [hk, e])))
                have F10 := Lib.hid (show FT wz w.heap.size (y7).p (y7).c (y7).r.t from own_kept F9.out KZ (fun k hk e => own_apart F9.out Z9.out (by decide) (by rw [hk, e])))
                have G10 := And.intro M10.out.box (G9.2.kept KZ (by have := HG4.out; have := HGG.out; omega))
                have HB8 := Lib.hid (show w.heap.size ≤ w8.heap.size from M8.out.bel.size)
                refine hK.out _ _ G10 (fun _ => ?_)
                clear hK K a1 a2 a3
                refine wpAnyH_take (i := 5) (v := ?_) rfl (by kernel_rfl) (by kernel_rfl) (by kernel_rfl) (fun _ _ _ h => h) (Or.inl ⟨by kernel_rfl, ?_⟩) G10 ?_
                rotate_left 1
                · (intro w hS; clear hS; go_simp; try (with_reducible rfl))
                refine wpAnyH_done (by kernel_rfl) ?_ _
                go_simp
                go_wp2_with fail
                exact ret_blkS (p := 6) (u := 7) (ty := 29) rfl rfl (w.heap.size + 2) 29 _ _ rfl RZ.out Tryz.underlying29 rfl FX2.out _ rfl ⟨x2, [y7], some ⟨w8.heap.size, 0, none⟩, 1, rfl, (by rw [HQ.out]), (by rw [HQ.out]; exact congrArg (fun z => [z]) HYR.out), M10.out.sf, own_base OW10.out (fun k hk => Nat.le_trans HB8.out (OW10.out.lt k hk).1), (fun y hy => by rw [List.mem_singleton.1 hy]; exact F10.out), (fun _ y hy => by rw [List.mem_singleton.1 hy]; exact HAP.out), M10.out.bel⟩
              · skip
                refine wstore_part 29 (.tmp 6) (.tmp 53) (w.heap.size + 2) 0 29 [] [.int .i64 0, .slice none 0 0, .slice none 0 0, .int .i64 0, .int .i64 0, .int .i64 0, .int .i64 0, .int .i64 0, .slice none 0 0, .bool false, .int .i64 0, .int .i64 0, .int .i64 0, .slice none 0 0, .bool false, .int .i64 0, .int .i64 0, .int .i64 0, .slice none 0 0, .bool false, .int .i64 0, .int .i64 0, .int .i64 0, .slice none 0 0, .bool false] [] (sv x2) rfl (by rw [List.nil_append, List.append_nil]; exact BZ8.out) rfl SL2.out.symm FX2.out FO2.out rfl rfl ?_
                intro wz a1 a2 a3
                have RZ0 := Lib.hid (show Blk wz (w.heap.size + 2) 29 (sv x2) by have := a1.out; rwa [List.nil_append, List.append_nil] at this)
                have KZ := a2.out.keptOne rfl
                have M9 := Lib.hid (M8.out.farS BZ8.out (by have := HGG.out; omega) (by omega) KZ)
                have F9 := Lib.hid (show FT wz w.heap.size (y7).p (y7).c (y7).r.t from own_kept FY8.out KZ (fun k hk e => own_apart FY8.out BZ8.out (by decide) (by rw [hk, e])))
                have G9 := And.intro M9.out.box (G8.2.kept KZ (by have := HG4.out; have := HGG.out; omega))
                refine hK.out _ _ G9 (fun _ => ?_)
                clear hK K a1 a2 a3
                have BA := Lib.hid ((Below.refl wz.heap.size wz).alloc (Nat.le_refl _) (.cells (pv y7).toArray 26))
                have M10 := Lib.hid (M9.out.below BA.out)
                have RZ := Lib.hid (RZ0.out.below BA.out RZ0.out.lt)
                have OW10 := Lib.hid (own_lit1 wz y7)
                have F10 := Lib.hid (F9.out.below BA.out)
                have G10 := And.intro M10.out.box (G9.2.alloc (.cells (pv y7).toArray 26))
                have HB8 := Lib.hid (show w.heap.size ≤ wz.heap.size from M9.out.bel.size)
                refine wpAnyH_ready (rs := [3]) (by kernel_rfl) (by simp) ?_
                refine AllReadyH.cons rfl (fun K hK => ?_) AllReadyH.nil
                rw [if_pos (by kernel_rfl)]
                refine wp_build1 54 26 (.tmp 55) rfl (pv y7) rfl (build_pv y7 _) ?_
                refine hK.out _ _ G10 (fun _ => ?_)
                clear hK K
                refine wpAnyH_take (i := 5) (v := ?_) rfl (by kernel_rfl) (by kernel_rfl) (by kernel_rfl) (fun _ _ _ h => h) (Or.inl ⟨by kernel_rfl, ?_⟩) G10 ?_
                rotate_left 1
                · (intro w hS; clear hS; go_simp; try (with_reducible rfl))
                refine wpAnyH_done (by kernel_rfl) ?_ _
                go_simp
                go_wp2_with fail
                exact ret_blkS (p := 6) (u := 7) (ty := 29) rfl rfl (w.heap.size + 2) 29 _ _ rfl RZ.out Tryz.underlying29 rfl FX2.out _ rfl ⟨x2, [y7], some ⟨wz.heap.size, 0, none⟩, 1, rfl, (by rw [HQ.out]), (by rw [HQ.out]; exact congrArg (fun z => [z]) HYR.out), M10.out.sf, own_base OW10.out (fun k hk => Nat.le_trans HB8.out (OW10.out.lt k hk).1), (fun y hy => by rw [List.mem_singleton.1 hy]; exact F10.out), (fun _ y hy => by rw [List.mem_singleton.1 hy]; exact HAP.out), M10.out.bel⟩
            · have eq2 : (r.r.sq == z.r.sq) = false := by rw [beq_eq_false_iff_ne]; exact q2
              have HQ := Lib.hid (HD.out.trans ((if_neg q1).trans (if_neg q2)))
              have AN := Lib.hid (answer_t w gg x2 r V6 M6.out (by rw [S5.out]; exact HSZ.out) (by rw [S5.out]; exact HSM.out.2) HR.out HN.out HM.out (by have := HMR.out.cl0; have := HMR.out.cl4; omega) HU.out (by
                have e : x2.now = now := congrArg Sp.now S5.out
                have h1 := HN0.out; have h2 := HMR.out.le0; have h3 := HMR.out.lem
                rw [e, IntWalk.i64_in _ (by omega)]))
              go_upto_region 10 with (fail)
              go_wp2_with ((with_reducible refine load_blk 51 (.tmp 5) (w.heap.size + 1) 51 (rv r) _ rfl rfl ?_ Tryz.underlying51 ?_ ?_ ?_ ?_); exact BR6.out; exact rfl; exact FR.out; exact rfl)
              refine AN.out.mono ?_
              rintro e w9 ⟨x3, R, q, c', rfl, m9, v9, s9, r9, o9, t9, a9⟩
              have BZ9 := Lib.hid (v9.blk M6.out BZ6.out (by decide) (by decide) (by have := HGG.out; omega))
              have M9 := Lib.hid m9; have S9 := Lib.hid s9; have R9 := Lib.hid r9; have O9 := Lib.hid o9; have T9 := Lib.hid t9; have A9 := Lib.hid a9
              have FX3 := Lib.hid (sv_size x3 m9.sf.l4); have FO3 := Lib.hid (sv_one x3); have SL3 := Lib.hid (sv_len x3 m9.sf.l4)
              have BX3 := Lib.hid m9.box
              have RZ := Lib.hid (BZ9.out.setRow (sv x3))
              have KZ : Kept (fun b => b = w.heap.size + 2) w9 (w9.setRow (w.heap.size + 2) (sv x3).toArray) := (Kept.refl (fun b => b = w.heap.size + 2) w9).setRowK (.inl rfl) _
              have M10 := Lib.hid (m9.farS BZ9.out (by have := HGG.out; omega) (by omega) KZ)
              have O10 := Lib.hid (own_kept o9 KZ (fun k hk e => own_apart o9 BZ9.out (by decide) (by rw [hk, e])))
              have T10 := Lib.hid (fun (y : Rpv) (hy : y ∈ R) => show FT (w9.setRow (w.heap.size + 2) (sv x3).toArray) w.heap.size y.p y.c y.r.t from own_kept (t9 y hy) KZ (fun k hk e => own_apart (t9 y hy) BZ9.out (by decide) (by rw [hk, e])))
              have HB6 := Lib.hid (show w.heap.size ≤ V6.heap.size from M6.out.bel.size)
              clear m9 v9 s9 r9 o9 t9 a9 AN KZ M6 BZ6 BR6
              go_wp2_with (first
                | ((with_reducible refine load_blk 29 (.tmp 8) gg 29 (sv x3) _ rfl rfl ?_ Tryz.underlying29 ?_ ?_ ?_ ?_); exact BX3.out; exact rfl; exact FX3.out; exact rfl)
                | ((with_reducible refine at_op (.store 29 (.tmp 6) (.tmp 59)) rfl ?_); go_must (refine store_blk 29 (.tmp 6) (.tmp 59) (w.heap.size + 2) 29 _ (sv x3) rfl rfl BZ9.out SL3.out.symm FX3.out FO3.out rfl rfl ?_)))
              exact ret_blkS (p := 6) (u := 7) (ty := 29) rfl rfl (w.heap.size + 2) 29 _ _ rfl RZ.out Tryz.underlying29 rfl FX3.out _ rfl ⟨x3, R, q, c', rfl, (by rw [HQ.out]; exact S9.out), (by rw [HQ.out]; exact R9.out), M10.out.sf, own_base O10.out (fun k hk => Nat.le_trans HB6.out (O10.out.lt k hk).1), T10.out, A9.out, M10.out.bel⟩
theorem Do_t (x : Spv) (now : Int) (r : Rv) (w : World) (hx : SpW w x) (hs : Small x.sp) (hr : RvW w r) (_ : r.r.n ≤ 1000) (_ : r.r.m ≤ 1000) (hu : UT w) :
    Calls Tryz.prog 20 #[.agg (sv x).toArray, .int .i64 now, .agg (rv r).toArray] w fun e w' => ∃ (x' : Spv) (R : List Rpv) (q : Option Addr) (c : Nat), e = .returned (.tuple #[.agg (sv x').toArray, .slice q R.length c]) ∧ x'.sp = (doP x.sp now r.r).1 ∧ R.map (·.r) = (doP x.sp now r.r).2 ∧ SF w.heap.size w' x' ∧ w'.ownsRow w.heap.size 26 5 (.slice q R.length c) R.length (R.flatMap pv) ∧ (∀ y ∈ R, FT w' w.heap.size y.p y.c y.r.t) ∧ (r.r.kd = 2 → ∀ y ∈ R, AP y x') ∧ Below w.heap.size w w' := DoA_t x now r w hx hs hr hu
end Go.Proofs.YtojianpbjckipaaGreatDoor
