/-
  PACKAGE space: act.
-/
import Derived.Test.YtojianpbjckipaaGreatDoorSpQ
namespace Go.Proofs.YtojianpbjckipaaGreatDoor
open Go Go.RowKit Sh

theorem ob_none (k : Nat) : ¬ OB none k := fun ⟨_, e, _⟩ => by cases e
theorem fnd_lt {p : List Fld} {l : List It} {k : Nat} (h : fnd p l = some k) : k < l.length := (List.findIdx?_eq_some_iff_findIdx_eq.1 h).1
theorem fndI_opt (p : List Fld) (l : List It) : fndI p l = optI (fnd p l) := by
  unfold fndI
  cases fnd p l <;> rfl
theorem bring_nil (s : Sp) (r : Qp) : (bringP s r).1.t = [] := by
  unfold bringP
  split <;> rfl
theorem look_t (wB : World) (g : Nat) (x : Spv) (r : Rv) (o : Option Nat) (W : World) (h : SM wB W g x) (hs : Small x.sp) (hr : RvW wB r) (hm : r.r.n ≤ 1000) (ho : ∀ k, o = some k → k < x.its.length) :
    Calls Tryz.prog 136 #[.pointer (some ⟨g, 0, none⟩), .agg (rv r).toArray, .int .i64 (optI o)] W fun e W' => ∃ (x' : Spv) (y : Rpv), e = .returned (.agg (pv y).toArray) ∧ SM wB W' g x' ∧ Mv g x x' W W' ∧ x'.sp = (lookP x.sp (qp r.r) o).1 ∧ y.r = (lookP x.sp (qp r.r) o).2 ∧ FT W' wB.heap.size y.p y.c y.r.t ∧ (r.r.kd = 2 → AP y x') := by
  cases o with
  | none =>
    refine (lookN_t wB g x r W h hs hr hm).mono ?_
    rintro e w1 ⟨x', y, h1, h2, h3, h4, h5, h6, h7⟩
    exact ⟨x', y, h1, h2, h3, h4, h5, h6, fun _ _ _ _ e' => absurd e' (by rw [h7]; exact ob_none _)⟩
  | some k =>
    have hk := ho k rfl
    exact lookS_t wB g x r k x.its[k] W h hs (List.getElem?_eq_getElem hk)
def casP (s : Sp) (r : Qp) : Option Nat → Sp × Rp × Bool
  | some _ => (s, tellP r 3, false)
  | none => (s, bringP s r)
theorem actP_o {s : Sp} {r : Qp} (h : allowP s r = true) : actP s r = if r.kd = 1 then (s, bringP s r) else if r.kd = 6 then casP s r (fnd r.p s.its) else if r.kd = 7 then replP s r (fnd r.p s.its) else if r.kd = 8 then (s, tellP r 1, false) else ((lookP s r (fnd r.p s.its)).1, (lookP s r (fnd r.p s.its)).2, false) := by
  unfold actP casP
  rw [if_neg (by rw [h]; decide)]
  cases fnd r.p s.its <;> rfl
set_option maxRecDepth 100000 in
set_option maxHeartbeats 8000000 in
theorem act_t (wB : World) (g : Nat) (x : Spv) (r : Rv) (W : World) (h : SM wB W g x) (hs : Small x.sp) (hr : RvW wB r) (hm : r.r.n ≤ 1000) (hc : r.r.cl = 0 ∨ r.r.cl = 1 ∨ r.r.cl = 2 ∨ r.r.cl = 3) (hu : UT wB) :
    Calls Tryz.prog 102 #[.pointer (some ⟨g, 0, none⟩), .agg (rv r).toArray] W fun e W' => ∃ (x' : Spv) (y : Rpv), e = .returned (.tuple #[.agg (pv y).toArray, .bool (actP x.sp (qp r.r)).2.2]) ∧ SM wB W' g x' ∧ Mv g x x' W W' ∧ x'.sp = (actP x.sp (qp r.r)).1 ∧ y.r = (actP x.sp (qp r.r)).2.1 ∧ FT W' wB.heap.size y.p y.c y.r.t ∧ (r.r.kd = 2 → AP y x') := by
  obtain ⟨V, hV⟩ : ∃ V, (W.alloc (.cells (rv r).toArray 51)).alloc (.cells #[.int .i64 0, .int .i64 0, .int .i64 0, .slice none 0 0, .bool false] 26) = V := ⟨_, rfl⟩
  have B0 := Lib.hid (show Below W.heap.size W V from by rw [← hV]; exact ((Below.refl _ _).alloc (Nat.le_refl _) _).alloc (by simp) _)
  have BR := Lib.hid (show Blk V W.heap.size 51 (rv r) from by rw [← hV]; exact (Blk.new W 51 (rv r)).alloc _)
  have BZ := Lib.hid (show Blk V (W.heap.size + 1) 26 [.int .i64 0, .int .i64 0, .int .i64 0, .slice none 0 0, .bool false] from by rw [← hV]; exact Blk.new2 W _ _ _)
  have HG := Lib.hid h.box.lt
  have HB := Lib.hid h.bel.size
  have M := Lib.hid h
  have HS := Lib.hid hs; have HR := Lib.hid hr; have HM := Lib.hid hm; have HC := Lib.hid hc; have HU := Lib.hid hu
  have FX := Lib.hid (sv_size x h.sf.l4)
  have FR := Lib.hid (rv_size r)
  clear h hs hr hm hc hu
  obtain ⟨ba, hba⟩ : ∃ b, allowP x.sp (qp r.r) = b := ⟨_, rfl⟩
  cases ba with
  | false =>
    have HQ := Lib.hid (show actP x.sp (qp r.r) = (x.sp, tellP (qp r.r) 6, false) from by unfold actP; rw [if_pos hba])
    go_enter Tryz.func102, Tryz.ntmps102
    go_upto_region 1 with (fail)
    clear hV
    obtain ⟨U, hU⟩ : ∃ U, V.drew = U := ⟨_, rfl⟩
    have BU := Lib.hid (show Below V.heap.size V U from by rw [← hU]; exact (Below.refl _ _).drew)
    have BWU := Lib.hid (B0.out.trans (BU.out.mono B0.out.size))
    have G1 : Blk U g 29 (sv x) ∧ Blk U W.heap.size 51 (rv r) := ⟨(M.out.below BWU.out).box, BR.out.below BU.out BR.out.lt⟩
    have AL := Lib.hid (allowed_t x r U (HU.out.below (M.out.below BWU.out).bel) HC.out)
    rw [hba] at AL
    refine wp_region_held (S := fun Y => Blk Y g 29 (sv x) ∧ Blk Y W.heap.size 51 (rv r)) (by kernel_rfl) ?_
    change wpAnyH _ _ _ _ _ _ _ _ V.drew
    rw [hU]
    clear hU
    refine wpAnyH_take (i := 0) (v := ?_) rfl (by kernel_rfl) (by kernel_rfl) (by kernel_rfl) (fun _ _ _ h => h) (Or.inl ⟨by kernel_rfl, ?_⟩) G1 ?_
    rotate_left 1
    · (intro w hS; clear hS; go_simp; try (with_reducible rfl))
    refine wpAnyH_take (i := 1) (v := ?_) rfl (by kernel_rfl) (by kernel_rfl) (by kernel_rfl) (fun _ _ _ h => h) (Or.inl ⟨by kernel_rfl, ?_⟩) G1 ?_
    rotate_left 1
    · (intro w hS; clear hS; go_simp; try (with_reducible rfl))
    refine wpAnyH_take (i := 2) (v := .agg (sv x).toArray) rfl (by kernel_rfl) (by kernel_rfl) (by kernel_rfl) (fun _ _ _ h => h) (yieldsIf_load_mid (by kernel_rfl) 29 (.tmp 8) rfl g 0 (by go_simp) (sv x) _ (fun _ h => rows_of_blk h.1) Tryz.underlying29 rfl (FX.out)) G1 ?_
    refine wpAnyH_take (i := 3) (v := .agg (rv r).toArray) rfl (by kernel_rfl) (by kernel_rfl) (by kernel_rfl) (fun _ _ _ h => h) (yieldsIf_load_mid (by kernel_rfl) 51 (.tmp 3) rfl W.heap.size 0 (by go_simp) (rv r) _ (fun _ h => rows_of_blk h.2) Tryz.underlying51 rfl (FR.out)) G1 ?_
    refine wpAnyH_ready (rs := [4]) (by kernel_rfl) (by simp) ?_
    refine AllReadyH.cons rfl (fun K hK => ?_) AllReadyH.nil
    go_simp
    refine AL.out.mono ?_
    rintro e w1 ⟨rfl, b1⟩
    have G2 : Blk w1 g 29 (sv x) ∧ Blk w1 W.heap.size 51 (rv r) := ⟨G1.1.below b1 G1.1.lt, G1.2.below b1 G1.2.lt⟩
    have B1 := Lib.hid (BWU.out.trans (b1.mono BWU.out.size))
    have Z1 := Lib.hid ((BZ.out.below BU.out BZ.out.lt).below b1 (Nat.lt_of_lt_of_le BZ.out.lt BU.out.size))
    refine hK.out _ _ G2 (fun _ => ?_)
    clear hK K b1 G1 BZ BR B0 BU BWU AL
    refine wpAnyH_take (i := 5) (v := ?_) rfl (by kernel_rfl) (by kernel_rfl) (by kernel_rfl) (fun _ _ _ h => h) (Or.inl ⟨by kernel_rfl, ?_⟩) G2 ?_
    rotate_left 1
    · (intro w hS; clear hS; go_simp; try (with_reducible rfl))
    refine wpAnyH_done (by kernel_rfl) ?_ _
    go_simp
    have R1 := Lib.hid G2.2
    clear G2
    go_upto_region 2 with (fail)
    have TT_ := Lib.hid (tell_t r 6 w1)
    have FR := Lib.hid (rv_size r)
    have FY := Lib.hid (pv_size ⟨tellP (qp r.r) 6, none, 0⟩)
    have FA := Lib.hid (pv_oneA ⟨tellP (qp r.r) 6, none, 0⟩)
    go_wp2_with ((with_reducible refine load_blk 51 (.tmp 3) (W.heap.size) 51 (rv r) _ rfl rfl ?_ Tryz.underlying51 ?_ ?_ ?_ ?_); exact R1.out; exact rfl; exact FR.out; exact rfl)
    refine TT_.out.mono ?_
    rintro e wt ⟨rfl, bt⟩
    have Z1 := Lib.hid (Z1.out.below bt Z1.out.lt)
    have RT := Lib.hid (Z1.out.setRow (pv ⟨tellP (qp r.r) 6, none, 0⟩))
    have BT := Lib.hid (below_setRow (g := W.heap.size + 1) (B1.out.trans (bt.mono B1.out.size)) (by omega) (pv ⟨tellP (qp r.r) 6, none, 0⟩).toArray)
    clear bt TT_
    go_wp2_with ((with_reducible refine store_blk 26 (.tmp 4) (.tmp 14) (W.heap.size + 1) 26 [.int .i64 0, .int .i64 0, .int .i64 0, .slice none 0 0, .bool false] (pv ⟨tellP (qp r.r) 6, none, 0⟩) rfl rfl ?_ ?_ ?_ ?_ ?_ ?_ ?_); exact Z1.out; exact rfl; exact FY.out; exact FA.out; exact rfl; exact rfl)
    exact ret_blkS (p := 4) (u := 5) (ty := 26) rfl rfl (W.heap.size + 1) 26 _ _ rfl RT.out Tryz.underlying26 rfl FY.out _ rfl ⟨x, ⟨tellP (qp r.r) 6, none, 0⟩, (by rw [HQ.out]; rfl), M.out.below BT.out, Mv.of_below BT.out, (by rw [HQ.out]), (by rw [HQ.out]), FT.nil _ _, fun _ _ _ _ e => absurd e (ob_none _)⟩
  | true =>
    obtain ⟨o, ho⟩ : ∃ o, fnd (fl r.r.n r.r.G) x.sp.its = o := ⟨_, rfl⟩
    have HO := Lib.hid (fun (k : Nat) (e : o = some k) => show k < x.its.length from by have := fnd_lt (ho.trans e); rwa [show x.sp.its.length = x.its.length from List.length_map _] at this)
    have FDW := Lib.hid (fun (Y : World) (m : SM wB Y g x) => show Calls _ _ _ _ fun e w' => e = .returned (.int .i64 (optI o)) ∧ _ from by
      have := Find_t x r.p r.r.n r.c r.r.G Y (by have := HM.out; omega) (HR.out.p.below m.bel) (m.sf.w HS.out)
      rw [fndI_opt, ho] at this
      exact this)
    have hA := actP_o hba
    rw [show (qp r.r).p = fl r.r.n r.r.G from rfl, ho, show (qp r.r).kd = r.r.kd from rfl] at hA
    have HBA := Lib.hid hba
    clear ho
    go_enter Tryz.func102, Tryz.ntmps102
    go_upto_region 1 with (fail)
    clear hV
    obtain ⟨U, hU⟩ : ∃ U, V.drew = U := ⟨_, rfl⟩
    have BU := Lib.hid (show Below V.heap.size V U from by rw [← hU]; exact (Below.refl _ _).drew)
    have BWU := Lib.hid (B0.out.trans (BU.out.mono B0.out.size))
    have G1 : Blk U g 29 (sv x) ∧ Blk U W.heap.size 51 (rv r) := ⟨(M.out.below BWU.out).box, BR.out.below BU.out BR.out.lt⟩
    have AL := Lib.hid (allowed_t x r U (HU.out.below (M.out.below BWU.out).bel) HC.out)
    rw [hba] at AL
    refine wp_region_held (S := fun Y => Blk Y g 29 (sv x) ∧ Blk Y W.heap.size 51 (rv r)) (by kernel_rfl) ?_
    change wpAnyH _ _ _ _ _ _ _ _ V.drew
    rw [hU]
    clear hU
    refine wpAnyH_take (i := 0) (v := ?_) rfl (by kernel_rfl) (by kernel_rfl) (by kernel_rfl) (fun _ _ _ h => h) (Or.inl ⟨by kernel_rfl, ?_⟩) G1 ?_
    rotate_left 1
    · (intro w hS; clear hS; go_simp; try (with_reducible rfl))
    refine wpAnyH_take (i := 1) (v := ?_) rfl (by kernel_rfl) (by kernel_rfl) (by kernel_rfl) (fun _ _ _ h => h) (Or.inl ⟨by kernel_rfl, ?_⟩) G1 ?_
    rotate_left 1
    · (intro w hS; clear hS; go_simp; try (with_reducible rfl))
    refine wpAnyH_take (i := 2) (v := .agg (sv x).toArray) rfl (by kernel_rfl) (by kernel_rfl) (by kernel_rfl) (fun _ _ _ h => h) (yieldsIf_load_mid (by kernel_rfl) 29 (.tmp 8) rfl g 0 (by go_simp) (sv x) _ (fun _ h => rows_of_blk h.1) Tryz.underlying29 rfl (FX.out)) G1 ?_
    refine wpAnyH_take (i := 3) (v := .agg (rv r).toArray) rfl (by kernel_rfl) (by kernel_rfl) (by kernel_rfl) (fun _ _ _ h => h) (yieldsIf_load_mid (by kernel_rfl) 51 (.tmp 3) rfl W.heap.size 0 (by go_simp) (rv r) _ (fun _ h => rows_of_blk h.2) Tryz.underlying51 rfl (FR.out)) G1 ?_
    refine wpAnyH_ready (rs := [4]) (by kernel_rfl) (by simp) ?_
    refine AllReadyH.cons rfl (fun K hK => ?_) AllReadyH.nil
    go_simp
    refine AL.out.mono ?_
    rintro e w1 ⟨rfl, b1⟩
    have G2 : Blk w1 g 29 (sv x) ∧ Blk w1 W.heap.size 51 (rv r) := ⟨G1.1.below b1 G1.1.lt, G1.2.below b1 G1.2.lt⟩
    have B1 := Lib.hid (BWU.out.trans (b1.mono BWU.out.size))
    have Z1 := Lib.hid ((BZ.out.below BU.out BZ.out.lt).below b1 (Nat.lt_of_lt_of_le BZ.out.lt BU.out.size))
    refine hK.out _ _ G2 (fun _ => ?_)
    clear hK K b1 G1 BZ BR B0 BU BWU AL
    refine wpAnyH_take (i := 5) (v := ?_) rfl (by kernel_rfl) (by kernel_rfl) (by kernel_rfl) (fun _ _ _ h => h) (Or.inl ⟨by kernel_rfl, ?_⟩) G2 ?_
    rotate_left 1
    · (intro w hS; clear hS; go_simp; try (with_reducible rfl))
    refine wpAnyH_done (by kernel_rfl) ?_ _
    go_simp
    have R1 := Lib.hid G2.2
    clear G2
    go_upto_region 3 with (fail)
    obtain ⟨U2, hU2⟩ : ∃ U, w1.drew = U := ⟨_, rfl⟩
    have BU2 := Lib.hid (show Below w1.heap.size w1 U2 from by rw [← hU2]; exact (Below.refl _ _).drew)
    have BWU := Lib.hid (B1.out.trans (BU2.out.mono B1.out.size))
    have G1 : Blk U2 g 29 (sv x) ∧ Blk U2 W.heap.size 51 (rv r) := ⟨(M.out.below BWU.out).box, R1.out.below BU2.out R1.out.lt⟩
    have FD := Lib.hid (FDW.out U2 (M.out.below BWU.out))
    refine wp_region_held (S := fun Y => Blk Y g 29 (sv x) ∧ Blk Y W.heap.size 51 (rv r)) (by kernel_rfl) ?_
    change wpAnyH _ _ _ _ _ _ _ _ w1.drew
    rw [hU2]
    clear hU2
    refine wpAnyH_take (i := 0) (v := ?_) rfl (by kernel_rfl) (by kernel_rfl) (by kernel_rfl) (fun _ _ _ h => h) (Or.inl ⟨by kernel_rfl, ?_⟩) G1 ?_
    rotate_left 1
    · (intro w hS; clear hS; go_simp; try (with_reducible rfl))
    refine wpAnyH_take (i := 1) (v := ?_) rfl (by kernel_rfl) (by kernel_rfl) (by kernel_rfl) (fun _ _ _ h => h) (Or.inl ⟨by kernel_rfl, ?_⟩) G1 ?_
    rotate_left 1
    · (intro w hS; clear hS; go_simp; try (with_reducible rfl))
    refine wpAnyH_take (i := 2) (v := .agg (sv x).toArray) rfl (by kernel_rfl) (by kernel_rfl) (by kernel_rfl) (fun _ _ _ h => h) (yieldsIf_load_mid (by kernel_rfl) 29 (.tmp 16) rfl g 0 (by go_simp) (sv x) _ (fun _ h => rows_of_blk h.1) Tryz.underlying29 rfl (FX.out)) G1 ?_
    refine wpAnyH_take (i := 3) (v := ?_) rfl (by kernel_rfl) (by kernel_rfl) (by kernel_rfl) (fun _ _ _ h => h) (Or.inl ⟨by kernel_rfl, ?_⟩) G1 ?_
    rotate_left 1
    · (intro w hS; clear hS; go_simp; try (with_reducible rfl))
    refine wpAnyH_take (i := 4) (v := ?_) rfl (by kernel_rfl) (by kernel_rfl) (by kernel_rfl) (fun _ _ _ h => h) (Or.inl ⟨by kernel_rfl, ?_⟩) G1 ?_
    rotate_left 1
    · (intro w hS; have hs := (rv_cells hS.2).2.2.2.1; clear hS; go_simp; try (with_reducible rfl))
    refine wpAnyH_ready (rs := [5]) (by kernel_rfl) (by simp) ?_
    refine AllReadyH.cons rfl (fun K hK => ?_) AllReadyH.nil
    go_simp
    refine FD.out.mono ?_
    rintro e w2 ⟨rfl, b2⟩
    have G2 : Blk w2 g 29 (sv x) ∧ Blk w2 W.heap.size 51 (rv r) := ⟨G1.1.below b2 G1.1.lt, G1.2.below b2 G1.2.lt⟩
    have B2 := Lib.hid (BWU.out.trans (b2.mono BWU.out.size))
    have Z2 := Lib.hid ((Z1.out.below BU2.out Z1.out.lt).below b2 (Nat.lt_of_lt_of_le Z1.out.lt BU2.out.size))
    refine hK.out _ _ G2 (fun _ => ?_)
    clear hK K b2 G1 Z1 R1 B1 BU2 BWU FD FDW
    refine wpAnyH_take (i := 6) (v := ?_) rfl (by kernel_rfl) (by kernel_rfl) (by kernel_rfl) (fun _ _ _ h => h) (Or.inl ⟨by kernel_rfl, ?_⟩) G2 ?_
    rotate_left 1
    · (intro w hS; clear hS; go_simp; try (with_reducible rfl))
    refine wpAnyH_done (by kernel_rfl) ?_ _
    go_simp
    have R2 := Lib.hid G2.2
    have d2 := (rv_cells G2.2).2.2.1
    clear G2
    by_cases k1 : r.r.kd = 1
    · rw [if_pos k1] at hA
      have HQ := Lib.hid hA
      rw [k1] at d2
      clear hA
      go_upto_region 6 with (fail)
      obtain ⟨U4, hU4⟩ : ∃ U, (w2).drew = U := ⟨_, rfl⟩
      have BU4 := Lib.hid (show Below (w2).heap.size w2 U4 from by rw [← hU4]; exact (Below.refl _ _).drew)
      have B4 := Lib.hid (B2.out.trans (BU4.out.mono B2.out.size))
      have G4 : Blk U4 g 29 (sv x) ∧ Blk U4 W.heap.size 51 (rv r) := ⟨(M.out.below B4.out).box, R2.out.below BU4.out R2.out.lt⟩
      have Z4 := Lib.hid (Z2.out.below BU4.out Z2.out.lt)
      have BG := Lib.hid (bring_t x r U4 ((M.out.below B4.out).sf.w HS.out))
      have BN := Lib.hid (bring_nil x.sp (qp r.r))
      obtain ⟨yb, hyb⟩ : ∃ y : Rpv, ⟨(bringP x.sp (qp r.r)).1, none, 0⟩ = y := ⟨_, rfl⟩
      obtain ⟨bb, hbb⟩ : ∃ b, (bringP x.sp (qp r.r)).2 = b := ⟨_, rfl⟩
      rw [hyb, hbb] at BG
      have HYB := Lib.hid hyb; have HBB := Lib.hid hbb
      clear hyb hbb
      refine wp_region_held (S := fun Y => Blk Y g 29 (sv x) ∧ Blk Y W.heap.size 51 (rv r)) (by kernel_rfl) ?_
      change wpAnyH _ _ _ _ _ _ _ _ (w2).drew
      rw [hU4]
      clear hU4
      refine wpAnyH_take (i := 0) (v := ?_) rfl (by kernel_rfl) (by kernel_rfl) (by kernel_rfl) (fun _ _ _ h => h) (Or.inl ⟨by kernel_rfl, ?_⟩) G4 ?_
      rotate_left 1
      · (intro w hS; clear hS; go_simp; try (with_reducible rfl))
      refine wpAnyH_take (i := 1) (v := ?_) rfl (by kernel_rfl) (by kernel_rfl) (by kernel_rfl) (fun _ _ _ h => h) (Or.inl ⟨by kernel_rfl, ?_⟩) G4 ?_
      rotate_left 1
      · (intro w hS; clear hS; go_simp; try (with_reducible rfl))
      refine wpAnyH_take (i := 2) (v := .agg (sv x).toArray) rfl (by kernel_rfl) (by kernel_rfl) (by kernel_rfl) (fun _ _ _ h => h) (yieldsIf_load_mid (by kernel_rfl) 29 (.tmp 26) rfl g 0 (by go_simp) (sv x) _ (fun _ h => rows_of_blk h.1) Tryz.underlying29 rfl (FX.out)) G4 ?_
      refine wpAnyH_take (i := 3) (v := .agg (rv r).toArray) rfl (by kernel_rfl) (by kernel_rfl) (by kernel_rfl) (fun _ _ _ h => h) (yieldsIf_load_mid (by kernel_rfl) 51 (.tmp 3) rfl W.heap.size 0 (by go_simp) (rv r) _ (fun _ h => rows_of_blk h.2) Tryz.underlying51 rfl (FR.out)) G4 ?_
      refine wpAnyH_ready (rs := [4]) (by kernel_rfl) (by simp) ?_
      refine AllReadyH.cons rfl (fun K hK => ?_) AllReadyH.nil
      go_simp
      refine BG.out.mono ?_
      rintro e w5 ⟨rfl, b5⟩
      have G5 : Blk w5 g 29 (sv x) ∧ Blk w5 W.heap.size 51 (rv r) := ⟨G4.1.below b5 G4.1.lt, G4.2.below b5 G4.2.lt⟩
      have Z5 := Lib.hid (Z4.out.below b5 Z4.out.lt)
      have B5 := Lib.hid (B4.out.trans (b5.mono B4.out.size))
      refine hK.out _ _ G5 (fun _ => ?_)
      clear hK K b5 BG G4 Z4 B4 BU4
      refine wpAnyH_take (i := 5) (v := ?_) rfl (by kernel_rfl) (by kernel_rfl) (by kernel_rfl) (fun _ _ _ h => h) (Or.inl ⟨by kernel_rfl, ?_⟩) G5 ?_
      rotate_left 1
      · (intro w hS; clear hS; go_simp; try (with_reducible rfl))
      refine wpAnyH_take (i := 6) (v := ?_) rfl (by kernel_rfl) (by kernel_rfl) (by kernel_rfl) (fun _ _ _ h => h) (Or.inl ⟨by kernel_rfl, ?_⟩) G5 ?_
      rotate_left 1
      · (intro w hS; clear hS; go_simp; try (with_reducible rfl))
      refine wpAnyH_ready (rs := [7]) (by kernel_rfl) (by simp) ?_
      refine AllReadyH.cons rfl (fun K hK => ?_) AllReadyH.nil
      rw [if_pos (by kernel_rfl)]
      refine wstore_part 26 (.tmp 4) (.tmp 30) (W.heap.size + 1) 0 26 [] [.int .i64 0, .int .i64 0, .int .i64 0, .slice none 0 0, .bool false] [] (pv yb) rfl (by rw [List.nil_append, List.append_nil]; exact Z5.out) rfl rfl (pv_size _) (pv_oneA _) rfl rfl ?_
      intro w7 a1 a2 a3
      have Z7 := Lib.hid (show Blk w7 (W.heap.size + 1) 26 (pv yb) by have := a1.out; rwa [List.nil_append, List.append_nil] at this)
      have K7 := a2.out.keptOne rfl
      have B7 := Lib.hid (show Below W.heap.size W w7 from B5.out.trans ⟨K7.os, K7.tape, K7.output, K7.size, fun b hb => K7.block b (Nat.lt_of_lt_of_le hb B5.out.size) (by omega)⟩)
      have G7 : Blk w7 g 29 (sv x) ∧ Blk w7 W.heap.size 51 (rv r) := ⟨G5.1.kept K7 (by have := HG.out; omega), G5.2.kept K7 (by omega)⟩
      refine hK.out _ _ G7 (fun _ => ?_)
      clear hK K a1 a2 a3 K7 G5 Z5
      refine wpAnyH_take (i := 8) (v := ?_) rfl (by kernel_rfl) (by kernel_rfl) (by kernel_rfl) (fun _ _ _ h => h) (Or.inl ⟨by kernel_rfl, ?_⟩) G7 ?_
      rotate_left 1
      · (intro w hS; clear hS; go_simp; try (with_reducible rfl))
      refine wpAnyH_done (by kernel_rfl) ?_ _
      go_simp
      go_wp2_with fail
      exact ret_blkS (p := 4) (u := 5) (ty := 26) rfl rfl (W.heap.size + 1) 26 _ _ rfl Z7.out Tryz.underlying26 rfl (pv_size yb) _ rfl ⟨x, yb, (by rw [HQ.out]; show _ = Ending.returned (.tuple #[_, .bool (bringP x.sp (qp r.r)).2]); rw [HBB.out]; rfl), M.out.below B7.out, Mv.of_below B7.out, (by rw [HQ.out] <;> rfl), (by rw [HQ.out, ← HYB.out] <;> rfl), (by rw [← HYB.out]; show FT _ _ none 0 (bringP x.sp (qp r.r)).1.t; rw [BN.out]; exact FT.nil _ _), (fun _ _ _ _ e => absurd e (by rw [← HYB.out]; exact ob_none _))⟩
    · rw [if_neg k1] at hA
      have e1 : (r.r.kd == 1) = false := by rw [beq_eq_false_iff_ne]; exact k1
      by_cases k6 : r.r.kd = 6
      · rw [if_pos k6] at hA
        rw [k6] at d2 e1
        cases o with
        | some k =>
          have HQ := Lib.hid hA
          clear hA e1
          have k0 : (0 : Int) ≤ (k : Int) := by omega
          go_upto_region 9 with (fail)
          have TT_ := Lib.hid (tell_t r 3 w2)
          have FR := Lib.hid (rv_size r)
          have FY := Lib.hid (pv_size ⟨tellP (qp r.r) 3, none, 0⟩)
          have FA := Lib.hid (pv_oneA ⟨tellP (qp r.r) 3, none, 0⟩)
          go_wp2_with ((with_reducible refine load_blk 51 (.tmp 3) (W.heap.size) 51 (rv r) _ rfl rfl ?_ Tryz.underlying51 ?_ ?_ ?_ ?_); exact R2.out; exact rfl; exact FR.out; exact rfl)
          refine TT_.out.mono ?_
          rintro e wt ⟨rfl, bt⟩
          have Z1 := Lib.hid (Z2.out.below bt Z2.out.lt)
          have RT := Lib.hid (Z1.out.setRow (pv ⟨tellP (qp r.r) 3, none, 0⟩))
          have BT := Lib.hid (below_setRow (g := W.heap.size + 1) (B2.out.trans (bt.mono B2.out.size)) (by omega) (pv ⟨tellP (qp r.r) 3, none, 0⟩).toArray)
          clear bt TT_
          go_wp2_with ((with_reducible refine store_blk 26 (.tmp 4) (.tmp 37) (W.heap.size + 1) 26 [.int .i64 0, .int .i64 0, .int .i64 0, .slice none 0 0, .bool false] (pv ⟨tellP (qp r.r) 3, none, 0⟩) rfl rfl ?_ ?_ ?_ ?_ ?_ ?_ ?_); exact Z1.out; exact rfl; exact FY.out; exact FA.out; exact rfl; exact rfl)
          exact ret_blkS (p := 4) (u := 5) (ty := 26) rfl rfl (W.heap.size + 1) 26 _ _ rfl RT.out Tryz.underlying26 rfl FY.out _ rfl ⟨x, ⟨tellP (qp r.r) 3, none, 0⟩, (by rw [HQ.out] <;> rfl), M.out.below BT.out, Mv.of_below BT.out, (by rw [HQ.out] <;> rfl), (by rw [HQ.out] <;> rfl), FT.nil _ _, (fun _ _ _ _ e => absurd e (ob_none _))⟩
        | none =>
          have HQ := Lib.hid hA
          clear hA e1
          go_upto_region 10 with (fail)
          obtain ⟨U4, hU4⟩ : ∃ U, (w2).drew = U := ⟨_, rfl⟩
          have BU4 := Lib.hid (show Below (w2).heap.size w2 U4 from by rw [← hU4]; exact (Below.refl _ _).drew)
          have B4 := Lib.hid (B2.out.trans (BU4.out.mono B2.out.size))
          have G4 : Blk U4 g 29 (sv x) ∧ Blk U4 W.heap.size 51 (rv r) := ⟨(M.out.below B4.out).box, R2.out.below BU4.out R2.out.lt⟩
          have Z4 := Lib.hid (Z2.out.below BU4.out Z2.out.lt)
          have BG := Lib.hid (bring_t x r U4 ((M.out.below B4.out).sf.w HS.out))
          have BN := Lib.hid (bring_nil x.sp (qp r.r))
          obtain ⟨yb, hyb⟩ : ∃ y : Rpv, ⟨(bringP x.sp (qp r.r)).1, none, 0⟩ = y := ⟨_, rfl⟩
          obtain ⟨bb, hbb⟩ : ∃ b, (bringP x.sp (qp r.r)).2 = b := ⟨_, rfl⟩
          rw [hyb, hbb] at BG
          have HYB := Lib.hid hyb; have HBB := Lib.hid hbb
          clear hyb hbb
          refine wp_region_held (S := fun Y => Blk Y g 29 (sv x) ∧ Blk Y W.heap.size 51 (rv r)) (by kernel_rfl) ?_
          change wpAnyH _ _ _ _ _ _ _ _ (w2).drew
          rw [hU4]
          clear hU4
          refine wpAnyH_take (i := 0) (v := ?_) rfl (by kernel_rfl) (by kernel_rfl) (by kernel_rfl) (fun _ _ _ h => h) (Or.inl ⟨by kernel_rfl, ?_⟩) G4 ?_
          rotate_left 1
          · (intro w hS; clear hS; go_simp; try (with_reducible rfl))
          refine wpAnyH_take (i := 1) (v := ?_) rfl (by kernel_rfl) (by kernel_rfl) (by kernel_rfl) (fun _ _ _ h => h) (Or.inl ⟨by kernel_rfl, ?_⟩) G4 ?_
          rotate_left 1
          · (intro w hS; clear hS; go_simp; try (with_reducible rfl))
          refine wpAnyH_take (i := 2) (v := .agg (sv x).toArray) rfl (by kernel_rfl) (by kernel_rfl) (by kernel_rfl) (fun _ _ _ h => h) (yieldsIf_load_mid (by kernel_rfl) 29 (.tmp 39) rfl g 0 (by go_simp) (sv x) _ (fun _ h => rows_of_blk h.1) Tryz.underlying29 rfl (FX.out)) G4 ?_
          refine wpAnyH_take (i := 3) (v := .agg (rv r).toArray) rfl (by kernel_rfl) (by kernel_rfl) (by kernel_rfl) (fun _ _ _ h => h) (yieldsIf_load_mid (by kernel_rfl) 51 (.tmp 3) rfl W.heap.size 0 (by go_simp) (rv r) _ (fun _ h => rows_of_blk h.2) Tryz.underlying51 rfl (FR.out)) G4 ?_
          refine wpAnyH_ready (rs := [4]) (by kernel_rfl) (by simp) ?_
          refine AllReadyH.cons rfl (fun K hK => ?_) AllReadyH.nil
          go_simp
          refine BG.out.mono ?_
          rintro e w5 ⟨rfl, b5⟩
          have G5 : Blk w5 g 29 (sv x) ∧ Blk w5 W.heap.size 51 (rv r) := ⟨G4.1.below b5 G4.1.lt, G4.2.below b5 G4.2.lt⟩
          have Z5 := Lib.hid (Z4.out.below b5 Z4.out.lt)
          have B5 := Lib.hid (B4.out.trans (b5.mono B4.out.size))
          refine hK.out _ _ G5 (fun _ => ?_)
          clear hK K b5 BG G4 Z4 B4 BU4
          refine wpAnyH_take (i := 5) (v := ?_) rfl (by kernel_rfl) (by kernel_rfl) (by kernel_rfl) (fun _ _ _ h => h) (Or.inl ⟨by kernel_rfl, ?_⟩) G5 ?_
          rotate_left 1
          · (intro w hS; clear hS; go_simp; try (with_reducible rfl))
          refine wpAnyH_take (i := 6) (v := ?_) rfl (by kernel_rfl) (by kernel_rfl) (by kernel_rfl) (fun _ _ _ h => h) (Or.inl ⟨by kernel_rfl, ?_⟩) G5 ?_
          rotate_left 1
          · (intro w hS; clear hS; go_simp; try (with_reducible rfl))
          refine wpAnyH_ready (rs := [7]) (by kernel_rfl) (by simp) ?_
          refine AllReadyH.cons rfl (fun K hK => ?_) AllReadyH.nil
          rw [if_pos (by kernel_rfl)]
          refine wstore_part 26 (.tmp 4) (.tmp 43) (W.heap.size + 1) 0 26 [] [.int .i64 0, .int .i64 0, .int .i64 0, .slice none 0 0, .bool false] [] (pv yb) rfl (by rw [List.nil_append, List.append_nil]; exact Z5.out) rfl rfl (pv_size _) (pv_oneA _) rfl rfl ?_
          intro w7 a1 a2 a3
          have Z7 := Lib.hid (show Blk w7 (W.heap.size + 1) 26 (pv yb) by have := a1.out; rwa [List.nil_append, List.append_nil] at this)
          have K7 := a2.out.keptOne rfl
          have B7 := Lib.hid (show Below W.heap.size W w7 from B5.out.trans ⟨K7.os, K7.tape, K7.output, K7.size, fun b hb => K7.block b (Nat.lt_of_lt_of_le hb B5.out.size) (by omega)⟩)
          have G7 : Blk w7 g 29 (sv x) ∧ Blk w7 W.heap.size 51 (rv r) := ⟨G5.1.kept K7 (by have := HG.out; omega), G5.2.kept K7 (by omega)⟩
          refine hK.out _ _ G7 (fun _ => ?_)
          clear hK K a1 a2 a3 K7 G5 Z5
          refine wpAnyH_take (i := 8) (v := ?_) rfl (by kernel_rfl) (by kernel_rfl) (by kernel_rfl) (fun _ _ _ h => h) (Or.inl ⟨by kernel_rfl, ?_⟩) G7 ?_
          rotate_left 1
          · (intro w hS; clear hS; go_simp; try (with_reducible rfl))
          refine wpAnyH_done (by kernel_rfl) ?_ _
          go_simp
          go_wp2_with fail
          exact ret_blkS (p := 4) (u := 5) (ty := 26) rfl rfl (W.heap.size + 1) 26 _ _ rfl Z7.out Tryz.underlying26 rfl (pv_size yb) _ rfl ⟨x, yb, (by rw [HQ.out]; show _ = Ending.returned (.tuple #[_, .bool (bringP x.sp (qp r.r)).2]); rw [HBB.out]; rfl), M.out.below B7.out, Mv.of_below B7.out, (by rw [HQ.out] <;> rfl), (by rw [HQ.out, ← HYB.out] <;> rfl), (by rw [← HYB.out]; show FT _ _ none 0 (bringP x.sp (qp r.r)).1.t; rw [BN.out]; exact FT.nil _ _), (fun _ _ _ _ e => absurd e (by rw [← HYB.out]; exact ob_none _))⟩
      · rw [if_neg k6] at hA
        have e6 : (r.r.kd == 6) = false := by rw [beq_eq_false_iff_ne]; exact k6
        by_cases k7 : r.r.kd = 7
        · rw [if_pos k7] at hA
          have HQ := Lib.hid hA
          rw [k7] at d2 e1 e6
          have RP := Lib.hid (replace_t wB g x r o w2 (M.out.below B2.out) HS.out HO.out)
          clear hA e1 e6
          go_wp2_with ((with_reducible refine load_blk 51 (.tmp 3) W.heap.size 51 (rv r) _ rfl rfl ?_ Tryz.underlying51 ?_ ?_ ?_ ?_); exact R2.out; exact rfl; exact FR.out; exact rfl)
          refine RP.out.mono ?_
          rintro e w5 ⟨x', y, rfl, m5, v5, s5, y5, f5⟩
          have R5 := Lib.hid (v5.blk (M.out.below B2.out) R2.out (by decide) (by decide) (by have := HG.out; omega))
          have Z5 := Lib.hid (v5.blk (M.out.below B2.out) Z2.out (by decide) (by decide) (by have := HG.out; omega))
          have M5 := Lib.hid m5; have V5 := Lib.hid ((Mv.of_below B2.out).trans v5); have S5 := Lib.hid s5; have Y5 := Lib.hid y5; have F5 := Lib.hid f5
          have FY := Lib.hid (pv_size y); have FA := Lib.hid (pv_oneA y)
          have R6 := Lib.hid (Z5.out.setRow (pv y))
          have KF : Kept (fun k => k = W.heap.size + 1) w5 (w5.setRow (W.heap.size + 1) (pv y).toArray) := (Kept.refl (fun b => b = W.heap.size + 1) w5).setRowK (.inl rfl) _
          have M6 := Lib.hid (M5.out.far Z5.out (by have := HG.out; omega) (by have := HB.out; omega) KF)
          have V6 := Lib.hid (V5.out.far KF (by omega))
          have F6 := Lib.hid (F5.out.far Z5.out KF)
          clear m5 v5 s5 y5 f5 RP KF M5 V5 F5 R5
          go_wp2_with ((with_reducible refine store_blk 26 (.tmp 4) (.tmp 51) (W.heap.size + 1) 26 [.int .i64 0, .int .i64 0, .int .i64 0, .slice none 0 0, .bool false] (pv y) rfl rfl ?_ ?_ ?_ ?_ ?_ ?_ ?_); exact Z5.out; exact rfl; exact FY.out; exact FA.out; exact rfl; exact rfl)
          exact ret_blkS (p := 4) (u := 5) (ty := 26) rfl rfl (W.heap.size + 1) 26 _ _ rfl R6.out Tryz.underlying26 rfl FY.out _ rfl ⟨x', y, (by rw [HQ.out] <;> rfl), M6.out, V6.out, (by rw [HQ.out]; exact S5.out), (by rw [HQ.out]; exact Y5.out), F6.out, (fun e => by omega)⟩
        · rw [if_neg k7] at hA
          have e7 : (r.r.kd == 7) = false := by rw [beq_eq_false_iff_ne]; exact k7
          by_cases k8 : r.r.kd = 8
          · rw [if_pos k8] at hA
            have HQ := Lib.hid hA
            rw [k8] at d2 e1 e6 e7
            clear hA e1 e6 e7
            go_upto_region 14 with (fail)
            have TT_ := Lib.hid (tell_t r 1 w2)
            have FR := Lib.hid (rv_size r)
            have FY := Lib.hid (pv_size ⟨tellP (qp r.r) 1, none, 0⟩)
            have FA := Lib.hid (pv_oneA ⟨tellP (qp r.r) 1, none, 0⟩)
            go_wp2_with ((with_reducible refine load_blk 51 (.tmp 3) (W.heap.size) 51 (rv r) _ rfl rfl ?_ Tryz.underlying51 ?_ ?_ ?_ ?_); exact R2.out; exact rfl; exact FR.out; exact rfl)
            refine TT_.out.mono ?_
            rintro e wt ⟨rfl, bt⟩
            have Z1 := Lib.hid (Z2.out.below bt Z2.out.lt)
            have RT := Lib.hid (Z1.out.setRow (pv ⟨tellP (qp r.r) 1, none, 0⟩))
            have BT := Lib.hid (below_setRow (g := W.heap.size + 1) (B2.out.trans (bt.mono B2.out.size)) (by omega) (pv ⟨tellP (qp r.r) 1, none, 0⟩).toArray)
            clear bt TT_
            go_wp2_with ((with_reducible refine store_blk 26 (.tmp 4) (.tmp 56) (W.heap.size + 1) 26 [.int .i64 0, .int .i64 0, .int .i64 0, .slice none 0 0, .bool false] (pv ⟨tellP (qp r.r) 1, none, 0⟩) rfl rfl ?_ ?_ ?_ ?_ ?_ ?_ ?_); exact Z1.out; exact rfl; exact FY.out; exact FA.out; exact rfl; exact rfl)
            exact ret_blkS (p := 4) (u := 5) (ty := 26) rfl rfl (W.heap.size + 1) 26 _ _ rfl RT.out Tryz.underlying26 rfl FY.out _ rfl ⟨x, ⟨tellP (qp r.r) 1, none, 0⟩, (by rw [HQ.out] <;> rfl), M.out.below BT.out, Mv.of_below BT.out, (by rw [HQ.out] <;> rfl), (by rw [HQ.out] <;> rfl), FT.nil _ _, (fun _ _ _ _ e => absurd e (ob_none _))⟩
          · rw [if_neg k8] at hA
            have e8 : (r.r.kd == 8) = false := by rw [beq_eq_false_iff_ne]; exact k8
            have HQ := Lib.hid hA
            have RP := Lib.hid (look_t wB g x r o w2 (M.out.below B2.out) HS.out HR.out HM.out HO.out)
            clear hA
            go_wp2_with ((with_reducible refine load_blk 51 (.tmp 3) W.heap.size 51 (rv r) _ rfl rfl ?_ Tryz.underlying51 ?_ ?_ ?_ ?_); exact R2.out; exact rfl; exact FR.out; exact rfl)
            refine RP.out.mono ?_
            rintro e w5 ⟨x', y, rfl, m5, v5, s5, y5, f5, ap5⟩
            have AP5 := Lib.hid ap5
            clear ap5
            have R5 := Lib.hid (v5.blk (M.out.below B2.out) R2.out (by decide) (by decide) (by have := HG.out; omega))
            have Z5 := Lib.hid (v5.blk (M.out.below B2.out) Z2.out (by decide) (by decide) (by have := HG.out; omega))
            have M5 := Lib.hid m5; have V5 := Lib.hid ((Mv.of_below B2.out).trans v5); have S5 := Lib.hid s5; have Y5 := Lib.hid y5; have F5 := Lib.hid f5
            have FY := Lib.hid (pv_size y); have FA := Lib.hid (pv_oneA y)
            have R6 := Lib.hid (Z5.out.setRow (pv y))
            have KF : Kept (fun k => k = W.heap.size + 1) w5 (w5.setRow (W.heap.size + 1) (pv y).toArray) := (Kept.refl (fun b => b = W.heap.size + 1) w5).setRowK (.inl rfl) _
            have M6 := Lib.hid (M5.out.far Z5.out (by have := HG.out; omega) (by have := HB.out; omega) KF)
            have V6 := Lib.hid (V5.out.far KF (by omega))
            have F6 := Lib.hid (F5.out.far Z5.out KF)
            clear m5 v5 s5 y5 f5 RP KF M5 V5 F5 R5
            go_wp2_with ((with_reducible refine store_blk 26 (.tmp 4) (.tmp 60) (W.heap.size + 1) 26 [.int .i64 0, .int .i64 0, .int .i64 0, .slice none 0 0, .bool false] (pv y) rfl rfl ?_ ?_ ?_ ?_ ?_ ?_ ?_); exact Z5.out; exact rfl; exact FY.out; exact FA.out; exact rfl; exact rfl)
            exact ret_blkS (p := 4) (u := 5) (ty := 26) rfl rfl (W.heap.size + 1) 26 _ _ rfl R6.out Tryz.underlying26 rfl FY.out _ rfl ⟨x', y, (by rw [HQ.out] <;> rfl), M6.out, V6.out, (by rw [HQ.out]; exact S5.out), (by rw [HQ.out]; exact Y5.out), F6.out, AP5.out⟩
end Go.Proofs.YtojianpbjckipaaGreatDoor
