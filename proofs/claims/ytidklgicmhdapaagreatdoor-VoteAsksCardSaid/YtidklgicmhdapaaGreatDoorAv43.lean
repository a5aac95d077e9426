/-
  THE REFERENCE OF CHAPTER 13
-/
import Derived.Test.YtidklgicmhdapaaGreatDoorAv40
import Derived.Test.YtidklgicmhdapaaGreatDoorAv34
import Derived.Test.YtidklgicmhdapaaGreatDoorAv42
namespace Go.Proofs.YtidklgicmhdapaaGreatDoor
open Go Go.RowKit Sh

set_option maxRecDepth 100000 in
set_option maxHeartbeats 1000000 in
theorem refMayV_t (x : Vv) (w : World) (h : VvW w x) :
    Calls Tryz.prog 5 #[.agg (vv x).toArray] w fun e w' => e = .returned (.bool (mayVo x.vt)) ∧ Below w.heap.size w w' := by
  have S0 := Lib.hid (VB.new h)
  have HM := Lib.hid (show mayVo x.vt = ((decide (0 ≤ x.p) && decide (x.p ≤ 1048576)) && ((decide (0 ≤ x.f) && decide (x.f ≤ 6)) && decide (x.s.length ≤ 9000))) from rfl)
  obtain ⟨r, hr⟩ : ∃ r, mayVo x.vt = r := ⟨_, rfl⟩
  rw [hr] at HM ⊢
  clear h hr
  go_enter Tryz.func5, Tryz.ntmps5
  go_upto_region 1 with (fail)
  refine world_at (fun Y => VB w Y x) S0.out ?_
  rintro V s1
  have S1 := Lib.hid s1
  clear s1 S0
  obtain ⟨c0, c1, c34⟩ := vv_cells S1.out.a S1.out.rx.ll
  by_cases p0 : 0 ≤ x.p
  · by_cases p1 : x.p ≤ 1048576
    · by_cases f0 : 0 ≤ x.f
      · by_cases f1 : x.f ≤ 6
        · by_cases s9 : x.s.length ≤ 9000
          · have i9 : (x.s.length : Int) ≤ 9000 := by omega
            have hr : r = true := by rw [HM.out, decide_eq_true p0, decide_eq_true p1, decide_eq_true f0, decide_eq_true f1, decide_eq_true s9]; rfl
            go_wp2_with fail
            go_ret
            subst hr
            exact ⟨rfl, S1.out.bel⟩
          · have i9 : ¬ ((x.s.length : Int) ≤ 9000) := by omega
            have hr : r = false := by rw [HM.out, decide_eq_false s9, Bool.and_false, Bool.and_false]
            go_wp2_with fail
            go_ret
            subst hr
            exact ⟨rfl, S1.out.bel⟩
        · have hr : r = false := by rw [HM.out, decide_eq_false f1, Bool.and_false, Bool.false_and, Bool.and_false]
          go_wp2_with fail
          go_ret
          subst hr
          exact ⟨rfl, S1.out.bel⟩
      · have hr : r = false := by rw [HM.out, decide_eq_false f0, Bool.false_and, Bool.false_and, Bool.and_false]
        go_wp2_with fail
        go_ret
        subst hr
        exact ⟨rfl, S1.out.bel⟩
    · have hr : r = false := by rw [HM.out, decide_eq_false p1, Bool.and_false, Bool.false_and]
      go_wp2_with fail
      go_ret
      subst hr
      exact ⟨rfl, S1.out.bel⟩
  · have hr : r = false := by rw [HM.out, decide_eq_false p0, Bool.false_and, Bool.false_and]
    go_wp2_with fail
    go_ret
    subst hr
    exact ⟨rfl, S1.out.bel⟩
set_option maxRecDepth 100000 in
set_option maxHeartbeats 1000000 in
theorem refSameV_t (x y : Vv) (w : World) (hx : VvW w x) (hy : VvW w y) :
    Calls Tryz.prog 11 #[.agg (vv x).toArray, .agg (vv y).toArray] w fun e w' => e = .returned (.bool (sameV x.vt y.vt)) ∧ Below w.heap.size w w' := by
  have S0 := Lib.hid (VS.new hx hy)
  have HM := Lib.hid (show sameV x.vt y.vt = ((x.p == y.p) && ((x.f == y.f) && (decide (x.l = y.l) && decide (x.s = y.s)))) from rfl)
  obtain ⟨r, hr⟩ : ∃ r, sameV x.vt y.vt = r := ⟨_, rfl⟩
  rw [hr] at HM ⊢
  clear hx hy hr
  go_enter Tryz.func11, Tryz.ntmps11
  go_upto_region 1 with (fail)
  refine world_at (fun Y => VS w Y x y) S0.out ?_
  rintro V s1
  have S1 := Lib.hid s1
  clear s1 S0
  obtain ⟨c0, c1, c34⟩ := vv_cells S1.out.a S1.out.rx.ll
  obtain ⟨d0, d1, d34⟩ := vv_cells S1.out.b S1.out.ry.ll
  by_cases p0 : x.p = y.p
  · have ep : (x.p == y.p) = true := by rw [p0]; exact beq_self_eq_true _
    by_cases f0 : x.f = y.f
    · have ef : (x.f == y.f) = true := by rw [f0]; exact beq_self_eq_true _
      have RX := Lib.hid (vv_range S1.out.a); have RY := Lib.hid (vv_range S1.out.b)
      have ZX := Lib.hid (hash_size x.l S1.out.rx.ll); have ZY := Lib.hid (hash_size y.l S1.out.ry.ll)
      have el := eqIn_u8sS 9998 23 32 Tryz.underlying23 x.l y.l S1.out.rx.ll S1.out.ry.ll
      by_cases l0 : x.l = y.l
      · rw [decide_eq_true l0] at el
        have BE := Lib.hid (same_textsTX x.s y.s x.A y.A x.s.length y.s.length x.c y.c V rfl rfl S1.out.rx.s S1.out.ry.s S1.out.rx.sb S1.out.ry.sb)
        obtain ⟨sb, hsb⟩ : ∃ b, decide (x.s = y.s) = b := ⟨_, rfl⟩
        rw [hsb] at BE HM
        have hr : r = sb := by rw [HM.out, ep, ef, decide_eq_true l0]; rfl
        clear hsb HM l0
        go_wp2_with (first
          | ((with_reducible refine load_mid_gdV 19 23 (.tmp 18) w.heap.size 2 (u8s x.l) _ ?_ ?_ rfl ?_ Tryz.underlying23 ?_ ?_ ?_ ?_); exact rfl; kernel_rfl; exact RX.out; exact rfl; exact ZX.out; exact rfl)
          | ((with_reducible refine load_mid_gdV 21 23 (.tmp 20) (w.heap.size + 1) 2 (u8s y.l) _ ?_ ?_ rfl ?_ Tryz.underlying23 ?_ ?_ ?_ ?_); exact rfl; kernel_rfl; exact RY.out; exact rfl; exact ZY.out; exact rfl))
        refine BE.out.mono ?_
        rintro e w2 ⟨rfl, rfl⟩
        go_wp2_with fail
        go_ret
        subst hr
        exact ⟨rfl, S1.out.bel⟩
      · rw [decide_eq_false l0] at el
        have hr : r = false := by rw [HM.out, decide_eq_false l0, Bool.false_and, Bool.and_false, Bool.and_false]
        clear HM l0
        go_wp2_with (first
          | ((with_reducible refine load_mid_gdV 19 23 (.tmp 18) w.heap.size 2 (u8s x.l) _ ?_ ?_ rfl ?_ Tryz.underlying23 ?_ ?_ ?_ ?_); exact rfl; kernel_rfl; exact RX.out; exact rfl; exact ZX.out; exact rfl)
          | ((with_reducible refine load_mid_gdV 21 23 (.tmp 20) (w.heap.size + 1) 2 (u8s y.l) _ ?_ ?_ rfl ?_ Tryz.underlying23 ?_ ?_ ?_ ?_); exact rfl; kernel_rfl; exact RY.out; exact rfl; exact ZY.out; exact rfl))
        go_ret
        subst hr
        exact ⟨rfl, S1.out.bel⟩
    · have ef : (x.f == y.f) = false := by rw [beq_eq_false_iff_ne]; exact f0
      have hr : r = false := by rw [HM.out, ef, Bool.false_and, Bool.and_false]
      go_wp2_with fail
      go_ret
      subst hr
      exact ⟨rfl, S1.out.bel⟩
  · have ep : (x.p == y.p) = false := by rw [beq_eq_false_iff_ne]; exact p0
    have hr : r = false := by rw [HM.out, ep, Bool.false_and]
    go_wp2_with fail
    go_ret
    subst hr
    exact ⟨rfl, S1.out.bel⟩
set_option maxRecDepth 100000 in
set_option maxHeartbeats 2000000 in
theorem refPutV_t (x : Vv) (w : World) (h : VvW w x) (hm : mayVo x.vt = true) :
    Calls Tryz.prog 10 #[.agg (vv x).toArray] w fun e w' => ∃ u, e = .returned u ∧ Fresh 5 w w' u (putV x.vt) := by
  obtain ⟨h1, h2, h3, h4, h5⟩ := mayVo_h hm
  obtain ⟨a, ha⟩ : ∃ a : Nat, x.p = (a : Int) := ⟨x.p.toNat, by have h1 : 0 ≤ x.p := h1; omega⟩
  obtain ⟨b, hb⟩ : ∃ a : Nat, x.f = (a : Int) := ⟨x.f.toNat, by have h3 : 0 ≤ x.f := h3; omega⟩
  have a9 : a ≤ 1048576 := by have h2 : x.p ≤ 1048576 := h2; omega
  have b9 : b ≤ 6 := by have h4 : x.f ≤ 6 := h4; omega
  have S9 := Lib.hid (show x.s.length ≤ 9000 from h5)
  have LL := Lib.hid h.ll
  have LE := Lib.hid (show (putV x.vt).length ≤ 1000000 from by rw [putV_le h.ll]; have h5 : x.s.length ≤ 9000 := h5; show 41 + x.s.length ≤ _; omega)
  have E := Lib.hid (show putV x.vt = beN a 4 ++ (beN b 1 ++ (x.l ++ txtN x.s)) from by
    show beN x.p.toNat 4 ++ (beN x.f.toNat 1 ++ (x.l ++ txtN x.s)) = _
    rw [ha, hb]
    simp only [Int.toNat_natCast])
  obtain ⟨xs, hxs⟩ : ∃ l, putV x.vt = l := ⟨_, rfl⟩
  rw [hxs] at E LE ⊢
  have i1 : IntKind.u64.wrap (a : Int) = (a : Int) := IntWalk.u64_in _ (by omega)
  have i2 : IntKind.u64.wrap (b : Int) = (b : Int) := IntWalk.u64_in _ (by omega)
  have CELL := Lib.hid (fun (W : World) (h : VB w W x) => show W.cell? ⟨w.heap.size, 0, none⟩ = some (.int .i64 (a : Int)) ∧ W.cell? ⟨w.heap.size, 1, none⟩ = some (.int .i64 (b : Int)) ∧ W.cell? ⟨w.heap.size, 34, none⟩ = some (.slice x.A x.s.length x.c) from by
    have := vv_cells h.a h.rx.ll
    rw [ha, hb] at this
    exact this)
  have S0 := Lib.hid (VB.new h)
  clear h hm h1 h2 h3 h4 h5 ha hb hxs
  go_enter Tryz.func10, Tryz.ntmps10
  go_upto_region 1 with (fail)
  refine wp_region_held (S := fun W => W.cell? ⟨w.heap.size, 0, none⟩ = some (.int .i64 (a : Int)) ∧ W.cell? ⟨w.heap.size, 1, none⟩ = some (.int .i64 (b : Int)) ∧ W.cell? ⟨w.heap.size, 34, none⟩ = some (.slice x.A x.s.length x.c)) (by kernel_rfl) ?_
  change wpAnyH _ _ _ _ _ _ _ _ (w.alloc (.cells (vv x).toArray 26)).drew
  obtain ⟨U, hU⟩ : ∃ U, (w.alloc (.cells (vv x).toArray 26)).drew = U := ⟨_, rfl⟩
  have Z0 := Lib.hid (show VB w U x from S0.out.below (by rw [← hU]; exact (Below.refl _ _).drew))
  rw [hU]
  clear hU S0
  have r0 := CELL.out _ Z0.out
  refine wpAnyH_take (i := 0) (v := ?_) rfl (by kernel_rfl) (by kernel_rfl) (by kernel_rfl) (fun _ _ _ h => h) (Or.inl ⟨by kernel_rfl, ?_⟩) r0 ?_
  rotate_left 1
  · (intro w hS; clear hS; go_simp; try (with_reducible rfl))
  refine wpAnyH_take (i := 4) (v := ?_) rfl (by kernel_rfl) (by kernel_rfl) (by kernel_rfl) (fun _ _ _ h => h) (Or.inl ⟨by kernel_rfl, ?_⟩) r0 ?_
  rotate_left 1
  · (intro w hS; clear hS; go_simp; try (with_reducible rfl))
  refine wpAnyH_take (i := 8) (v := ?_) rfl (by kernel_rfl) (by kernel_rfl) (by kernel_rfl) (fun _ _ _ h => h) (Or.inl ⟨by kernel_rfl, ?_⟩) r0 ?_
  rotate_left 1
  · (intro w hS; clear hS; go_simp; try (with_reducible rfl))
  refine wpAnyH_take (i := 10) (v := ?_) rfl (by kernel_rfl) (by kernel_rfl) (by kernel_rfl) (fun _ _ _ h => h) (Or.inl ⟨by kernel_rfl, ?_⟩) r0 ?_
  rotate_left 1
  · (intro w hS; clear hS; go_simp; try (with_reducible rfl))
  refine wpAnyH_take (i := 1) (v := ?_) rfl (by kernel_rfl) (by kernel_rfl) (by kernel_rfl) (fun _ _ _ h => h) (Or.inl ⟨by kernel_rfl, ?_⟩) r0 ?_
  rotate_left 1
  · (intro w hS; have hs := hS.1; clear hS; go_simp; try (with_reducible rfl))
  refine wpAnyH_take (i := 5) (v := ?_) rfl (by kernel_rfl) (by kernel_rfl) (by kernel_rfl) (fun _ _ _ h => h) (Or.inl ⟨by kernel_rfl, ?_⟩) r0 ?_
  rotate_left 1
  · (intro w hS; have hs := hS.2.1; clear hS; go_simp; try (with_reducible rfl))
  refine wpAnyH_take (i := 11) (v := ?_) rfl (by kernel_rfl) (by kernel_rfl) (by kernel_rfl) (fun _ _ _ h => h) (Or.inl ⟨by kernel_rfl, ?_⟩) r0 ?_
  rotate_left 1
  · (intro w hS; have hs := hS.2.2; clear hS; go_simp; try (with_reducible rfl))
  refine wpAnyH_take (i := 2) (v := ?_) rfl (by kernel_rfl) (by kernel_rfl) (by kernel_rfl) (fun _ _ _ h => h) (Or.inl ⟨by kernel_rfl, ?_⟩) r0 ?_
  rotate_left 1
  · (intro w hS; clear hS; go_simp; try (with_reducible rfl))
  refine wpAnyH_take (i := 6) (v := ?_) rfl (by kernel_rfl) (by kernel_rfl) (by kernel_rfl) (fun _ _ _ h => h) (Or.inl ⟨by kernel_rfl, ?_⟩) r0 ?_
  rotate_left 1
  · (intro w hS; clear hS; go_simp; try (with_reducible rfl))
  refine wpAnyH_take (i := 9) (v := ?_) rfl (by kernel_rfl) (by kernel_rfl) (by kernel_rfl) (fun _ _ _ h => h) (Or.inl ⟨by kernel_rfl, ?_⟩) r0 ?_
  rotate_left 1
  · (intro w hS; clear hS; go_simp; try (with_reducible rfl))
  have X0 := Lib.hid (show Six U [] from fun x hx => absurd hx List.not_mem_nil)
  refine wpAnyH_ready (rs := [3]) (by kernel_rfl) (by simp) ?_
  refine AllReadyH.cons rfl (fun K hK => ?_) AllReadyH.nil
  go_simp
  refine (refnum_t a 4 U (by decide) (by decide)).mono ?_
  rintro e w3 ⟨u, rfl, fr⟩
  obtain ⟨A3, k3, rfl, _, sr, bb⟩ := fresh_opO fr
  have Z3 := Lib.hid (Z0.out.below bb); have X3 := Lib.hid ((X0.out.below bb).snoc (c := k3) sr)
  have r3 := CELL.out _ Z3.out
  clear fr sr bb
  refine hK.out _ _ r3 (fun _ => ?_)
  clear hK K Z0 X0
  refine wpAnyH_ready (rs := [7]) (by kernel_rfl) (by simp) ?_
  refine AllReadyH.cons rfl (fun K hK => ?_) AllReadyH.nil
  go_simp
  refine (refnum_t b 1 w3 (by decide) (by decide)).mono ?_
  rintro e w7 ⟨u, rfl, fr⟩
  obtain ⟨A7, k7, rfl, _, sr, bb⟩ := fresh_opO fr
  have Z7 := Lib.hid (Z3.out.below bb); have X7 := Lib.hid ((X3.out.below bb).snoc (c := k7) sr)
  have r7 := CELL.out _ Z7.out
  clear fr sr bb
  refine hK.out _ _ r7 (fun _ => ?_)
  clear hK K Z3 X3
  have SL := Lib.hid (vv_link Z7.out.a)
  have XL := Lib.hid (X7.out.snoc (c := 32) SL.out)
  clear X7 SL
  refine wpAnyH_ready (rs := [12]) (by kernel_rfl) (by simp) ?_
  refine AllReadyH.cons rfl (fun K hK => ?_) AllReadyH.nil
  go_simp
  refine (reftext_t x.s x.A _ x.c w7 rfl Z7.out.rx.s (by have := S9.out; omega)).mono ?_
  rintro e w12 ⟨u, rfl, fr⟩
  obtain ⟨A12, k12, rfl, _, sr, bb⟩ := fresh_opO fr
  have Z12 := Lib.hid (Z7.out.below bb); have X12 := Lib.hid ((XL.out.below bb).snoc (c := k12) sr)
  have r12 := CELL.out _ Z12.out
  clear fr sr bb
  refine hK.out _ _ r12 (fun _ => ?_)
  clear hK K Z7 XL
  obtain ⟨lp, hlp⟩ : ∃ l : List PartO, (((([] ++ [⟨A3, k3, beN a 4⟩]) ++ [⟨A7, k7, beN b 1⟩]) ++ [⟨some ⟨w.heap.size, 2, none⟩, 32, x.l⟩]) ++ [⟨A12, k12, txtN x.s⟩]) = l := ⟨_, rfl⟩
  rw [hlp] at X12
  have LP := Lib.hid (show lp.length = 4 by rw [← hlp]; rfl)
  have PL := Lib.hid (show partsO lp = [.slice A3 (beN a 4).length k3, .slice A7 (beN b 1).length k7, .slice (some ⟨w.heap.size, 2, none⟩) 32 32, .slice A12 (txtN x.s).length k12] by rw [← hlp]; simp only [partsO, List.nil_append, List.cons_append, List.map_cons, List.map_nil, LL.out])
  have EL := Lib.hid (show catO lp = xs by rw [← hlp, E.out]; simp [catO])
  clear hlp
  have bz : Below w12.heap.size w12 (w12.alloc (.cells (partsO lp).toArray 24)) := (Below.refl _ _).alloc (Nat.le_refl _) _
  have ZZ := Lib.hid (Z12.out.below bz); have XX := Lib.hid (X12.out.below bz)
  have BB := Lib.hid (Blk.new w12 24 (partsO lp))
  have rz := CELL.out _ ZZ.out
  clear bz Z12 X12
  refine wpAnyH_ready (rs := [13]) (by kernel_rfl) (by simp) ?_
  refine AllReadyH.cons rfl (fun K hK => ?_) AllReadyH.nil
  go_simp
  rw [PL.out] at ZZ XX BB rz
  refine hK.out _ _ rz (fun _ => ?_)
  clear hK K
  refine wpAnyH_ready (rs := [14]) (by kernel_rfl) (by simp) ?_
  refine AllReadyH.cons rfl (fun K hK => ?_) AllReadyH.nil
  go_simp
  refine (catO_t lp w12.heap.size 4 4 24 _ LP.out (by rw [PL.out]; exact BB.out) XX.out (by rw [EL.out]; exact LE.out) (by decide)).mono ?_
  rintro e wz ⟨u, rfl, fr⟩
  rw [EL.out] at fr
  have FR := Lib.hid (show Fresh 5 w wz u xs from ⟨own_base fr.1 (fun k hk => Nat.le_trans ZZ.out.bel.size (fr.1.lt k hk).1), ZZ.out.bel.trans (fr.2.mono ZZ.out.bel.size)⟩)
  have ZE := Lib.hid (ZZ.out.below fr.2)
  have rq := CELL.out _ ZE.out
  clear fr ZZ XX BB
  refine hK.out _ _ rq (fun _ => ?_)
  clear hK K
  refine wpAnyH_take (i := 15) (v := ?_) rfl (by kernel_rfl) (by kernel_rfl) (by kernel_rfl) (fun _ _ _ h => h) (Or.inl ⟨by kernel_rfl, ?_⟩) rq ?_
  rotate_left 1
  · (intro w hS; clear hS; go_simp; try (with_reducible rfl))
  refine wpAnyH_done (by kernel_rfl) ?_ _
  go_simp
  go_wp2_with fail
  go_ret
  exact ⟨u, rfl, FR.out⟩
end Go.Proofs.YtidklgicmhdapaaGreatDoor
