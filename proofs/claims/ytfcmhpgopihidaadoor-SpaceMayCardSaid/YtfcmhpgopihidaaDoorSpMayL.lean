/-
  SpaceMay walked.
-/
import Derived.Test.YtfcmhpgopihidaaDoorSpZ
namespace Go.Proofs.YtfcmhpgopihidaaDoor
open Go Go.RowKit Sh

theorem no_find {x : Spv} (h : NoW x.sp) {k : Nat} {y : Wtv} (hy : x.wts[k]? = some y) : fndI (fl y.x.p.length (gl y.x.p)) x.sp.its = -1 := by
  have hm : y.x ∈ x.sp.wts := List.mem_map.2 ⟨y, List.mem_of_getElem? hy, rfl⟩
  unfold fndI
  rw [fl_gl, fnd_none.2 fun i hi => h y.x hm i hi]
/-- Where a round of the waiters reads. -/
structure CW (W : World) (g : Nat) (x : Spv) (b o : Nat) (k : Nat) (y : Wtv) : Prop where
  box : Blk W g 32 (sv x)
  c1 : W.cell? ⟨g, 2, none⟩ = some (.slice (some ⟨b, o, none⟩) x.wts.length x.wc)
  ct : W.cell? ⟨b, o + k * 4 + 3, none⟩ = some (.slice y.p y.x.p.length y.c)
  bl : b < W.heap.size
theorem CW.below {W W' : World} {g : Nat} {x : Spv} {b o k : Nat} {y : Wtv} (h : CW W g x b o k y) (hb : Below W.heap.size W W') : CW W' g x b o k y :=
  ⟨h.box.below hb h.box.lt, (hb.cell (p := ⟨g, 2, none⟩) h.box.lt).trans h.c1, (hb.cell (p := ⟨b, o + k * 4 + 3, none⟩) h.bl).trans h.ct, Nat.lt_of_lt_of_le h.bl hb.size⟩
theorem cw_of {w W : World} {g : Nat} {x : Spv} (h : PL w W g x) {k : Nat} {y : Wtv} (hy : x.wts[k]? = some y) : ∃ b o, CW W g x b o k y := by
  obtain ⟨b, o, e, hl, r⟩ := h.w.wts k y hy
  refine ⟨b, o, h.box, ?_, r 3 _ rfl, hl⟩
  have := (sv_cells h.box).2.2.1
  rwa [e] at this
set_option maxRecDepth 100000 in
set_option maxHeartbeats 8000000 in
theorem smay_t (A : Option Addr) (n c : Nat) (F : Nat → Av) (w : World) (hn : n ≤ 9223372036854775807) (hA : AW w A n F) (hu : UT w) :
    Calls Tryd.prog 7 #[.slice A n c] w fun e w' => e = .returned (.bool true) ∧ Below w.heap.size w w' := by
  have HA := Lib.hid hA; have HU := Lib.hid hu
  clear hA hu
  go_enter Tryd.func7, Tryd.ntmps7
  go_wp2_with fail
  refine (New_t 15 15 w).mono ?_
  rintro e w2 ⟨rfl, b2⟩
  have B2 := Lib.hid b2
  have Z2 := Lib.hid (Blk.new w2 32 zSp)
  obtain ⟨x0, hx0⟩ : ∃ x, nsp 15 15 0 1 2 3 = x := ⟨_, rfl⟩
  have P0 : x0.sp = newS 15 15 := by rw [← hx0]; exact nsp_sp 15 15
  have hl0 : x0.last.length = 4 := by rw [← hx0]; rfl
  have PL0 := Lib.hid (show PL w ((w2.alloc (.cells zSp.toArray 32)).setRow w2.heap.size (sv x0).toArray) w2.heap.size x0 from
    ⟨(Blk.new w2 32 zSp).setRow (sv x0), by rw [← hx0]; exact sf_new _ _ _ _ _ _ _ _, by rw [P0]; exact Op15.new, B2.out.size, below_setRow (B2.out.alloc B2.out.size _) B2.out.size _⟩)
  have FX0 := Lib.hid (sv_size x0 hl0); have FO0 := Lib.hid (sv_one x0); have SL0 := Lib.hid (sv_len x0 hl0)
  rw [hx0]
  clear b2 B2 hx0 hl0
  go_upto_region 2 with ((with_reducible refine at_op (.store 32 (.tmp 3) (.tmp 7)) rfl ?_); go_must (refine store_blk 32 (.tmp 3) (.tmp 7) w2.heap.size 32 _ (sv x0) rfl rfl Z2.out SL0.out.symm FX0.out FO0.out rfl rfl ?_))
  change Code.wp _ _ _ _ ((w2.alloc (.cells zSp.toArray 32)).setRow w2.heap.size (sv x0).toArray)
  obtain ⟨V2, hV2⟩ : ∃ V, (w2.alloc (.cells zSp.toArray 32)).setRow w2.heap.size (sv x0).toArray = V := ⟨_, rfl⟩
  rw [hV2] at PL0 ⊢
  obtain ⟨g, hg⟩ : ∃ g, w2.heap.size = g := ⟨_, rfl⟩
  rw [hg] at PL0 ⊢
  have N0 := Lib.hid (show x0.sp.now ≤ 0 by rw [P0]; exact Int.le_refl _)
  have NW0 := Lib.hid (show NoW x0.sp by rw [P0]; exact newS_no 15 15)
  clear hV2 hg Z2 FX0 FO0 SL0 P0
  go_upto_region 4 with (fail)
  go_loopw [4, 5] (fun s t wr => ∃ (i : Nat) (now : Int) (x : Spv), i ≤ n ∧ (i : Int) ≤ 80 ∧ s = .int .i64 now ∧ t = .int .i64 (i : Int) ∧ x.sp.now ≤ now ∧ now ≤ 20 * (i : Int) ∧ 0 ≤ now ∧ PL w wr g x ∧ NoW x.sp) (fun _ t _ => n - (intOf t).toNat)
  case atStart => exact ⟨0, 0, x0, by omega, by omega, rfl, rfl, N0.out, by omega, by omega, PL0.out, NW0.out⟩
  case round =>
    clear PL0 N0 NW0
    obtain ⟨j, now, x, hj, hj80, rfl, rfl, hnow, hn20, hn0, px, nw⟩ := hrel
    have PX := Lib.hid px; have HNOW := Lib.hid hnow; have HN20 := Lib.hid hn20; have NWX := Lib.hid nw
    clear px hnow nw
    by_cases hlt : j < n
    · by_cases hm : (j : Int) < 80
      · obtain ⟨b, o, rfl, hbl, rg0, cd0⟩ := HA.out.read hlt
        have rg := rows_below rg0 PX.out.bel hbl
        have HBL := Lib.hid hbl
        have CD0 := Lib.hid cd0; have RG0 := Lib.hid rg0
        clear rg0 cd0
        have j1 : (j : Int) < (n : Int) := by omega
        have n1600 : now ≤ 1600 := by omega
        obtain ⟨y, hy⟩ : ∃ y, F j = y := ⟨_, rfl⟩
        have HRY := Lib.hid (show RvW w y.r by rw [← hy]; exact HA.out.r j hlt)
        rw [hy] at rg CD0 RG0
        have FR := Lib.hid (rv_size y.r)
        have RG := Lib.hid rg
        have FW := Lib.hid (fewR_t y.r wr (HRY.out.below PX.out.bel))
        obtain ⟨fb, hfb⟩ : ∃ b, fewR y.r = b := ⟨_, rfl⟩
        rw [hfb] at FW
        have HFB := Lib.hid hfb
        clear hy rg hbl hn20 hfb
        go_wp2_with ((with_reducible refine at_op (.load 38 (.tmp 21)) rfl ?_); go_must (refine wpList_load_mid rfl 38 (.tmp 21) rfl b (o + j * 7) rfl (rv y.r) _ RG.out Tryd.underlying38 rfl FR.out ?_))
        refine FW.out.mono ?_
        rintro e w3 ⟨rfl, b3⟩
        have P3 := Lib.hid (PX.out.below b3)
        clear b3 PX RG FW
        cases fb with
        | false =>
          have TD := Lib.hid (tolds_t w3 (HU.out.below P3.out.bel))
          go_wp2_with fail
          refine TD.out.mono ?_
          rintro e w4 ⟨rfl, b4⟩
          go_wp2_with fail
          go_ret
          exact ⟨rfl, P3.out.bel.trans (b4.mono P3.out.bel.size)⟩
        | true =>
          have HFY := Lib.hid (show y.r.r.n ≤ 1000 ∧ y.r.r.m ≤ 1000 by
            have h := HFB.out
            unfold fewR fewL at h
            simp only [Bool.and_eq_true, decide_eq_true_eq] at h
            omega)
          obtain ⟨k, hk, hke⟩ := mod_s 20 (by decide) (by decide) y.d
          rw [show ((20 : Nat) : Int) = 20 from rfl] at hke
          have k1 : (k : Int) < 20 := by omega
          have HK20 := Lib.hid (show now + (k : Int) ≤ 20 * ((j + 1 : Nat) : Int) ∧ (j : Int) + 1 ≤ 80 from ⟨by have := HN20.out; omega, by omega⟩)
          have cd := (P3.out.bel.cell (p := ⟨b, o + j * 7 + 6, none⟩) HBL.out).trans CD0.out
          clear hk CD0 HFB
          go_upto_region 9 with (fail)
          clear cd
          obtain ⟨now', hnw⟩ : ∃ z, now + (k : Int) = z := ⟨_, rfl⟩
          rw [hnw] at HK20 ⊢
          have HNW := Lib.hid (show x.sp.now ≤ now' ∧ 0 ≤ now' from ⟨by have := HNOW.out; omega, by omega⟩)
          have FXU := Lib.hid (sv_size x P3.out.sf.l4)
          obtain ⟨U, hU⟩ : ∃ U, w3.drew = U := ⟨_, rfl⟩
          have BU := Lib.hid (show Below w3.heap.size w3 U from by rw [← hU]; exact (Below.refl _ _).drew)
          have PU := Lib.hid (P3.out.below BU.out)
          have G1 : U.rangeAt b (o + j * 7) (rv y.r) := rows_below RG0.out PU.out.bel HBL.out
          have HBU := Lib.hid (show b < U.heap.size from Nat.lt_of_lt_of_le HBL.out PU.out.bel.size)
          have BX := Lib.hid PU.out.box
          have HBG := Lib.hid (show b ≠ g by have := PU.out.ge; have := HBL.out; omega)
          have DO_ := Lib.hid (DoM x now' y.r U PU.out.w PU.out.op.may (HRY.out.below PU.out.bel) HFY.out.1 HFY.out.2 (HU.out.below PU.out.bel) _ rfl)
          clear HNOW hnw P3 hke k1
          refine wp_region_E (fun Y => Y.rangeAt b (o + j * 7) (rv y.r)) (fun _ => false) (by kernel_rfl) ?_
          change wpAnyE _ _ _ _ _ _ _ _ _ w3.drew
          rw [hU]
          clear hU
          refine wpAnyE_take (i := 1) (v := ?_) rfl (by kernel_rfl) (by kernel_rfl) (by kernel_rfl) (by kernel_rfl) (fun _ _ _ h => h) (Or.inl ⟨by kernel_rfl, ?_⟩) G1 ?_
          rotate_left 1
          · (intro w hS; clear hS; go_simp; try (with_reducible rfl))
          refine wpAnyE_take (i := 2) (v := ?_) rfl (by kernel_rfl) (by kernel_rfl) (by kernel_rfl) (by kernel_rfl) (fun _ _ _ h => h) (Or.inl ⟨by kernel_rfl, ?_⟩) G1 ?_
          rotate_left 1
          · (intro w hS; clear hS; go_simp; try (with_reducible rfl))
          refine wpAnyE_take (i := 3) (v := ?_) rfl (by kernel_rfl) (by kernel_rfl) (by kernel_rfl) (by kernel_rfl) (fun _ _ _ h => h) (Or.inl ⟨by kernel_rfl, ?_⟩) G1 ?_
          rotate_left 1
          · (intro w hS; clear hS; go_simp; try (with_reducible rfl))
          refine wpAnyE_take (i := 4) (v := ?_) rfl (by kernel_rfl) (by kernel_rfl) (by kernel_rfl) (by kernel_rfl) (fun _ _ _ h => h) (Or.inl ⟨by kernel_rfl, ?_⟩) G1 ?_
          rotate_left 1
          · (intro w hS; clear hS; go_simp; try (with_reducible rfl))
          refine wpAnyE_take (i := 5) (v := ?_) rfl (by kernel_rfl) (by kernel_rfl) (by kernel_rfl) (by kernel_rfl) (fun _ _ _ h => h) (Or.inl ⟨by kernel_rfl, ?_⟩) G1 ?_
          rotate_left 1
          · (intro w hS; clear hS; go_simp; try (with_reducible rfl))
          refine wpAnyE_take (i := 6) (v := .agg (rv y.r).toArray) rfl (by kernel_rfl) (by kernel_rfl) (by kernel_rfl) (by kernel_rfl) (fun _ _ _ h => h) (yieldsIf_load_mid (by kernel_rfl) 38 (.tmp 42) rfl b (o + j * 7) (by go_simp) (rv y.r) _ (fun _ h => h) Tryd.underlying38 rfl (FR.out)) G1 ?_
          refine wpAnyE_load (i := 0) (by kernel_rfl) rfl (by kernel_rfl) 32 (.tmp 3) g 32 (sv x) _ rfl BX.out Tryd.underlying32 rfl FXU.out rfl (.inr G1) ?_
          refine wpAnyE_one (i := 7) (by kernel_rfl) rfl (by kernel_rfl) (fun K hK => ?_)
          go_simp
          refine DO_.out.mono ?_
          rintro e w4 ⟨x', R, q, c', rfl, p', -, s', -, m', -, -, -, b'⟩
          have hop : Op15 x'.sp := by rw [p']; exact PU.out.op.do now' y.r.r
          have hnow : x'.sp.now ≤ now' := by
            rw [p', (do_kept x.sp now' y.r.r).2.2.2]
            split
            · exact HNW.out.1
            · exact Int.le_refl _
          have hnw2 : NoW x'.sp := by rw [p']; exact (do_ok PU.out.op.may now' y.r.r).2 NWX.out
          have HL4 := Lib.hid (show x'.last.length = 4 from s'.l4)
          have FX2 := Lib.hid (sv_size x' HL4.out); have FO2 := Lib.hid (sv_one x'); have SL2 := Lib.hid (sv_len x' HL4.out); have SL1 := Lib.hid (sv_len x PU.out.sf.l4)
          have S2 := Lib.hid s'; have B2 := Lib.hid b'; have HOP := Lib.hid hop; have HNOW2 := Lib.hid hnow; have NW2 := Lib.hid hnw2
          have BX2 := Lib.hid (BX.out.below b' BX.out.lt)
          have G2 : w4.rangeAt b (o + j * 7) (rv y.r) := rows_below G1 b' HBU.out
          refine hK.out _ _ (.inr G2) ?_
          clear hK K s' b' hop hnow hnw2 p' m' DO_ G1 BX
          refine wpAnyE_take (i := 8) (v := ?_) rfl (by kernel_rfl) (by kernel_rfl) (by kernel_rfl) (by kernel_rfl) (fun _ _ _ h => h) (Or.inl ⟨by kernel_rfl, ?_⟩) G2 ?_
          rotate_left 1
          · (intro w hS; clear hS; go_simp; try (with_reducible rfl))
          refine wpAnyE_take (i := 9) (v := ?_) rfl (by kernel_rfl) (by kernel_rfl) (by kernel_rfl) (by kernel_rfl) (fun _ _ _ h => h) (Or.inl ⟨by kernel_rfl, ?_⟩) G2 ?_
          rotate_left 1
          · (intro w hS; clear hS; go_simp; try (with_reducible rfl))
          refine wpAnyE_take (i := 10) (v := ?_) rfl (by kernel_rfl) (by kernel_rfl) (by kernel_rfl) (by kernel_rfl) (fun _ _ _ h => h) (Or.inl ⟨by kernel_rfl, ?_⟩) G2 ?_
          rotate_left 1
          · (intro w hS; clear hS; go_simp; try (with_reducible rfl))
          refine wpAnyE_store (i := 11) (by kernel_rfl) rfl (by kernel_rfl) 32 (.tmp 3) (.tmp 45) g 32 (sv x) (sv x') rfl BX2.out (SL1.out.trans SL2.out.symm) FX2.out FO2.out rfl rfl fun wz rz KZ => ?_
          have RZ := Lib.hid rz
          have P5 := Lib.hid (PU.out.put S2.out HOP.out B2.out KZ RZ.out)
          have G3 : wz.rangeAt b (o + j * 7) (rv y.r) := fun i v hv => by
            exact (KZ.cell (p := ⟨b, o + j * 7 + i, none⟩) (Nat.lt_of_lt_of_le HBU.out B2.out.size) HBG.out).trans (G2 i v hv)
          refine ⟨.inr G3, ?_⟩
          clear G2 G3 KZ rz
          refine wpAnyE_done (by kernel_rfl) ?_ _
          go_simp
          clear PU BU HBU HBG S2 B2 RZ SL1 SL2 FO2 FXU BX2 FR HRY RG0 HBL HFY
          have MY := Lib.hid (SpMay_t x' wz P5.out.w)
          rw [mayS_iff.2 HOP.out.may] at MY
          have BX5 := Lib.hid P5.out.box
          go_wp2_with ((with_reducible refine load_blk 32 (.tmp 3) g 32 (sv x') _ rfl rfl ?_ Tryd.underlying32 ?_ ?_ ?_ ?_); exact BX5.out; exact rfl; exact FX2.out; exact rfl)
          refine MY.out.mono ?_
          rintro e w6 ⟨rfl, b6⟩
          have P6 := Lib.hid (P5.out.below b6)
          clear b6 P5 BX5 MY
          have c1 := (sv_cells P6.out.box).2.1
          have c2 := (sv_cells P6.out.box).2.2.1
          have l1 : ((x'.its.length : Nat) : Int) ≤ 64 := by have := HOP.out.may.il; have e : x'.its.length = x'.sp.its.length := its_len rfl; omega
          have l2 : ((x'.wts.length : Nat) : Int) ≤ 16 := by have := HOP.out.may.wl; have e : x'.wts.length = x'.sp.wts.length := wts_len rfl; omega
          go_upto_region 13 with (fail)
          clear c1 c2 l1
          have HM0 := Lib.hid l2
          clear l2
          go_loopw [6] (fun s wr2 => ∃ k : Nat, k ≤ x'.wts.length ∧ s = .int .i64 (k : Int) ∧ PL w wr2 g x') (fun s _ => x'.wts.length - (intOf s).toNat)
          case atStart => exact ⟨0, Nat.zero_le _, rfl, P6.out⟩
          case round =>
            clear P6
            obtain ⟨k, hk, rfl, px⟩ := hrel
            have PX := Lib.hid px
            clear px
            have c2 := (sv_cells PX.out.box).2.2.1
            have l2 : ((x'.wts.length : Nat) : Int) ≤ 16 := HM0.out
            by_cases hlk : k < x'.wts.length
            · have k1 : (k : Int) < (x'.wts.length : Int) := by omega
              obtain ⟨z, hz⟩ : ∃ z, x'.wts[k]? = some z := ⟨_, List.getElem?_eq_getElem hlk⟩
              have NF := Lib.hid (no_find NW2.out hz)
              have HTR := Lib.hid (PX.out.w.wt z (List.mem_of_getElem? hz))
              obtain ⟨b1, o1, cw⟩ := cw_of PX.out hz
              have CW0 := Lib.hid cw
              clear cw hz
              go_upto_region 15 with (fail)
              clear c2
              obtain ⟨U, hU⟩ : ∃ U, wr.drew = U := ⟨_, rfl⟩
              have BU := Lib.hid (show Below wr.heap.size wr U from by rw [← hU]; exact (Below.refl _ _).drew)
              have PU := Lib.hid (PX.out.below BU.out)
              have G1 : CW U g x' b1 o1 k z := CW0.out.below BU.out
              have FD := Lib.hid (Find_t x' z.p z.x.p.length z.c (gl z.x.p) U (HTR.out.below BU.out).n (HTR.out.below BU.out).t PU.out.w)
              rw [NF.out] at FD
              clear PX CW0 BU HTR NF
              refine wp_region_E (fun Y => CW Y g x' b1 o1 k z) (fun _ => false) (by kernel_rfl) ?_
              change wpAnyE _ _ _ _ _ _ _ _ _ wr.drew
              rw [hU]
              clear hU
              refine wpAnyE_take (i := 0) (v := .agg (sv x').toArray) rfl (by kernel_rfl) (by kernel_rfl) (by kernel_rfl) (by kernel_rfl) (fun _ _ _ h => h) (yieldsIf_load_mid (by kernel_rfl) 32 (.tmp 3) rfl g 0 (by go_simp) (sv x') _ (fun _ h => rows_of_blk h.box) Tryd.underlying32 rfl (FX2.out)) G1 ?_
              refine wpAnyE_take (i := 1) (v := ?_) rfl (by kernel_rfl) (by kernel_rfl) (by kernel_rfl) (by kernel_rfl) (fun _ _ _ h => h) (Or.inl ⟨by kernel_rfl, ?_⟩) G1 ?_
              rotate_left 1
              · (intro w hS; clear hS; go_simp; try (with_reducible rfl))
              refine wpAnyE_take (i := 2) (v := ?_) rfl (by kernel_rfl) (by kernel_rfl) (by kernel_rfl) (by kernel_rfl) (fun _ _ _ h => h) (Or.inl ⟨by kernel_rfl, ?_⟩) G1 ?_
              rotate_left 1
              · (intro w hS; have hs := hS.c1; clear hS; go_simp; try (with_reducible rfl))
              refine wpAnyE_take (i := 3) (v := ?_) rfl (by kernel_rfl) (by kernel_rfl) (by kernel_rfl) (by kernel_rfl) (fun _ _ _ h => h) (Or.inl ⟨by kernel_rfl, ?_⟩) G1 ?_
              rotate_left 1
              · (intro w hS; clear hS; go_simp; try (with_reducible rfl))
              refine wpAnyE_take (i := 4) (v := ?_) rfl (by kernel_rfl) (by kernel_rfl) (by kernel_rfl) (by kernel_rfl) (fun _ _ _ h => h) (Or.inl ⟨by kernel_rfl, ?_⟩) G1 ?_
              rotate_left 1
              · (intro w hS; clear hS; go_simp; try (with_reducible rfl))
              refine wpAnyE_take (i := 5) (v := ?_) rfl (by kernel_rfl) (by kernel_rfl) (by kernel_rfl) (by kernel_rfl) (fun _ _ _ h => h) (Or.inl ⟨by kernel_rfl, ?_⟩) G1 ?_
              rotate_left 1
              · (intro w hS; clear hS; go_simp; try (with_reducible rfl))
              refine wpAnyE_take (i := 6) (v := ?_) rfl (by kernel_rfl) (by kernel_rfl) (by kernel_rfl) (by kernel_rfl) (fun _ _ _ h => h) (Or.inl ⟨by kernel_rfl, ?_⟩) G1 ?_
              rotate_left 1
              · (intro w hS; have hs := hS.ct; clear hS; go_simp; try (with_reducible rfl))
              refine wpAnyE_one (i := 7) (by kernel_rfl) rfl (by kernel_rfl) (fun K hK => ?_)
              go_simp
              refine FD.out.mono ?_
              rintro e w8 ⟨rfl, b8⟩
              have P8 := Lib.hid (PU.out.below b8)
              have G2 : CW w8 g x' b1 o1 k z := G1.below b8
              refine hK.out _ _ (.inr G2) ?_
              clear hK K b8 G1 PU FD
              refine wpAnyE_take (i := 8) (v := ?_) rfl (by kernel_rfl) (by kernel_rfl) (by kernel_rfl) (by kernel_rfl) (fun _ _ _ h => h) (Or.inl ⟨by kernel_rfl, ?_⟩) G2 ?_
              rotate_left 1
              · (intro w hS; clear hS; go_simp; try (with_reducible rfl))
              refine wpAnyE_done (by kernel_rfl) ?_ _
              go_simp
              clear G2
              go_wp2_with fail
              exact ⟨⟨k + 1, hlk, by go_num, P8.out⟩, by simp [intOf]; omega⟩
            · obtain rfl : k = x'.wts.length := by omega
              clear hlk
              go_wp2_with fail
              exact ⟨⟨j + 1, now', x', hlt, by have := HK20.out.2; omega, rfl, by go_num, HNOW2.out, HK20.out.1, HNW.out.2, PX.out, NW2.out⟩, by simp [intOf]; omega⟩
      · have hmf : decide ((j : Int) < 80) = false := decide_eq_false hm
        have j1 : (j : Int) < (n : Int) := by omega
        have j2 : (80 : Int) ≤ (j : Int) := by omega
        clear hm
        have TD := Lib.hid (tolds_t wr (HU.out.below PX.out.bel))
        go_wp2_with fail
        refine TD.out.mono ?_
        rintro e w4 ⟨rfl, b4⟩
        go_wp2_with fail
        go_ret
        exact ⟨rfl, PX.out.bel.trans (b4.mono PX.out.bel.size)⟩
    · obtain rfl : j = n := by omega
      clear hlt
      have TD := Lib.hid (tolds_t wr (HU.out.below PX.out.bel))
      go_wp2_with fail
      refine TD.out.mono ?_
      rintro e w4 ⟨rfl, b4⟩
      go_wp2_with fail
      go_ret
      exact ⟨rfl, PX.out.bel.trans (b4.mono PX.out.bel.size)⟩
end Go.Proofs.YtfcmhpgopihidaaDoor
