/-
  SpaceTwice walked.
-/
import Derived.Test.YtfcmhpgopihidaaDoorSpDenied
import Derived.Test.YtfcmhpgopihidaaDoorSpSr
namespace Go.Proofs.YtfcmhpgopihidaaDoor
open Go Go.RowKit Sh

def zRq : Rv := ⟨⟨0, 0, 0, 0, 0, z0, 0, z0⟩, none, 0, none, 0⟩
theorem rv_oneA (x : Rv) : (rv x).toArray.all (·.oneCell') = true := by simp [rv, Value.oneCell']
def rqOld (r : Rv) : Rv := ⟨{ r.r with sq := r.r.sq - 1 }, r.p, r.c, r.t, r.d⟩
/-- Where SpaceTwice looks. -/
structure TS (W : World) (q go gA gB gC gn gy c4 : Nat) (xA xB xC : Spv) (yn yo zA : Rpv) (r : Rv) : Prop where
  c0 : W.cell? ⟨q, 0, none⟩ = some (.int .i64 (c4 : Int))
  co : W.cell? ⟨go, 1, none⟩ = some (.int .i64 (r.r.sq - 1))
  rn : RO W gn yn
  ro : RO W gy yo
  ka : KSp W gA xA
  kb : KSp W gB xB
  kc : KSp W gC xC
  hz : xA.last[c4]? = some zA
  ql : q < W.heap.size
  ol : go < W.heap.size
theorem TS.below {W W' : World} {q go gA gB gC gn gy c4 : Nat} {xA xB xC : Spv} {yn yo zA : Rpv} {r : Rv} (h : TS W q go gA gB gC gn gy c4 xA xB xC yn yo zA r) (hb : Below W.heap.size W W') : TS W' q go gA gB gC gn gy c4 xA xB xC yn yo zA r :=
  ⟨(hb.cell (p := ⟨q, 0, none⟩) h.ql).trans h.c0, (hb.cell (p := ⟨go, 1, none⟩) h.ol).trans h.co, h.rn.below hb, h.ro.below hb, h.ka.below hb, h.kb.below hb, h.kc.below hb, h.hz, Nat.lt_of_lt_of_le h.ql hb.size, Nat.lt_of_lt_of_le h.ol hb.size⟩
theorem TS.la {W : World} {q go gA gB gC gn gy c4 : Nat} {xA xB xC : Spv} {yn yo zA : Rpv} {r : Rv} (h : TS W q go gA gB gC gn gy c4 xA xB xC yn yo zA r) : W.rangeAt gA (5 + c4 * 5) (pv zA) := fun j v hv => cell_last h.ka.box h.hz j v hv
/-- Where its last region looks. -/
structure TE (W : World) (gA gE gn ge : Nat) (xA xE : Spv) (yn ye : Rpv) : Prop where
  ka : KSp W gA xA
  ke : KSp W gE xE
  rn : RO W gn yn
  re : RO W ge ye
theorem TE.below {W W' : World} {gA gE gn ge : Nat} {xA xE : Spv} {yn ye : Rpv} (h : TE W gA gE gn ge xA xE yn ye) (hb : Below W.heap.size W W') : TE W' gA gE gn ge xA xE yn ye := ⟨h.ka.below hb, h.ke.below hb, h.rn.below hb, h.re.below hb⟩
set_option maxRecDepth 100000 in
set_option maxHeartbeats 8000000 in
theorem stwice_t (A : Option Addr) (n c : Nat) (F : Nat → Av) (r : Rv) (later : Int) (w : World) (hn : n ≤ 9223372036854775807) (hA : AW w A n F) (hr : RvW w r) (hu : UT w) :
    Calls Tryd.prog 8 #[.slice A n c, .agg (rv r).toArray, .int .i64 later] w fun e w' => e = .returned (.bool true) ∧ Below w.heap.size w w' := by
  have HA := Lib.hid hA; have HU := Lib.hid hu; have HRV := Lib.hid hr
  have C0 := Lib.hid (show QC w (w.alloc (.cells (rv r).toArray 38)) w.heap.size r from by
    have bz : Below w.heap.size w (w.alloc (.cells (rv r).toArray 38)) := (Below.refl w.heap.size w).alloc (Nat.le_refl _) _
    exact ⟨Blk.new w _ _, hr.below bz, bz, Nat.le_refl _⟩)
  have FW := Lib.hid (fewR_t r _ C0.out.rx)
  have MR := Lib.hid (fun W (c : QC w W w.heap.size r) => refMay_r r W c.rx)
  have G0 := Lib.hid C0.out.box
  have FR := Lib.hid (rv_size r)
  obtain ⟨fb, hfb⟩ : ∃ b, fewR r = b := ⟨_, rfl⟩
  obtain ⟨mb, hmb⟩ : ∃ b, mayR r.r = b := ⟨_, rfl⟩
  rw [hfb] at FW
  rw [hmb] at MR
  have MB := Lib.hid hmb
  clear hA hu hr hmb hfb
  go_enter Tryd.func8, Tryd.ntmps8
  go_wp2_with ((with_reducible refine load_blk_gdO 20 38 (.tmp 4) w.heap.size 38 (rv r) _ ?_ ?_ rfl ?_ Tryd.underlying38 ?_ ?_ ?_ ?_); exact rfl; kernel_rfl; exact G0.out; exact rfl; exact rv_size r; exact rfl)
  refine FW.out.mono ?_
  rintro e w1 ⟨rfl, b1⟩
  have C1 := Lib.hid (C0.out.below b1)
  have G1 := Lib.hid C1.out.box
  clear b1 FW C0 G0
  cases fb with
  | false =>
    have TD := Lib.hid (tolds_t w1 (HU.out.below C1.out.bel))
    go_wp2_with fail
    refine TD.out.mono ?_
    rintro e w9 ⟨rfl, b9⟩
    go_wp2_with fail
    go_ret
    exact ⟨rfl, (C1.out.bel).trans (b9.mono (C1.out.bel).size)⟩
  | true =>
  go_wp2_with ((with_reducible refine load_blk_gdO 24 38 (.tmp 4) w.heap.size 38 (rv r) _ ?_ ?_ rfl ?_ Tryd.underlying38 ?_ ?_ ?_ ?_); exact rfl; kernel_rfl; exact G1.out; exact rfl; exact rv_size r; exact rfl)
  refine (MR.out w1 C1.out).mono ?_
  rintro e w2 ⟨rfl, b2⟩
  have C2 := Lib.hid (C1.out.below b2)
  clear b2 MR C1 G1
  cases mb with
  | false =>
    have TD := Lib.hid (tolds_t w2 (HU.out.below C2.out.bel))
    go_wp2_with fail
    refine TD.out.mono ?_
    rintro e w9 ⟨rfl, b9⟩
    go_wp2_with fail
    go_ret
    exact ⟨rfl, (C2.out.bel).trans (b9.mono (C2.out.bel).size)⟩
  | true =>
    go_upto_region 4 with (fail)
    go_loopw [7] (fun s wr => ∃ i : Nat, i ≤ n ∧ (i : Int) ≤ 40 ∧ s = .int .i64 (i : Int) ∧ QC w wr w.heap.size r ∧ ∀ j, j < i → (F j).r.r.n ≤ 1000 ∧ (F j).r.r.m ≤ 1000) (fun s _ => n - (intOf s).toNat)
    case atStart => exact ⟨0, Nat.zero_le _, by omega, rfl, C2.out, fun j hj => absurd hj (by omega)⟩
    case round =>
      clear C2
      obtain ⟨j, hj, hj40, rfl, qc, hf⟩ := hrel
      have QX := Lib.hid qc; have HF := Lib.hid hf
      clear qc hf
      by_cases hx : j < n ∧ (j : Int) < 40
      · obtain ⟨hlt, hm⟩ := hx
        obtain ⟨b, o, rfl, hbl, rg0, _⟩ := HA.out.read hlt
        have rg := rows_below rg0 QX.out.bel hbl
        have j1 : (j : Int) < (n : Int) := by omega
        obtain ⟨y, hy⟩ : ∃ y, F j = y := ⟨_, rfl⟩
        have HRY := Lib.hid (show RvW w y.r by rw [← hy]; exact HA.out.r j hlt)
        have HFY := Lib.hid (fun h => show ∀ i, i < j + 1 → (F i).r.r.n ≤ 1000 ∧ (F i).r.r.m ≤ 1000 from fun i hi => by
          by_cases e : i = j
          · subst e; rw [hy]; exact few_small h
          · exact HF.out i (by omega))
        rw [hy] at rg
        have FY := Lib.hid (rv_size y.r)
        have RG := Lib.hid rg
        have FW := Lib.hid (fewR_t y.r wr (HRY.out.below QX.out.bel))
        obtain ⟨fb, hfb⟩ : ∃ b, fewR y.r = b := ⟨_, rfl⟩
        rw [hfb] at FW HFY
        clear hy rg hbl hfb rg0 HF
        go_wp2_with ((with_reducible refine at_op (.load 38 (.tmp 42)) rfl ?_); go_must (refine wpList_load_mid rfl 38 (.tmp 42) rfl b (o + j * 7) rfl (rv y.r) _ RG.out Tryd.underlying38 rfl FY.out ?_))
        refine FW.out.mono ?_
        rintro e w3 ⟨rfl, b3⟩
        have Q3 := Lib.hid (QX.out.below b3)
        clear b3 QX RG FW
        cases fb with
        | false =>
          have TD := Lib.hid (tolds_t w3 (HU.out.below Q3.out.bel))
          go_wp2_with fail
          refine TD.out.mono ?_
          rintro e w4 ⟨rfl, b4⟩
          go_wp2_with fail
          go_ret
          exact ⟨rfl, Q3.out.bel.trans (b4.mono Q3.out.bel.size)⟩
        | true =>
          have HF2 := Lib.hid (HFY.out rfl)
          go_wp2_with fail
          exact ⟨⟨j + 1, hlt, by omega, by go_num, Q3.out, HF2.out⟩, by simp [intOf]; omega⟩
      · have HF2 := Lib.hid (show ∀ i : Nat, i < n → (i : Int) < 40 → (F i).r.r.n ≤ 1000 ∧ (F i).r.r.m ≤ 1000 from fun i h h' => HF.out i (by omega))
        clear HF
        go_upto_region 4 with (fail)
        go_cut [36] (fun s wx => s = .bool false ∧ wx = wr)
        case first =>
          by_cases hlt : j < n
          · have hmf : decide ((j : Int) < 40) = false := decide_eq_false (fun h => hx ⟨hlt, h⟩)
            have j1 : (j : Int) < (n : Int) := by omega
            clear hx hlt
            go_wp2_with fail
            go_meet
            exact ⟨rfl, rfl⟩
          · obtain rfl : n = j := by omega
            clear hx hlt
            go_wp2_with fail
            go_meet
            exact ⟨rfl, rfl⟩
        case rest =>
          obtain ⟨rfl, hW⟩ := hcut
          subst hW
          clear hx
          have PY := Lib.hid (play_t A n c F 40 wc hn (HA.out.below QX.out.bel) HF2.out (by decide) (HU.out.below QX.out.bel))
          go_wp2_with fail
          refine PY.out.mono ?_
          rintro e w5 ⟨x, now, rfl, op, hnow, h800, wx, b5⟩
          have Q5 := Lib.hid (QX.out.below b5); have OP := Lib.hid op; have WX := Lib.hid wx
          have HNOW := Lib.hid (And.intro hnow h800)
          clear b5 PY QX HF2 op hnow h800
          have FX_x := Lib.hid (sv_size x wx.l4); have FO_x := Lib.hid (sv_one x); have SL_x := Lib.hid (sv_len x wx.l4)
          have Z_x := Lib.hid (Blk.new w5 32 [.int .i64 0, .slice none 0 0, .slice none 0 0, .int .i64 0, .int .i64 0, .int .i64 0, .int .i64 0, .int .i64 0, .slice none 0 0, .bool false, .int .i64 0, .int .i64 0, .int .i64 0, .slice none 0 0, .bool false, .int .i64 0, .int .i64 0, .int .i64 0, .slice none 0 0, .bool false, .int .i64 0, .int .i64 0, .int .i64 0, .slice none 0 0, .bool false])
          have KN_x := Lib.hid (KSp.new (w1 := w5) (x := x) wx)
          go_upto_region 9 with ((with_reducible refine at_op (.store 32 (.tmp 8) (.tmp 50)) rfl ?_); go_must (refine store_blk 32 (.tmp 8) (.tmp 50) (w5).heap.size 32 _ (sv x) rfl rfl Z_x.out SL_x.out.symm FX_x.out FO_x.out rfl rfl ?_))
          obtain ⟨V5, hV5⟩ : ∃ V, ((w5).alloc (.cells #[.int .i64 0, .slice none 0 0, .slice none 0 0, .int .i64 0, .int .i64 0, .int .i64 0, .int .i64 0, .int .i64 0, .slice none 0 0, .bool false, .int .i64 0, .int .i64 0, .int .i64 0, .slice none 0 0, .bool false, .int .i64 0, .int .i64 0, .int .i64 0, .slice none 0 0, .bool false, .int .i64 0, .int .i64 0, .int .i64 0, .slice none 0 0, .bool false] 32)).setRow (w5).heap.size (sv x).toArray = V := ⟨_, rfl⟩
          rw [hV5] at KN_x ⊢
          have K_x := Lib.hid KN_x.out.1
          have B_x := Lib.hid KN_x.out.2
          clear hV5 KN_x Z_x FO_x SL_x
          obtain ⟨g, hg⟩ : ∃ g, (w5).heap.size = g := ⟨_, rfl⟩
          rw [hg] at K_x ⊢
          clear hg
          clear wx
          have Q6 := Lib.hid (Q5.out.below B_x.out)
          clear Q5 B_x
          obtain ⟨c4, hc4, hlt4⟩ : ∃ k : Nat, r.r.cl = (k : Int) ∧ k < 4 := by
            have h := clB_q (mayR_q MB.out).cl
            exact ⟨r.r.cl.toNat, h.1.symm, h.2⟩
          obtain ⟨z, hz⟩ : ∃ z, x.last[c4]? = some z := ⟨_, List.getElem?_eq_getElem (by have := WX.out.l4; omega)⟩
          have HZ := Lib.hid hz; have HC4 := Lib.hid hc4
          have d0 := (rv_cells Q6.out.box).1
          have d1 := (rv_cells Q6.out.box).2.1
          rw [hc4] at d0
          have e1 := cell_last K_x.out.box hz 1 _ rfl
          have k4 : (c4 : Int) < 4 := by omega
          clear hz hc4 hlt4
          by_cases hsq : z.r.sq < r.r.sq ∧ 2 ≤ r.r.sq
          · obtain ⟨hs1, hs2⟩ := hsq
            have hsf : decide (r.r.sq ≤ z.r.sq) = false := decide_eq_false (by omega)
            have hs3 : decide (r.r.sq < 2) = false := decide_eq_false (by omega)
            go_quiet (fail)
            have HSQ := Lib.hid (And.intro hs1 hs2)
            obtain ⟨U, hU⟩ : ∃ U, V5.drewN nq = U := ⟨_, rfl⟩
            have BU : Below V5.heap.size V5 U := by rw [← hU]; exact below_drewN' (Below.refl _ _) nq
            rw [hU]
            have Q7 := Lib.hid (Q6.out.below BU); have K7 := Lib.hid (K_x.out.below BU)
            clear hU BU d0 d1 e1 hs1 hs2 hsf hs3 Q6 K_x
            have LQ := Lib.hid (show (lastOf x.sp r.r.cl).sq < r.r.sq by rw [HC4.out, last_of HZ.out]; exact HSQ.out.1)
            have TW := Lib.hid (twice (now := now) OP.out.may OP.out.l4 MB.out HNOW.out.1 (by have := HNOW.out.2; omega) LQ.out)
            have MSM := Lib.hid (may_small MB.out)
            have DA := Lib.hid (DoM x now r U K7.out.w OP.out.may Q7.out.rx MSM.out.1 MSM.out.2 (HU.out.below Q7.out.bel) _ rfl)
            have BX := Lib.hid K7.out.box; have G7 := Lib.hid Q7.out.box
            go_wp2_with (first
              | ((with_reducible refine load_blk 32 (.tmp 8) g 32 (sv x) _ rfl rfl ?_ Tryd.underlying32 ?_ ?_ ?_ ?_); exact BX.out; exact rfl; exact FX_x.out; exact rfl)
              | ((with_reducible refine load_blk 38 (.tmp 4) w.heap.size 38 (rv r) _ rfl rfl ?_ Tryd.underlying38 ?_ ?_ ?_ ?_); exact G7.out; exact rfl; exact FR.out; exact rfl))
            refine DA.out.mono ?_
            rintro e w6 ⟨xA, RA, qA, cA, rfl, pA, rA, sA, wA, mA, oA, tA_, -, bA⟩
            obtain ⟨y0, l0, hyl⟩ := TW.out.1
            have HRA := Lib.hid (show 0 < RA.length by
              have := congrArg List.length (rA.trans hyl)
              simp at this
              omega)
            have PA := Lib.hid pA; have Q8 := Lib.hid (Q7.out.below bA)
            have MA := Lib.hid (show MayS xA.sp by rw [pA]; exact TW.out.2.1)
            have L4A := Lib.hid (show xA.sp.last.length = 4 by rw [pA]; exact TW.out.2.2.1)
            have NA := Lib.hid (show xA.sp.now = now by rw [pA]; exact TW.out.2.2.2.1)
            have SQA := Lib.hid (show (lastOf xA.sp r.r.cl).sq = r.r.sq by rw [pA]; exact TW.out.2.2.2.2)
            clear sA oA tA_ rA DA bA pA mA hyl BX G7 K7 FX_x Q7 TW LQ
            have FX_xA := Lib.hid (sv_size xA wA.l4); have FO_xA := Lib.hid (sv_one xA); have SL_xA := Lib.hid (sv_len xA wA.l4)
            have Z_xA := Lib.hid (Blk.new w6 32 [.int .i64 0, .slice none 0 0, .slice none 0 0, .int .i64 0, .int .i64 0, .int .i64 0, .int .i64 0, .int .i64 0, .slice none 0 0, .bool false, .int .i64 0, .int .i64 0, .int .i64 0, .slice none 0 0, .bool false, .int .i64 0, .int .i64 0, .int .i64 0, .slice none 0 0, .bool false, .int .i64 0, .int .i64 0, .int .i64 0, .slice none 0 0, .bool false])
            have KN_xA := Lib.hid (KSp.new (w1 := w6) (x := xA) wA)
            go_upto_region 12 with ((with_reducible refine at_op (.store 32 (.tmp 10) (.tmp 72)) rfl ?_); go_must (refine store_blk 32 (.tmp 10) (.tmp 72) (w6).heap.size 32 _ (sv xA) rfl rfl Z_xA.out SL_xA.out.symm FX_xA.out FO_xA.out rfl rfl ?_))
            obtain ⟨V6, hV6⟩ : ∃ V, ((w6).alloc (.cells #[.int .i64 0, .slice none 0 0, .slice none 0 0, .int .i64 0, .int .i64 0, .int .i64 0, .int .i64 0, .int .i64 0, .slice none 0 0, .bool false, .int .i64 0, .int .i64 0, .int .i64 0, .slice none 0 0, .bool false, .int .i64 0, .int .i64 0, .int .i64 0, .slice none 0 0, .bool false, .int .i64 0, .int .i64 0, .int .i64 0, .slice none 0 0, .bool false] 32)).setRow (w6).heap.size (sv xA).toArray = V := ⟨_, rfl⟩
            rw [hV6] at KN_xA ⊢
            have K_xA := Lib.hid KN_xA.out.1
            have B_xA := Lib.hid KN_xA.out.2
            clear hV6 KN_xA Z_xA FO_xA SL_xA
            obtain ⟨gA, hgA⟩ : ∃ g, (w6).heap.size = g := ⟨_, rfl⟩
            rw [hgA] at K_xA ⊢
            clear hgA
            have Q9 := Lib.hid (Q8.out.below B_xA.out)
            clear Q8 B_xA wA
            obtain ⟨zA, hzA⟩ : ∃ z, xA.last[c4]? = some z := ⟨_, List.getElem?_eq_getElem (by have := K_xA.out.w.l4; omega)⟩
            have HZA := Lib.hid hzA
            have LA := Lib.hid (show lastOf xA.sp r.r.cl = zA.r by rw [HC4.out]; exact last_of hzA)
            have AG := Lib.hid (again (now := now) MA.out MB.out SQA.out (Int.le_of_eq NA.out) (by have := HNOW.out.2; omega))
            rw [show goOnP xA.sp now = xA.sp by rw [← NA.out]; exact goOn_same MA.out, LA.out] at AG
            have DB := Lib.hid (DoM xA now r V6 K_xA.out.w MA.out Q9.out.rx MSM.out.1 MSM.out.2 (HU.out.below Q9.out.bel) _ AG.out)
            have BX := Lib.hid K_xA.out.box; have G7 := Lib.hid Q9.out.box
            clear hzA
            go_wp2_with (first
              | ((with_reducible refine load_blk 32 (.tmp 10) gA 32 (sv xA) _ rfl rfl ?_ Tryd.underlying32 ?_ ?_ ?_ ?_); exact BX.out; exact rfl; exact FX_xA.out; exact rfl)
              | ((with_reducible refine load_blk 38 (.tmp 4) w.heap.size 38 (rv r) _ rfl rfl ?_ Tryd.underlying38 ?_ ?_ ?_ ?_); exact G7.out; exact rfl; exact FR.out; exact rfl))
            refine DB.out.mono ?_
            rintro e w7 ⟨xB, RB, qB, cB, rfl, pB, rB, sB, wB, mB, oB, tB_, -, bB⟩
            obtain ⟨yn, gn, rfl, hyn, rfl, ron⟩ := rep_one oB rB
            have PB := Lib.hid pB; have Q10 := Lib.hid (Q9.out.below bB); have KA := Lib.hid (K_xA.out.below bB)
            have RON := Lib.hid ron; have HYN := Lib.hid hyn; have FTN := Lib.hid (tB_ yn (List.mem_singleton.2 rfl))
            clear sB oB tB_ rB DB bB pB mB ron hyn BX G7 K_xA Q9 AG
            have FX_xB := Lib.hid (sv_size xB wB.l4); have FO_xB := Lib.hid (sv_one xB); have SL_xB := Lib.hid (sv_len xB wB.l4)
            have Z_xB := Lib.hid (Blk.new w7 32 [.int .i64 0, .slice none 0 0, .slice none 0 0, .int .i64 0, .int .i64 0, .int .i64 0, .int .i64 0, .int .i64 0, .slice none 0 0, .bool false, .int .i64 0, .int .i64 0, .int .i64 0, .slice none 0 0, .bool false, .int .i64 0, .int .i64 0, .int .i64 0, .slice none 0 0, .bool false, .int .i64 0, .int .i64 0, .int .i64 0, .slice none 0 0, .bool false])
            have KN_xB := Lib.hid (KSp.new (w1 := w7) (x := xB) wB)
            go_upto_region 13 with ((with_reducible refine at_op (.store 32 (.tmp 12) (.tmp 79)) rfl ?_); go_must (refine store_blk 32 (.tmp 12) (.tmp 79) (w7).heap.size 32 _ (sv xB) rfl rfl Z_xB.out SL_xB.out.symm FX_xB.out FO_xB.out rfl rfl ?_))
            obtain ⟨V7, hV7⟩ : ∃ V, ((w7).alloc (.cells #[.int .i64 0, .slice none 0 0, .slice none 0 0, .int .i64 0, .int .i64 0, .int .i64 0, .int .i64 0, .int .i64 0, .slice none 0 0, .bool false, .int .i64 0, .int .i64 0, .int .i64 0, .slice none 0 0, .bool false, .int .i64 0, .int .i64 0, .int .i64 0, .slice none 0 0, .bool false, .int .i64 0, .int .i64 0, .int .i64 0, .slice none 0 0, .bool false] 32)).setRow (w7).heap.size (sv xB).toArray = V := ⟨_, rfl⟩
            rw [hV7] at KN_xB ⊢
            have K_xB := Lib.hid KN_xB.out.1
            have B_xB := Lib.hid KN_xB.out.2
            clear hV7 KN_xB Z_xB FO_xB SL_xB
            obtain ⟨gB, hgB⟩ : ∃ g, (w7).heap.size = g := ⟨_, rfl⟩
            rw [hgB] at K_xB ⊢
            clear hgB
            have Q11 := Lib.hid (Q10.out.below B_xB.out); have KA2 := Lib.hid (KA.out.below B_xB.out); have RON2 := Lib.hid (RON.out.below B_xB.out); have FTN2 := Lib.hid (FTN.out.below B_xB.out)
            clear Q10 KA RON FTN B_xB wB
            have Z14 := Lib.hid (Blk.new V7 38 (rv ⟨⟨0, 0, 0, 0, 0, z0, 0, z0⟩, none, 0, none, 0⟩))
            have G7 := Lib.hid Q11.out.box; have FRO := Lib.hid (rv_size r)
            have FO14 := Lib.hid (rv_oneA r)
            clear Z14 FRO
            have Z14 := Lib.hid (Blk.new V7 38 (rv zRq))
            go_upto_region 14 with (first
              | ((with_reducible refine load_blk 38 (.tmp 4) w.heap.size 38 (rv r) _ rfl rfl ?_ Tryd.underlying38 ?_ ?_ ?_ ?_); exact G7.out; exact rfl; exact FR.out; exact rfl)
              | ((with_reducible refine at_op (.store 38 (.tmp 14) (.tmp 81)) rfl ?_); go_must (refine store_blk 38 (.tmp 14) (.tmp 81) V7.heap.size 38 (rv zRq) (rv r) rfl rfl Z14.out rfl FR.out FO14.out rfl rfl ?_)))
            have BA := Lib.hid (show Below V7.heap.size V7 ((V7.alloc (.cells (rv zRq).toArray 38)).setRow V7.heap.size (rv r).toArray) from below_setRow ((Below.refl _ _).alloc (Nat.le_refl _) _) (Nat.le_refl _) _)
            have QO := Lib.hid (Z14.out.setRow (rv r))
            change Code.wp _ _ _ _ ((V7.alloc (.cells (rv zRq).toArray 38)).setRow V7.heap.size (rv r).toArray)
            obtain ⟨V8, hV8⟩ : ∃ V, (V7.alloc (.cells (rv zRq).toArray 38)).setRow V7.heap.size (rv r).toArray = V := ⟨_, rfl⟩
            have G14 := Lib.hid (show V7.heap.size ≤ V7.heap.size from Nat.le_refl _)
            obtain ⟨go, hgo⟩ : ∃ g, V7.heap.size = g := ⟨_, rfl⟩
            rw [hV8] at BA QO ⊢
            rw [hgo] at QO ⊢
            have HGO := Lib.hid hgo
            clear hV8 hgo Z14 G14
            have Q12 := Lib.hid (Q11.out.below BA.out)
            have d1 := (rv_cells Q12.out.box).2.1
            have q1 := (rv_cells QO.out).2.1
            have fq := QO.out.frozen 1
            have s1 : 2 ≤ r.r.sq := HSQ.out.2
            have s2 : r.r.sq ≤ 1073741824 := (mayR_q MB.out).s2
            go_upto_region 15 with (fail)
            clear d1 q1 fq s1 s2 Q12
            have QP := Lib.hid (show Blk (V8.setCell ⟨go, 1, none⟩ (.int .i64 (r.r.sq - 1))) go 38 (rv (rqOld r)) from QO.out.store 1 (.int .i64 (r.r.sq - 1)))
            have BB := Lib.hid (show Below V7.heap.size V7 (V8.setCell ⟨go, 1, none⟩ (.int .i64 (r.r.sq - 1))) from BA.out.setCell (p := ⟨go, 1, none⟩) (Nat.le_of_eq HGO.out) _)
            obtain ⟨V9, hV9⟩ : ∃ V, V8.setCell ⟨go, 1, none⟩ (.int .i64 (r.r.sq - 1)) = V := ⟨_, rfl⟩
            rw [hV9] at QP BB ⊢
            clear hV9 BA QO
            have Q13 := Lib.hid (Q11.out.below BB.out); have KA3 := Lib.hid (KA2.out.below BB.out); have KB3 := Lib.hid (K_xB.out.below BB.out); have RON3 := Lib.hid (RON2.out.below BB.out); have FTN3 := Lib.hid (FTN2.out.below BB.out)
            clear Q11 KA2 K_xB RON2 FTN2 BB
            have OL := Lib.hid (older MA.out MB.out HSQ.out.2 SQA.out)
            rw [NA.out] at OL
            have MSO := Lib.hid (may_small (mayR_old MB.out HSQ.out.2))
            have DC := Lib.hid (DoM xB now (rqOld r) V9 KB3.out.w (by rw [PB.out]; exact MA.out) ⟨Q13.out.rx.p, Q13.out.rx.t, Q13.out.rx.n, Q13.out.rx.m⟩ MSO.out.1 MSO.out.2 (HU.out.below Q13.out.bel) (xA.sp, [tellP (qp (oldR r.r)) 7]) ((congrArg (fun s => doP s now (oldR r.r)) PB.out).trans OL.out))
            have BX := Lib.hid KB3.out.box; have FRO := Lib.hid (rv_size (rqOld r))
            go_wp2_with (first
              | ((with_reducible refine load_blk 32 (.tmp 12) gB 32 (sv xB) _ rfl rfl ?_ Tryd.underlying32 ?_ ?_ ?_ ?_); exact BX.out; exact rfl; exact FX_xB.out; exact rfl)
              | ((with_reducible refine load_blk 38 (.tmp 14) go 38 (rv (rqOld r)) _ rfl rfl ?_ Tryd.underlying38 ?_ ?_ ?_ ?_); exact QP.out; exact rfl; exact FRO.out; exact rfl))
            refine DC.out.mono ?_
            rintro e w9 ⟨xC, RC, qC, cC, rfl, pC, rC, sC, wC, mC, oC, tC_, -, bC⟩
            obtain ⟨yo, gy, rfl, hyo, rfl, roo⟩ := rep_one oC rC
            have PC := Lib.hid pC; have Q14 := Lib.hid (Q13.out.below bC); have KA4 := Lib.hid (KA3.out.below bC); have KB4 := Lib.hid (KB3.out.below bC); have RON4 := Lib.hid (RON3.out.below bC); have FTN4 := Lib.hid (FTN3.out.below bC); have QP4 := Lib.hid (QP.out.below bC QP.out.lt)
            have ROO := Lib.hid roo; have HYO := Lib.hid hyo
            clear sC oC tC_ rC DC bC pC mC roo hyo BX Q13 KA3 KB3 RON3 FTN3 QP OL MSO
            have FX_xC := Lib.hid (sv_size xC wC.l4); have FO_xC := Lib.hid (sv_one xC); have SL_xC := Lib.hid (sv_len xC wC.l4)
            have Z_xC := Lib.hid (Blk.new w9 32 [.int .i64 0, .slice none 0 0, .slice none 0 0, .int .i64 0, .int .i64 0, .int .i64 0, .int .i64 0, .int .i64 0, .slice none 0 0, .bool false, .int .i64 0, .int .i64 0, .int .i64 0, .slice none 0 0, .bool false, .int .i64 0, .int .i64 0, .int .i64 0, .slice none 0 0, .bool false, .int .i64 0, .int .i64 0, .int .i64 0, .slice none 0 0, .bool false])
            have KN_xC := Lib.hid (KSp.new (w1 := w9) (x := xC) wC)
            go_upto_region 16 with ((with_reducible refine at_op (.store 32 (.tmp 15) (.tmp 91)) rfl ?_); go_must (refine store_blk 32 (.tmp 15) (.tmp 91) (w9).heap.size 32 _ (sv xC) rfl rfl Z_xC.out SL_xC.out.symm FX_xC.out FO_xC.out rfl rfl ?_))
            obtain ⟨V10, hV10⟩ : ∃ V, ((w9).alloc (.cells #[.int .i64 0, .slice none 0 0, .slice none 0 0, .int .i64 0, .int .i64 0, .int .i64 0, .int .i64 0, .int .i64 0, .slice none 0 0, .bool false, .int .i64 0, .int .i64 0, .int .i64 0, .slice none 0 0, .bool false, .int .i64 0, .int .i64 0, .int .i64 0, .slice none 0 0, .bool false, .int .i64 0, .int .i64 0, .int .i64 0, .slice none 0 0, .bool false] 32)).setRow (w9).heap.size (sv xC).toArray = V := ⟨_, rfl⟩
            rw [hV10] at KN_xC ⊢
            have K_xC := Lib.hid KN_xC.out.1
            have B_xC := Lib.hid KN_xC.out.2
            clear hV10 KN_xC Z_xC FO_xC SL_xC
            obtain ⟨gC, hgC⟩ : ∃ g, (w9).heap.size = g := ⟨_, rfl⟩
            rw [hgC] at K_xC ⊢
            clear hgC
            have Q15 := Lib.hid (Q14.out.below B_xC.out); have KA5 := Lib.hid (KA4.out.below B_xC.out); have KB5 := Lib.hid (KB4.out.below B_xC.out); have RON5 := Lib.hid (RON4.out.below B_xC.out); have FTN5 := Lib.hid (FTN4.out.below B_xC.out); have ROO5 := Lib.hid (ROO.out.below B_xC.out); have QP5 := Lib.hid (QP4.out.below B_xC.out QP4.out.lt)
            clear Q14 KA4 KB4 RON4 FTN4 ROO QP4 B_xC wC
            obtain ⟨U, hU⟩ : ∃ U, V10.drew = U := ⟨_, rfl⟩
            have BU := Lib.hid (show Below V10.heap.size V10 U from by rw [← hU]; exact (Below.refl _ _).drew)
            have T1 : TS U w.heap.size go gA gB gC gn gy c4 xA xB xC yn yo zA r := TS.below ⟨by have := (rv_cells Q15.out.box).1; rwa [HC4.out] at this, (rv_cells QP5.out).2.1, RON5.out, ROO5.out, KA5.out, KB5.out, K_xC.out, HZA.out, Q15.out.box.lt, QP5.out.lt⟩ BU.out
            have QU := Lib.hid (Q15.out.below BU.out); have FTU := Lib.hid (FTN5.out.below BU.out)
            have HY7 : yo.r.kd = 7 := by rw [HYO.out]; rfl
            have HY8 : yo.r.sq = r.r.sq - 1 := by rw [HYO.out]; rfl
            have l0 : 0 < RA.length := HRA.out
            have l1 : (1 : Int) ≤ (RA.length : Int) := by omega
            have l2 : decide ((RA.length : Int) < 1) = false := decide_eq_false (by omega)
            have FPn := Lib.hid (pv_size yn); have FPz := Lib.hid (pv_size zA)
            have TRN := Lib.hid (show TR U yn.p yn.r.t from by
              have h := HYN.out
              exact FTU.out.tr (by rw [h]; exact (T1.ka.w.la zA (List.mem_of_getElem? T1.hz)).n))
            have SR := Lib.hid (refSameReply_eq yn zA U TRN.out (T1.ka.w.la zA (List.mem_of_getElem? T1.hz)) HYN.out.symm)
            clear Q15 KA5 KB5 RON5 FTN5 ROO5 QP5 K_xC BU
            go_upto_region 16 with (fail)
            refine wp_region_E (fun Y => TS Y w.heap.size go gA gB gC gn gy c4 xA xB xC yn yo zA r) (fun _ => false) (by kernel_rfl) ?_
            change wpAnyE _ _ _ _ _ _ _ _ _ V10.drew
            rw [hU]
            clear hU
            refine wpAnyE_take (i := 0) (v := ?_) rfl (by kernel_rfl) (by kernel_rfl) (by kernel_rfl) (by kernel_rfl) (fun _ _ _ h => h) (Or.inl ⟨by kernel_rfl, ?_⟩) T1 ?_
            rotate_left 1
            · (intro w hS; clear hS; go_simp; try (with_reducible rfl))
            refine wpAnyE_take (i := 1) (v := ?_) rfl (by kernel_rfl) (by kernel_rfl) (by kernel_rfl) (by kernel_rfl) (fun _ _ _ h => h) (Or.inl ⟨by kernel_rfl, ?_⟩) T1 ?_
            rotate_left 1
            · (intro w hS; clear hS; go_simp; try (with_reducible rfl))
            refine wpAnyE_take (i := 2) (v := ?_) rfl (by kernel_rfl) (by kernel_rfl) (by kernel_rfl) (by kernel_rfl) (fun _ _ _ h => h) (Or.inl ⟨by kernel_rfl, ?_⟩) T1 ?_
            rotate_left 1
            · (intro w hS; clear hS; go_simp; try (with_reducible rfl))
            refine wpAnyE_take (i := 3) (v := ?_) rfl (by kernel_rfl) (by kernel_rfl) (by kernel_rfl) (by kernel_rfl) (fun _ _ _ h => h) (Or.inl ⟨by kernel_rfl, ?_⟩) T1 ?_
            rotate_left 1
            · (intro w hS; clear hS; go_simp; try (with_reducible rfl))
            refine wpAnyE_take (i := 4) (v := ?_) rfl (by kernel_rfl) (by kernel_rfl) (by kernel_rfl) (by kernel_rfl) (fun _ _ _ h => h) (Or.inl ⟨by kernel_rfl, ?_⟩) T1 ?_
            rotate_left 1
            · (intro w hS; clear hS; go_simp; try (with_reducible rfl))
            refine wpAnyE_take (i := 5) (v := ?_) rfl (by kernel_rfl) (by kernel_rfl) (by kernel_rfl) (by kernel_rfl) (fun _ _ _ h => h) (Or.inl ⟨by kernel_rfl, ?_⟩) T1 ?_
            rotate_left 1
            · (intro w hS; clear hS; go_simp; try (with_reducible rfl))
            refine wpAnyE_take (i := 6) (v := ?_) rfl (by kernel_rfl) (by kernel_rfl) (by kernel_rfl) (by kernel_rfl) (fun _ _ _ h => h) (Or.inl ⟨by kernel_rfl, ?_⟩) T1 ?_
            rotate_left 1
            · (intro w hS; clear hS; go_simp; try (with_reducible rfl))
            refine wpAnyE_take (i := 7) (v := ?_) rfl (by kernel_rfl) (by kernel_rfl) (by kernel_rfl) (by kernel_rfl) (fun _ _ _ h => h) (Or.inl ⟨by kernel_rfl, ?_⟩) T1 ?_
            rotate_left 1
            · (intro w hS; clear hS; go_simp; try (with_reducible rfl))
            refine wpAnyE_take (i := 8) (v := ?_) rfl (by kernel_rfl) (by kernel_rfl) (by kernel_rfl) (by kernel_rfl) (fun _ _ _ h => h) (Or.inl ⟨by kernel_rfl, ?_⟩) T1 ?_
            rotate_left 1
            · (intro w hS; clear hS; go_simp; try (with_reducible rfl))
            refine wpAnyE_take (i := 9) (v := ?_) rfl (by kernel_rfl) (by kernel_rfl) (by kernel_rfl) (by kernel_rfl) (fun _ _ _ h => h) (Or.inl ⟨by kernel_rfl, ?_⟩) T1 ?_
            rotate_left 1
            · (intro w hS; clear hS; go_simp; try (with_reducible rfl))
            refine wpAnyE_take (i := 10) (v := ?_) rfl (by kernel_rfl) (by kernel_rfl) (by kernel_rfl) (by kernel_rfl) (fun _ _ _ h => h) (Or.inl ⟨by kernel_rfl, ?_⟩) T1 ?_
            rotate_left 1
            · (intro w hS; clear hS; go_simp; try (with_reducible rfl))
            refine wpAnyE_take (i := 11) (v := .agg (pv yn).toArray) rfl (by kernel_rfl) (by kernel_rfl) (by kernel_rfl) (by kernel_rfl) (fun _ _ _ h => h) (yieldsIf_load_mid (by kernel_rfl) 29 (.tmp 103) rfl gn 0 (by go_simp) (pv yn) _ (fun _ h => h.rn.at_) Tryd.underlying29 rfl (FPn.out)) T1 ?_
            refine wpAnyE_take (i := 12) (v := ?_) rfl (by kernel_rfl) (by kernel_rfl) (by kernel_rfl) (by kernel_rfl) (fun _ _ _ h => h) (Or.inl ⟨by kernel_rfl, ?_⟩) T1 ?_
            rotate_left 1
            · (intro w hS; clear hS; go_simp; try (with_reducible rfl))
            refine wpAnyE_take (i := 13) (v := ?_) rfl (by kernel_rfl) (by kernel_rfl) (by kernel_rfl) (by kernel_rfl) (fun _ _ _ h => h) (Or.inl ⟨by kernel_rfl, ?_⟩) T1 ?_
            rotate_left 1
            · (intro w hS; have hs := hS.c0; clear hS; go_simp; try (with_reducible rfl))
            refine wpAnyE_take (i := 14) (v := ?_) rfl (by kernel_rfl) (by kernel_rfl) (by kernel_rfl) (by kernel_rfl) (fun _ _ _ h => h) (Or.inl ⟨by kernel_rfl, ?_⟩) T1 ?_
            rotate_left 1
            · (intro w hS; clear hS; go_simp; try (with_reducible rfl))
            refine wpAnyE_take (i := 15) (v := ?_) rfl (by kernel_rfl) (by kernel_rfl) (by kernel_rfl) (by kernel_rfl) (fun _ _ _ h => h) (Or.inl ⟨by kernel_rfl, ?_⟩) T1 ?_
            rotate_left 1
            · (intro w hS; clear hS; go_simp; try (with_reducible rfl))
            refine wpAnyE_take (i := 16) (v := .agg (pv zA).toArray) rfl (by kernel_rfl) (by kernel_rfl) (by kernel_rfl) (by kernel_rfl) (fun _ _ _ h => h) (yieldsIf_load_mid (by kernel_rfl) 29 (.tmp 108) rfl gA (5 + c4 * 5) (by go_simp) (pv zA) _ (fun _ h => h.la) Tryd.underlying29 rfl (FPz.out)) T1 ?_
            refine wpAnyE_one (i := 17) (by kernel_rfl) rfl (by kernel_rfl) (fun K hK => ?_)
            go_simp
            refine SR.out.mono ?_
            rintro e w10 ⟨rfl, b10⟩
            have T2 : TS w10 w.heap.size go gA gB gC gn gy c4 xA xB xC yn yo zA r := T1.below b10
            have Q16 := Lib.hid (QU.out.below b10); have FT10 := Lib.hid (FTU.out.below b10)
            refine hK.out _ _ (.inr T2) ?_
            clear hK K b10 SR QU FTU T1 TRN
            have S1 := Lib.hid (SpSame_t xA xB w10 T2.ka.w T2.kb.w)
            rw [show spS xA.sp xB.sp = true from spS_iff.2 PB.out.symm] at S1
            refine wpAnyE_take (i := 18) (v := ?_) rfl (by kernel_rfl) (by kernel_rfl) (by kernel_rfl) (by kernel_rfl) (fun _ _ _ h => h) (Or.inl ⟨by kernel_rfl, ?_⟩) T2 ?_
            rotate_left 1
            · (intro w hS; clear hS; go_simp; try (with_reducible rfl))
            refine wpAnyE_take (i := 19) (v := ?_) rfl (by kernel_rfl) (by kernel_rfl) (by kernel_rfl) (by kernel_rfl) (fun _ _ _ h => h) (Or.inl ⟨by kernel_rfl, ?_⟩) T2 ?_
            rotate_left 1
            · (intro w hS; clear hS; go_simp; try (with_reducible rfl))
            refine wpAnyE_take (i := 20) (v := ?_) rfl (by kernel_rfl) (by kernel_rfl) (by kernel_rfl) (by kernel_rfl) (fun _ _ _ h => h) (Or.inl ⟨by kernel_rfl, ?_⟩) T2 ?_
            rotate_left 1
            · (intro w hS; clear hS; go_simp; try (with_reducible rfl))
            refine wpAnyE_take (i := 21) (v := .agg (sv xA).toArray) rfl (by kernel_rfl) (by kernel_rfl) (by kernel_rfl) (by kernel_rfl) (fun _ _ _ h => h) (yieldsIf_load_mid (by kernel_rfl) 32 (.tmp 10) rfl gA 0 (by go_simp) (sv xA) _ (fun _ h => rows_of_blk h.ka.box) Tryd.underlying32 rfl (FX_xA.out)) T2 ?_
            refine wpAnyE_take (i := 22) (v := .agg (sv xB).toArray) rfl (by kernel_rfl) (by kernel_rfl) (by kernel_rfl) (by kernel_rfl) (fun _ _ _ h => h) (yieldsIf_load_mid (by kernel_rfl) 32 (.tmp 12) rfl gB 0 (by go_simp) (sv xB) _ (fun _ h => rows_of_blk h.kb.box) Tryd.underlying32 rfl (FX_xB.out)) T2 ?_
            refine wpAnyE_one (i := 23) (by kernel_rfl) rfl (by kernel_rfl) (fun K hK => ?_)
            go_simp
            refine S1.out.mono ?_
            rintro e w11 ⟨rfl, b11⟩
            have T3 : TS w11 w.heap.size go gA gB gC gn gy c4 xA xB xC yn yo zA r := T2.below b11
            have Q17 := Lib.hid (Q16.out.below b11); have FT11 := Lib.hid (FT10.out.below b11)
            refine hK.out _ _ (.inr T3) ?_
            clear hK K b11 S1 Q16 FT10 T2
            have S2 := Lib.hid (SpSame_t xB xC w11 T3.kb.w T3.kc.w)
            rw [show spS xB.sp xC.sp = true from spS_iff.2 (PB.out.trans PC.out.symm)] at S2
            refine wpAnyE_take (i := 24) (v := ?_) rfl (by kernel_rfl) (by kernel_rfl) (by kernel_rfl) (by kernel_rfl) (fun _ _ _ h => h) (Or.inl ⟨by kernel_rfl, ?_⟩) T3 ?_
            rotate_left 1
            · (intro w hS; clear hS; go_simp; try (with_reducible rfl))
            refine wpAnyE_take (i := 25) (v := ?_) rfl (by kernel_rfl) (by kernel_rfl) (by kernel_rfl) (by kernel_rfl) (fun _ _ _ h => h) (Or.inl ⟨by kernel_rfl, ?_⟩) T3 ?_
            rotate_left 1
            · (intro w hS; clear hS; go_simp; try (with_reducible rfl))
            refine wpAnyE_take (i := 26) (v := ?_) rfl (by kernel_rfl) (by kernel_rfl) (by kernel_rfl) (by kernel_rfl) (fun _ _ _ h => h) (Or.inl ⟨by kernel_rfl, ?_⟩) T3 ?_
            rotate_left 1
            · (intro w hS; clear hS; go_simp; try (with_reducible rfl))
            refine wpAnyE_take (i := 27) (v := .agg (sv xB).toArray) rfl (by kernel_rfl) (by kernel_rfl) (by kernel_rfl) (by kernel_rfl) (fun _ _ _ h => h) (yieldsIf_load_mid (by kernel_rfl) 32 (.tmp 12) rfl gB 0 (by go_simp) (sv xB) _ (fun _ h => rows_of_blk h.kb.box) Tryd.underlying32 rfl (FX_xB.out)) T3 ?_
            refine wpAnyE_take (i := 28) (v := .agg (sv xC).toArray) rfl (by kernel_rfl) (by kernel_rfl) (by kernel_rfl) (by kernel_rfl) (fun _ _ _ h => h) (yieldsIf_load_mid (by kernel_rfl) 32 (.tmp 15) rfl gC 0 (by go_simp) (sv xC) _ (fun _ h => rows_of_blk h.kc.box) Tryd.underlying32 rfl (FX_xC.out)) T3 ?_
            refine wpAnyE_one (i := 29) (by kernel_rfl) rfl (by kernel_rfl) (fun K hK => ?_)
            go_simp
            refine S2.out.mono ?_
            rintro e w12 ⟨rfl, b12⟩
            have T4 : TS w12 w.heap.size go gA gB gC gn gy c4 xA xB xC yn yo zA r := T3.below b12
            have Q18 := Lib.hid (Q17.out.below b12); have FT12 := Lib.hid (FT11.out.below b12)
            refine hK.out _ _ (.inr T4) ?_
            clear hK K b12 S2 Q17 FT11 T3
            refine wpAnyE_take (i := 30) (v := ?_) rfl (by kernel_rfl) (by kernel_rfl) (by kernel_rfl) (by kernel_rfl) (fun _ _ _ h => h) (Or.inl ⟨by kernel_rfl, ?_⟩) T4 ?_
            rotate_left 1
            · (intro w hS; clear hS; go_simp; try (with_reducible rfl))
            refine wpAnyE_take (i := 31) (v := ?_) rfl (by kernel_rfl) (by kernel_rfl) (by kernel_rfl) (by kernel_rfl) (fun _ _ _ h => h) (Or.inl ⟨by kernel_rfl, ?_⟩) T4 ?_
            rotate_left 1
            · (intro w hS; clear hS; go_simp; try (with_reducible rfl))
            refine wpAnyE_take (i := 32) (v := ?_) rfl (by kernel_rfl) (by kernel_rfl) (by kernel_rfl) (by kernel_rfl) (fun _ _ _ h => h) (Or.inl ⟨by kernel_rfl, ?_⟩) T4 ?_
            rotate_left 1
            · (intro w hS; clear hS; go_simp; try (with_reducible rfl))
            refine wpAnyE_take (i := 33) (v := ?_) rfl (by kernel_rfl) (by kernel_rfl) (by kernel_rfl) (by kernel_rfl) (fun _ _ _ h => h) (Or.inl ⟨by kernel_rfl, ?_⟩) T4 ?_
            rotate_left 1
            · (intro w hS; clear hS; go_simp; try (with_reducible rfl))
            refine wpAnyE_take (i := 34) (v := ?_) rfl (by kernel_rfl) (by kernel_rfl) (by kernel_rfl) (by kernel_rfl) (fun _ _ _ h => h) (Or.inl ⟨by kernel_rfl, ?_⟩) T4 ?_
            rotate_left 1
            · (intro w hS; clear hS; go_simp; try (with_reducible rfl))
            refine wpAnyE_take (i := 35) (v := ?_) rfl (by kernel_rfl) (by kernel_rfl) (by kernel_rfl) (by kernel_rfl) (fun _ _ _ h => h) (Or.inl ⟨by kernel_rfl, ?_⟩) T4 ?_
            rotate_left 1
            · (intro w hS; clear hS; go_simp; try (with_reducible rfl))
            refine wpAnyE_take (i := 36) (v := ?_) rfl (by kernel_rfl) (by kernel_rfl) (by kernel_rfl) (by kernel_rfl) (fun _ _ _ h => h) (Or.inl ⟨by kernel_rfl, ?_⟩) T4 ?_
            rotate_left 1
            · (intro w hS; clear hS; go_simp; try (with_reducible rfl))
            refine wpAnyE_take (i := 37) (v := ?_) rfl (by kernel_rfl) (by kernel_rfl) (by kernel_rfl) (by kernel_rfl) (fun _ _ _ h => h) (Or.inl ⟨by kernel_rfl, ?_⟩) T4 ?_
            rotate_left 1
            · (intro w hS; clear hS; go_simp; try (with_reducible rfl))
            refine wpAnyE_take (i := 38) (v := ?_) rfl (by kernel_rfl) (by kernel_rfl) (by kernel_rfl) (by kernel_rfl) (fun _ _ _ h => h) (Or.inl ⟨by kernel_rfl, ?_⟩) T4 ?_
            rotate_left 1
            · (intro w hS; clear hS; go_simp; try (with_reducible rfl))
            refine wpAnyE_take (i := 39) (v := ?_) rfl (by kernel_rfl) (by kernel_rfl) (by kernel_rfl) (by kernel_rfl) (fun _ _ _ h => h) (Or.inl ⟨by kernel_rfl, ?_⟩) T4 ?_
            rotate_left 1
            · (intro w hS; clear hS; go_simp; try (with_reducible rfl))
            refine wpAnyE_take (i := 40) (v := ?_) rfl (by kernel_rfl) (by kernel_rfl) (by kernel_rfl) (by kernel_rfl) (fun _ _ _ h => h) (Or.inl ⟨by kernel_rfl, ?_⟩) T4 ?_
            rotate_left 1
            · (intro w hS; clear hS; go_simp; try (with_reducible rfl))
            refine wpAnyE_take (i := 41) (v := ?_) rfl (by kernel_rfl) (by kernel_rfl) (by kernel_rfl) (by kernel_rfl) (fun _ _ _ h => h) (Or.inl ⟨by kernel_rfl, ?_⟩) T4 ?_
            rotate_left 1
            · (intro w hS; have hs := hS.ro.cells.2.2.1; clear hS; go_simp; try (with_reducible rfl))
            refine wpAnyE_take (i := 42) (v := ?_) rfl (by kernel_rfl) (by kernel_rfl) (by kernel_rfl) (by kernel_rfl) (fun _ _ _ h => h) (Or.inl ⟨by kernel_rfl, ?_⟩) T4 ?_
            rotate_left 1
            · (intro w hS; clear hS; go_simp; try (with_reducible rfl))
            refine wpAnyE_take (i := 43) (v := ?_) rfl (by kernel_rfl) (by kernel_rfl) (by kernel_rfl) (by kernel_rfl) (fun _ _ _ h => h) (Or.inl ⟨by kernel_rfl, ?_⟩) T4 ?_
            rotate_left 1
            · (intro w hS; clear hS; go_simp; try (with_reducible rfl))
            refine wpAnyE_take (i := 44) (v := ?_) rfl (by kernel_rfl) (by kernel_rfl) (by kernel_rfl) (by kernel_rfl) (fun _ _ _ h => h) (Or.inl ⟨by kernel_rfl, ?_⟩) T4 ?_
            rotate_left 1
            · (intro w hS; clear hS; go_simp; try (with_reducible rfl))
            refine wpAnyE_take (i := 45) (v := ?_) rfl (by kernel_rfl) (by kernel_rfl) (by kernel_rfl) (by kernel_rfl) (fun _ _ _ h => h) (Or.inl ⟨by kernel_rfl, ?_⟩) T4 ?_
            rotate_left 1
            · (intro w hS; clear hS; go_simp; try (with_reducible rfl))
            refine wpAnyE_take (i := 46) (v := ?_) rfl (by kernel_rfl) (by kernel_rfl) (by kernel_rfl) (by kernel_rfl) (fun _ _ _ h => h) (Or.inl ⟨by kernel_rfl, ?_⟩) T4 ?_
            rotate_left 1
            · (intro w hS; clear hS; go_simp; try (with_reducible rfl))
            refine wpAnyE_take (i := 47) (v := ?_) rfl (by kernel_rfl) (by kernel_rfl) (by kernel_rfl) (by kernel_rfl) (fun _ _ _ h => h) (Or.inl ⟨by kernel_rfl, ?_⟩) T4 ?_
            rotate_left 1
            · (intro w hS; clear hS; go_simp; try (with_reducible rfl))
            refine wpAnyE_take (i := 48) (v := ?_) rfl (by kernel_rfl) (by kernel_rfl) (by kernel_rfl) (by kernel_rfl) (fun _ _ _ h => h) (Or.inl ⟨by kernel_rfl, ?_⟩) T4 ?_
            rotate_left 1
            · (intro w hS; have hs := hS.ro.cells.2.1; clear hS; go_simp; try (with_reducible rfl))
            refine wpAnyE_take (i := 49) (v := ?_) rfl (by kernel_rfl) (by kernel_rfl) (by kernel_rfl) (by kernel_rfl) (fun _ _ _ h => h) (Or.inl ⟨by kernel_rfl, ?_⟩) T4 ?_
            rotate_left 1
            · (intro w hS; clear hS; go_simp; try (with_reducible rfl))
            refine wpAnyE_take (i := 50) (v := ?_) rfl (by kernel_rfl) (by kernel_rfl) (by kernel_rfl) (by kernel_rfl) (fun _ _ _ h => h) (Or.inl ⟨by kernel_rfl, ?_⟩) T4 ?_
            rotate_left 1
            · (intro w hS; have hs := hS.co; clear hS; go_simp; try (with_reducible rfl))
            refine wpAnyE_take (i := 51) (v := ?_) rfl (by kernel_rfl) (by kernel_rfl) (by kernel_rfl) (by kernel_rfl) (fun _ _ _ h => h) (Or.inl ⟨by kernel_rfl, ?_⟩) T4 ?_
            rotate_left 1
            · (intro w hS; clear hS; go_simp; try (with_reducible rfl))
            refine wpAnyE_take (i := 52) (v := ?_) rfl (by kernel_rfl) (by kernel_rfl) (by kernel_rfl) (by kernel_rfl) (fun _ _ _ h => h) (Or.inl ⟨by kernel_rfl, ?_⟩) T4 ?_
            rotate_left 1
            · (intro w hS; clear hS; go_simp; try (with_reducible rfl))
            refine wpAnyE_done (by kernel_rfl) ?_ _
            go_simp
            have KA6 := Lib.hid T4.ka; have RN6 := Lib.hid T4.rn
            clear T4 HY7 HY8 FX_xB FX_xC FPz FPn HYO PC PB
            obtain ⟨d, hd, hde⟩ := mod_s 30 (by decide) (by decide) later
            rw [show ((30 : Nat) : Int) = 30 from rfl] at hde
            go_upto_region 19 with (fail)
            rw [hde]
            clear hde
            have d30 : (d : Int) < 30 := by omega
            have n0 : 0 ≤ now := by have := OP.out.may.n0; have := HNOW.out.1; omega
            have n8 : now ≤ 800 := HNOW.out.2
            have AG2 := again (now := now + (d : Int)) MA.out MB.out SQA.out (by rw [NA.out]; omega) (by omega)
            rw [LA.out] at AG2
            have DE := Lib.hid (DoM xA (now + (d : Int)) r w12 KA6.out.w MA.out Q18.out.rx MSM.out.1 MSM.out.2 (HU.out.below Q18.out.bel) _ AG2)
            have BX := Lib.hid KA6.out.box; have G7 := Lib.hid Q18.out.box
            clear AG2 l0 l1 l2
            go_wp2_with (first
              | ((with_reducible refine load_blk 32 (.tmp 10) gA 32 (sv xA) _ rfl rfl ?_ Tryd.underlying32 ?_ ?_ ?_ ?_); exact BX.out; exact rfl; exact FX_xA.out; exact rfl)
              | ((with_reducible refine load_blk 38 (.tmp 4) w.heap.size 38 (rv r) _ rfl rfl ?_ Tryd.underlying38 ?_ ?_ ?_ ?_); exact G7.out; exact rfl; exact FR.out; exact rfl))
            refine DE.out.mono ?_
            rintro e w13 ⟨xE, RE, qE, cE, rfl, pE, rE, sE, wE, mE, oE, tE_, -, bE⟩
            obtain ⟨ye, ge, rfl, hye, rfl, roe⟩ := rep_one oE rE
            have PE := Lib.hid pE; have Q19 := Lib.hid (Q18.out.below bE); have KA7 := Lib.hid (KA6.out.below bE); have RN7 := Lib.hid (RN6.out.below bE); have FT13 := Lib.hid (FT12.out.below bE)
            have ROE := Lib.hid roe; have HYE := Lib.hid hye; have FTE := Lib.hid (tE_ ye (List.mem_singleton.2 rfl))
            clear sE oE tE_ rE DE bE pE mE roe hye BX G7 KA6 Q18 RN6 FT12
            have FX_xE := Lib.hid (sv_size xE wE.l4); have FO_xE := Lib.hid (sv_one xE); have SL_xE := Lib.hid (sv_len xE wE.l4)
            have Z_xE := Lib.hid (Blk.new w13 32 [.int .i64 0, .slice none 0 0, .slice none 0 0, .int .i64 0, .int .i64 0, .int .i64 0, .int .i64 0, .int .i64 0, .slice none 0 0, .bool false, .int .i64 0, .int .i64 0, .int .i64 0, .slice none 0 0, .bool false, .int .i64 0, .int .i64 0, .int .i64 0, .slice none 0 0, .bool false, .int .i64 0, .int .i64 0, .int .i64 0, .slice none 0 0, .bool false])
            have KN_xE := Lib.hid (KSp.new (w1 := w13) (x := xE) wE)
            go_upto_region 20 with ((with_reducible refine at_op (.store 32 (.tmp 18) (.tmp 157)) rfl ?_); go_must (refine store_blk 32 (.tmp 18) (.tmp 157) (w13).heap.size 32 _ (sv xE) rfl rfl Z_xE.out SL_xE.out.symm FX_xE.out FO_xE.out rfl rfl ?_))
            obtain ⟨V14, hV14⟩ : ∃ V, ((w13).alloc (.cells #[.int .i64 0, .slice none 0 0, .slice none 0 0, .int .i64 0, .int .i64 0, .int .i64 0, .int .i64 0, .int .i64 0, .slice none 0 0, .bool false, .int .i64 0, .int .i64 0, .int .i64 0, .slice none 0 0, .bool false, .int .i64 0, .int .i64 0, .int .i64 0, .slice none 0 0, .bool false, .int .i64 0, .int .i64 0, .int .i64 0, .slice none 0 0, .bool false] 32)).setRow (w13).heap.size (sv xE).toArray = V := ⟨_, rfl⟩
            rw [hV14] at KN_xE ⊢
            have K_xE := Lib.hid KN_xE.out.1
            have B_xE := Lib.hid KN_xE.out.2
            clear hV14 KN_xE Z_xE FO_xE SL_xE
            obtain ⟨gE, hgE⟩ : ∃ g, (w13).heap.size = g := ⟨_, rfl⟩
            rw [hgE] at K_xE ⊢
            clear hgE
            have Q20 := Lib.hid (Q19.out.below B_xE.out); have KA8 := Lib.hid (KA7.out.below B_xE.out); have RN8 := Lib.hid (RN7.out.below B_xE.out); have FT14 := Lib.hid (FT13.out.below B_xE.out); have RE8 := Lib.hid (ROE.out.below B_xE.out); have FE14 := Lib.hid (FTE.out.below B_xE.out)
            clear Q19 KA7 RN7 FT13 ROE FTE B_xE wE
            obtain ⟨U, hU⟩ : ∃ U, V14.drew = U := ⟨_, rfl⟩
            have BU := Lib.hid (show Below V14.heap.size V14 U from by rw [← hU]; exact (Below.refl _ _).drew)
            have T1 : TE U gA gE gn ge xA xE yn ye := TE.below ⟨KA8.out, K_xE.out, RN8.out, RE8.out⟩ BU.out
            have QU := Lib.hid (Q20.out.below BU.out); have FU := Lib.hid (FT14.out.below BU.out); have FEU := Lib.hid (FE14.out.below BU.out)
            have eN : (xE.now == IntKind.i64.wrap (now + (d : Int))) = true := by
              have : xE.now = now + (d : Int) := congrArg Sp.now PE.out
              rw [IntWalk.i64_in _ (by omega), this]; simp
            have eI : decide ((xE.its.length : Int) ≤ (xA.its.length : Int)) = true := by
              have h1 : xE.its.length = (goOnP xA.sp (now + (d : Int))).its.length := its_len PE.out
              have h2 : (goOnP xA.sp (now + (d : Int))).its.length ≤ xA.sp.its.length := List.length_filter_le _ _
              have h3 : xA.its.length = xA.sp.its.length := its_len rfl
              exact decide_eq_true (by omega)
            have eL : xE.its.length ≤ xA.its.length := by have := of_decide_eq_true eI; omega
            have eW : ((xE.wts.length : Int) == (xA.wts.length : Int)) = true := by
              have h1 : xE.wts.length = (goOnP xA.sp (now + (d : Int))).wts.length := wts_len PE.out
              have h3 : xA.wts.length = xA.sp.wts.length := wts_len rfl
              rw [h1, h3]
              exact beq_self_eq_true _
            have FPe := Lib.hid (pv_size ye); have FPn := Lib.hid (pv_size yn)
            have TD := Lib.hid (tolds_t U (HU.out.below QU.out.bel))
            clear Q20 KA8 RN8 FT14 RE8 FE14 K_xE BU
            go_upto_region 20 with (fail)
            refine wp_region_E (fun Y => TE Y gA gE gn ge xA xE yn ye) (fun _ => false) (by kernel_rfl) ?_
            change wpAnyE _ _ _ _ _ _ _ _ _ V14.drew
            rw [hU]
            clear hU
            refine wpAnyE_one (i := 0) (by kernel_rfl) rfl (by kernel_rfl) (fun K hK => ?_)
            go_simp
            refine TD.out.mono ?_
            rintro e w15 ⟨rfl, b15⟩
            have T2 : TE w15 gA gE gn ge xA xE yn ye := T1.below b15
            have Q21 := Lib.hid (QU.out.below b15)
            have TRN := Lib.hid (show TR w15 yn.p yn.r.t from (FU.out.below b15).tr (by rw [show yn.r = zA.r from HYN.out]; exact (T2.ka.w.la zA (List.mem_of_getElem? HZA.out)).n))
            have TRE := Lib.hid (show TR w15 ye.p ye.r.t from (FEU.out.below b15).tr (by rw [show ye.r = zA.r from HYE.out]; exact (T2.ka.w.la zA (List.mem_of_getElem? HZA.out)).n))
            have SR := Lib.hid (refSameReply_eq ye yn w15 TRE.out TRN.out (show yn.r = ye.r from HYN.out.trans (show ye.r = zA.r from HYE.out).symm))
            refine hK.out _ _ (.inr T2) ?_
            clear hK K b15 TD QU FU FEU T1 TRN TRE
            refine wpAnyE_take (i := 1) (v := ?_) rfl (by kernel_rfl) (by kernel_rfl) (by kernel_rfl) (by kernel_rfl) (fun _ _ _ h => h) (Or.inl ⟨by kernel_rfl, ?_⟩) T2 ?_
            rotate_left 1
            · (intro w hS; clear hS; go_simp; try (with_reducible rfl))
            refine wpAnyE_take (i := 2) (v := ?_) rfl (by kernel_rfl) (by kernel_rfl) (by kernel_rfl) (by kernel_rfl) (fun _ _ _ h => h) (Or.inl ⟨by kernel_rfl, ?_⟩) T2 ?_
            rotate_left 1
            · (intro w hS; clear hS; go_simp; try (with_reducible rfl))
            refine wpAnyE_take (i := 3) (v := ?_) rfl (by kernel_rfl) (by kernel_rfl) (by kernel_rfl) (by kernel_rfl) (fun _ _ _ h => h) (Or.inl ⟨by kernel_rfl, ?_⟩) T2 ?_
            rotate_left 1
            · (intro w hS; clear hS; go_simp; try (with_reducible rfl))
            refine wpAnyE_take (i := 4) (v := ?_) rfl (by kernel_rfl) (by kernel_rfl) (by kernel_rfl) (by kernel_rfl) (fun _ _ _ h => h) (Or.inl ⟨by kernel_rfl, ?_⟩) T2 ?_
            rotate_left 1
            · (intro w hS; clear hS; go_simp; try (with_reducible rfl))
            refine wpAnyE_take (i := 5) (v := ?_) rfl (by kernel_rfl) (by kernel_rfl) (by kernel_rfl) (by kernel_rfl) (fun _ _ _ h => h) (Or.inl ⟨by kernel_rfl, ?_⟩) T2 ?_
            rotate_left 1
            · (intro w hS; clear hS; go_simp; try (with_reducible rfl))
            refine wpAnyE_take (i := 6) (v := ?_) rfl (by kernel_rfl) (by kernel_rfl) (by kernel_rfl) (by kernel_rfl) (fun _ _ _ h => h) (Or.inl ⟨by kernel_rfl, ?_⟩) T2 ?_
            rotate_left 1
            · (intro w hS; clear hS; go_simp; try (with_reducible rfl))
            refine wpAnyE_take (i := 7) (v := ?_) rfl (by kernel_rfl) (by kernel_rfl) (by kernel_rfl) (by kernel_rfl) (fun _ _ _ h => h) (Or.inl ⟨by kernel_rfl, ?_⟩) T2 ?_
            rotate_left 1
            · (intro w hS; clear hS; go_simp; try (with_reducible rfl))
            refine wpAnyE_take (i := 8) (v := ?_) rfl (by kernel_rfl) (by kernel_rfl) (by kernel_rfl) (by kernel_rfl) (fun _ _ _ h => h) (Or.inl ⟨by kernel_rfl, ?_⟩) T2 ?_
            rotate_left 1
            · (intro w hS; clear hS; go_simp; try (with_reducible rfl))
            refine wpAnyE_take (i := 9) (v := .agg (pv ye).toArray) rfl (by kernel_rfl) (by kernel_rfl) (by kernel_rfl) (by kernel_rfl) (fun _ _ _ h => h) (yieldsIf_load_mid (by kernel_rfl) 29 (.tmp 167) rfl ge 0 (by go_simp) (pv ye) _ (fun _ h => h.re.at_) Tryd.underlying29 rfl (FPe.out)) T2 ?_
            refine wpAnyE_take (i := 10) (v := ?_) rfl (by kernel_rfl) (by kernel_rfl) (by kernel_rfl) (by kernel_rfl) (fun _ _ _ h => h) (Or.inl ⟨by kernel_rfl, ?_⟩) T2 ?_
            rotate_left 1
            · (intro w hS; clear hS; go_simp; try (with_reducible rfl))
            refine wpAnyE_take (i := 11) (v := ?_) rfl (by kernel_rfl) (by kernel_rfl) (by kernel_rfl) (by kernel_rfl) (fun _ _ _ h => h) (Or.inl ⟨by kernel_rfl, ?_⟩) T2 ?_
            rotate_left 1
            · (intro w hS; clear hS; go_simp; try (with_reducible rfl))
            refine wpAnyE_take (i := 12) (v := .agg (pv yn).toArray) rfl (by kernel_rfl) (by kernel_rfl) (by kernel_rfl) (by kernel_rfl) (fun _ _ _ h => h) (yieldsIf_load_mid (by kernel_rfl) 29 (.tmp 170) rfl gn 0 (by go_simp) (pv yn) _ (fun _ h => h.rn.at_) Tryd.underlying29 rfl (FPn.out)) T2 ?_
            refine wpAnyE_one (i := 13) (by kernel_rfl) rfl (by kernel_rfl) (fun K hK => ?_)
            go_simp
            refine SR.out.mono ?_
            rintro e w16 ⟨rfl, b16⟩
            have T3 : TE w16 gA gE gn ge xA xE yn ye := T2.below b16
            have Q22 := Lib.hid (Q21.out.below b16)
            refine hK.out _ _ (.inr T3) ?_
            clear hK K b16 SR Q21 T2
            refine wpAnyE_take (i := 14) (v := ?_) rfl (by kernel_rfl) (by kernel_rfl) (by kernel_rfl) (by kernel_rfl) (fun _ _ _ h => h) (Or.inl ⟨by kernel_rfl, ?_⟩) T3 ?_
            rotate_left 1
            · (intro w hS; clear hS; go_simp; try (with_reducible rfl))
            refine wpAnyE_take (i := 15) (v := ?_) rfl (by kernel_rfl) (by kernel_rfl) (by kernel_rfl) (by kernel_rfl) (fun _ _ _ h => h) (Or.inl ⟨by kernel_rfl, ?_⟩) T3 ?_
            rotate_left 1
            · (intro w hS; clear hS; go_simp; try (with_reducible rfl))
            refine wpAnyE_take (i := 16) (v := ?_) rfl (by kernel_rfl) (by kernel_rfl) (by kernel_rfl) (by kernel_rfl) (fun _ _ _ h => h) (Or.inl ⟨by kernel_rfl, ?_⟩) T3 ?_
            rotate_left 1
            · (intro w hS; clear hS; go_simp; try (with_reducible rfl))
            refine wpAnyE_take (i := 17) (v := ?_) rfl (by kernel_rfl) (by kernel_rfl) (by kernel_rfl) (by kernel_rfl) (fun _ _ _ h => h) (Or.inl ⟨by kernel_rfl, ?_⟩) T3 ?_
            rotate_left 1
            · (intro w hS; have hs := (sv_cells hS.ke.box).1; clear hS; go_simp; try (with_reducible rfl))
            refine wpAnyE_take (i := 18) (v := ?_) rfl (by kernel_rfl) (by kernel_rfl) (by kernel_rfl) (by kernel_rfl) (fun _ _ _ h => h) (Or.inl ⟨by kernel_rfl, ?_⟩) T3 ?_
            rotate_left 1
            · (intro w hS; clear hS; go_simp; try (with_reducible rfl))
            refine wpAnyE_take (i := 19) (v := ?_) rfl (by kernel_rfl) (by kernel_rfl) (by kernel_rfl) (by kernel_rfl) (fun _ _ _ h => h) (Or.inl ⟨by kernel_rfl, ?_⟩) T3 ?_
            rotate_left 1
            · (intro w hS; clear hS; go_simp; try (with_reducible rfl))
            refine wpAnyE_take (i := 20) (v := ?_) rfl (by kernel_rfl) (by kernel_rfl) (by kernel_rfl) (by kernel_rfl) (fun _ _ _ h => h) (Or.inl ⟨by kernel_rfl, ?_⟩) T3 ?_
            rotate_left 1
            · (intro w hS; clear hS; go_simp; try (with_reducible rfl))
            refine wpAnyE_take (i := 21) (v := ?_) rfl (by kernel_rfl) (by kernel_rfl) (by kernel_rfl) (by kernel_rfl) (fun _ _ _ h => h) (Or.inl ⟨by kernel_rfl, ?_⟩) T3 ?_
            rotate_left 1
            · (intro w hS; clear hS; go_simp; try (with_reducible rfl))
            refine wpAnyE_take (i := 22) (v := ?_) rfl (by kernel_rfl) (by kernel_rfl) (by kernel_rfl) (by kernel_rfl) (fun _ _ _ h => h) (Or.inl ⟨by kernel_rfl, ?_⟩) T3 ?_
            rotate_left 1
            · (intro w hS; clear hS; go_simp; try (with_reducible rfl))
            refine wpAnyE_take (i := 23) (v := ?_) rfl (by kernel_rfl) (by kernel_rfl) (by kernel_rfl) (by kernel_rfl) (fun _ _ _ h => h) (Or.inl ⟨by kernel_rfl, ?_⟩) T3 ?_
            rotate_left 1
            · (intro w hS; clear hS; go_simp; try (with_reducible rfl))
            refine wpAnyE_take (i := 24) (v := ?_) rfl (by kernel_rfl) (by kernel_rfl) (by kernel_rfl) (by kernel_rfl) (fun _ _ _ h => h) (Or.inl ⟨by kernel_rfl, ?_⟩) T3 ?_
            rotate_left 1
            · (intro w hS; clear hS; go_simp; try (with_reducible rfl))
            refine wpAnyE_take (i := 25) (v := ?_) rfl (by kernel_rfl) (by kernel_rfl) (by kernel_rfl) (by kernel_rfl) (fun _ _ _ h => h) (Or.inl ⟨by kernel_rfl, ?_⟩) T3 ?_
            rotate_left 1
            · (intro w hS; have hs := (sv_cells hS.ke.box).2.1; clear hS; go_simp; try (with_reducible rfl))
            refine wpAnyE_take (i := 26) (v := ?_) rfl (by kernel_rfl) (by kernel_rfl) (by kernel_rfl) (by kernel_rfl) (fun _ _ _ h => h) (Or.inl ⟨by kernel_rfl, ?_⟩) T3 ?_
            rotate_left 1
            · (intro w hS; clear hS; go_simp; try (with_reducible rfl))
            refine wpAnyE_take (i := 27) (v := ?_) rfl (by kernel_rfl) (by kernel_rfl) (by kernel_rfl) (by kernel_rfl) (fun _ _ _ h => h) (Or.inl ⟨by kernel_rfl, ?_⟩) T3 ?_
            rotate_left 1
            · (intro w hS; clear hS; go_simp; try (with_reducible rfl))
            refine wpAnyE_take (i := 28) (v := ?_) rfl (by kernel_rfl) (by kernel_rfl) (by kernel_rfl) (by kernel_rfl) (fun _ _ _ h => h) (Or.inl ⟨by kernel_rfl, ?_⟩) T3 ?_
            rotate_left 1
            · (intro w hS; have hs := (sv_cells hS.ka.box).2.1; clear hS; go_simp; try (with_reducible rfl))
            refine wpAnyE_take (i := 29) (v := ?_) rfl (by kernel_rfl) (by kernel_rfl) (by kernel_rfl) (by kernel_rfl) (fun _ _ _ h => h) (Or.inl ⟨by kernel_rfl, ?_⟩) T3 ?_
            rotate_left 1
            · (intro w hS; clear hS; go_simp; try (with_reducible rfl))
            refine wpAnyE_take (i := 30) (v := ?_) rfl (by kernel_rfl) (by kernel_rfl) (by kernel_rfl) (by kernel_rfl) (fun _ _ _ h => h) (Or.inl ⟨by kernel_rfl, ?_⟩) T3 ?_
            rotate_left 1
            · (intro w hS; clear hS; go_simp; try (with_reducible rfl))
            refine wpAnyE_take (i := 31) (v := ?_) rfl (by kernel_rfl) (by kernel_rfl) (by kernel_rfl) (by kernel_rfl) (fun _ _ _ h => h) (Or.inl ⟨by kernel_rfl, ?_⟩) T3 ?_
            rotate_left 1
            · (intro w hS; clear hS; go_simp; try (with_reducible rfl))
            refine wpAnyE_take (i := 32) (v := ?_) rfl (by kernel_rfl) (by kernel_rfl) (by kernel_rfl) (by kernel_rfl) (fun _ _ _ h => h) (Or.inl ⟨by kernel_rfl, ?_⟩) T3 ?_
            rotate_left 1
            · (intro w hS; clear hS; go_simp; try (with_reducible rfl))
            refine wpAnyE_take (i := 33) (v := ?_) rfl (by kernel_rfl) (by kernel_rfl) (by kernel_rfl) (by kernel_rfl) (fun _ _ _ h => h) (Or.inl ⟨by kernel_rfl, ?_⟩) T3 ?_
            rotate_left 1
            · (intro w hS; clear hS; go_simp; try (with_reducible rfl))
            refine wpAnyE_take (i := 34) (v := ?_) rfl (by kernel_rfl) (by kernel_rfl) (by kernel_rfl) (by kernel_rfl) (fun _ _ _ h => h) (Or.inl ⟨by kernel_rfl, ?_⟩) T3 ?_
            rotate_left 1
            · (intro w hS; have hs := (sv_cells hS.ke.box).2.2.1; clear hS; go_simp; try (with_reducible rfl))
            refine wpAnyE_take (i := 35) (v := ?_) rfl (by kernel_rfl) (by kernel_rfl) (by kernel_rfl) (by kernel_rfl) (fun _ _ _ h => h) (Or.inl ⟨by kernel_rfl, ?_⟩) T3 ?_
            rotate_left 1
            · (intro w hS; clear hS; go_simp; try (with_reducible rfl))
            refine wpAnyE_take (i := 36) (v := ?_) rfl (by kernel_rfl) (by kernel_rfl) (by kernel_rfl) (by kernel_rfl) (fun _ _ _ h => h) (Or.inl ⟨by kernel_rfl, ?_⟩) T3 ?_
            rotate_left 1
            · (intro w hS; clear hS; go_simp; try (with_reducible rfl))
            refine wpAnyE_take (i := 37) (v := ?_) rfl (by kernel_rfl) (by kernel_rfl) (by kernel_rfl) (by kernel_rfl) (fun _ _ _ h => h) (Or.inl ⟨by kernel_rfl, ?_⟩) T3 ?_
            rotate_left 1
            · (intro w hS; have hs := (sv_cells hS.ka.box).2.2.1; clear hS; go_simp; try (with_reducible rfl))
            refine wpAnyE_take (i := 38) (v := ?_) rfl (by kernel_rfl) (by kernel_rfl) (by kernel_rfl) (by kernel_rfl) (fun _ _ _ h => h) (Or.inl ⟨by kernel_rfl, ?_⟩) T3 ?_
            rotate_left 1
            · (intro w hS; clear hS; go_simp; try (with_reducible rfl))
            refine wpAnyE_take (i := 39) (v := ?_) rfl (by kernel_rfl) (by kernel_rfl) (by kernel_rfl) (by kernel_rfl) (fun _ _ _ h => h) (Or.inl ⟨by kernel_rfl, ?_⟩) T3 ?_
            rotate_left 1
            · (intro w hS; clear hS; go_simp; try (with_reducible rfl))
            refine wpAnyE_take (i := 40) (v := ?_) rfl (by kernel_rfl) (by kernel_rfl) (by kernel_rfl) (by kernel_rfl) (fun _ _ _ h => h) (Or.inl ⟨by kernel_rfl, ?_⟩) T3 ?_
            rotate_left 1
            · (intro w hS; clear hS; go_simp; try (with_reducible rfl))
            refine wpAnyE_take (i := 41) (v := ?_) rfl (by kernel_rfl) (by kernel_rfl) (by kernel_rfl) (by kernel_rfl) (fun _ _ _ h => h) (Or.inl ⟨by kernel_rfl, ?_⟩) T3 ?_
            rotate_left 1
            · (intro w hS; clear hS; go_simp; try (with_reducible rfl))
            refine wpAnyE_done (by kernel_rfl) ?_ _
            go_simp
            clear T3
            go_wp2_with fail
            go_ret
            exact ⟨by first | rfl | simp [eN, eL, eW] | (simp; omega), Q22.out.bel⟩
          · by_cases h1 : r.r.sq ≤ z.r.sq
            · have hsf : decide (r.r.sq ≤ z.r.sq) = true := decide_eq_true h1
              go_quiet (fail)
              obtain ⟨U, hU⟩ : ∃ U, V5.drewN nq = U := ⟨_, rfl⟩
              have BU : Below V5.heap.size V5 U := by rw [← hU]; exact below_drewN' (Below.refl _ _) nq
              rw [hU]
              have Q7 := Lib.hid (Q6.out.below BU)
              have TD := Lib.hid (tolds_t U (HU.out.below Q7.out.bel))
              clear hU BU d0 d1 e1
              go_wp2_with fail
              refine TD.out.mono ?_
              rintro e w6 ⟨rfl, b6⟩
              go_wp2_with fail
              go_ret
              exact ⟨rfl, Q7.out.bel.trans (b6.mono Q7.out.bel.size)⟩
            · have hsf : decide (r.r.sq ≤ z.r.sq) = false := decide_eq_false h1
              have hs3 : decide (r.r.sq < 2) = true := decide_eq_true (by omega)
              go_quiet (fail)
              obtain ⟨U, hU⟩ : ∃ U, V5.drewN nq = U := ⟨_, rfl⟩
              have BU : Below V5.heap.size V5 U := by rw [← hU]; exact below_drewN' (Below.refl _ _) nq
              rw [hU]
              have Q7 := Lib.hid (Q6.out.below BU)
              have TD := Lib.hid (tolds_t U (HU.out.below Q7.out.bel))
              clear hU BU d0 d1 e1
              go_wp2_with fail
              refine TD.out.mono ?_
              rintro e w6 ⟨rfl, b6⟩
              go_wp2_with fail
              go_ret
              exact ⟨rfl, Q7.out.bel.trans (b6.mono Q7.out.bel.size)⟩
end Go.Proofs.YtfcmhpgopihidaaDoor
