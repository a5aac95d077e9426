/-
  SpaceDenied walked.
-/
import Derived.Test.YtfcmhpgopihidaaDoorSpZ
import Derived.Test.YtfcmhpgopihidaaDoorSrP
namespace Go.Proofs.YtfcmhpgopihidaaDoor
open Go Go.RowKit Sh

/-- A request at hand, boxed. -/
structure QC (w0 W : World) (g : Nat) (r : Rv) : Prop where
  box : Blk W g 38 (rv r)
  rx : RvW W r
  bel : Below w0.heap.size w0 W
  ge : w0.heap.size ≤ g
theorem QC.below {w0 W W' : World} {g : Nat} {r : Rv} (h : QC w0 W g r) (hb : Below W.heap.size W W') : QC w0 W' g r := ⟨h.box.below hb h.box.lt, h.rx.below hb, h.bel.trans (hb.mono h.bel.size), h.ge⟩
theorem few_small {y : Rv} (h : fewR y = true) : y.r.n ≤ 1000 ∧ y.r.m ≤ 1000 := by
  unfold fewR fewL at h
  simp only [Bool.and_eq_true, decide_eq_true_eq] at h
  omega
theorem may_small {r : Rq} (h : mayR r = true) : r.n ≤ 1000 ∧ r.m ≤ 1000 := by
  have h' := h
  unfold mayR findB bringB at h'
  simp only [Bool.and_eq_true] at h'
  obtain ⟨_, f, b⟩ := h'
  constructor
  · split at f
    · have := (mayP_iff f).2.1; omega
    · simp only [decide_eq_true_eq] at f; omega
  · split at b
    · simp only [Bool.and_eq_true] at b
      have := (mayP_iff (mayV_P b.1)).2.1; omega
    · simp only [Bool.and_eq_true, decide_eq_true_eq] at b; omega
theorem cell_last {W : World} {g k : Nat} {x : Spv} {z : Rpv} (h : Blk W g 32 (sv x)) (hz : x.last[k]? = some z) (i : Nat) (v : Value) (hv : (pv z)[i]? = some v) : W.cell? ⟨g, 5 + k * 5 + i, none⟩ = some v := by
  obtain ⟨b', o', eb, _, rz⟩ := sv_row h k z hz
  injection eb with eb
  injection eb with e1 e2
  subst e1
  subst e2
  exact rz i v hv
theorem last_of {x : Spv} {k : Nat} {z : Rpv} (hz : x.last[k]? = some z) : lastOf x.sp (k : Int) = z.r := by
  unfold lastOf
  show (x.last.map (·.r)).getD ((k : Int).toNat) zR = z.r
  rw [Int.toNat_natCast, List.getD_eq_getElem?_getD, List.getElem?_map, hz]
  rfl
section
variable {P : Program} {ops : Array Oper} {Q : Exit → Act → World → Prop} {md : Region.Mode} {S : World → Prop} {last : Nat → Bool}
/-- The one that may come up now stores a part of a block. -/
theorem wpAnyE_storeP {i : Nat} {o : Oper} {fuel : Nat} {listed : Array Bool} {a : Act} {w : World} (hr : Region.ready md ops listed = [i]) (hi : ops[i]? = some o) (hwd : Region.wanted o (yielded ops a.tmps) = true)
    (ty : TypeId) (x y : Operand) (g off : Nat) (t : TypeId) (A M C M' : List Value) (ho : o.op = .store ty x y) (hg : Blk w g t (A ++ (M ++ C))) (hoff : off = A.length) (hl : M.length = M'.length) (hz : (P.info? ty).map (·.size) = some M'.length) (h1 : M'.toArray.all (·.oneCell') = true)
    (hx : a.eval x = .pointer (some ⟨g, off, none⟩)) (hy : a.eval y = .agg M'.toArray)
    (h : ∀ w', Blk w' g t (A ++ (M' ++ C)) → Kept (fun b => b = g) w w' → (last i = true ∨ S w') ∧ wpAnyE P md ops Q S last fuel (listed.setIfInBounds i true) (a.put o.dst undef) w') : wpAnyE P md ops Q S last (fuel + 1) listed a w :=
  wpAnyE_one hr hi hwd fun _ hK => wstore_part ty x y g off t A M C M' ho hg hoff hl hz h1 hx hy fun w' a1 a2 _ => by
    obtain ⟨h1, h2⟩ := h w' a1.out (a2.out.keptOne rfl)
    exact hK.out _ _ h1 h2
end
/-- Where the last reply is taken from. -/
structure CD (W : World) (q g c4 : Nat) (z : Rpv) : Prop where
  c0 : W.cell? ⟨q, 0, none⟩ = some (.int .i64 (c4 : Int))
  bx : W.rangeAt g (5 + c4 * 5) (pv z)
  ql : q < W.heap.size
  gl : g < W.heap.size
theorem CD.kept {W W' : World} {q g c4 b : Nat} {z : Rpv} (h : CD W q g c4 z) (hq : q ≠ b) (hg : g ≠ b) (hk : Kept (fun k => k = b) W W') : CD W' q g c4 z :=
  ⟨(hk.cell (p := ⟨q, 0, none⟩) h.ql hq).trans h.c0, fun j v hv => (hk.cell (p := ⟨g, 5 + c4 * 5 + j, none⟩) h.gl hg).trans (h.bx j v hv), Nat.lt_of_lt_of_le h.ql hk.size, Nat.lt_of_lt_of_le h.gl hk.size⟩
theorem rep_head {W : World} {B c : Nat} {q : Option Addr} {R : List Rpv} {r : Rp} {l : List Rp} (h : W.ownsRow B 29 5 (.slice q R.length c) R.length (R.flatMap pv)) (hr : R.map (·.r) = r :: l) : ∃ y b, 0 < R.length ∧ y.r = r ∧ q = some ⟨b, 0, none⟩ ∧ RO W b y := by
  match R, hr, h with
  | y :: R, hr, h =>
    obtain ⟨b, hb, _, hl, hc, _⟩ := own_block h (Nat.succ_pos _)
    refine ⟨y, b, Nat.succ_pos _, by simpa using (List.cons.inj hr).1, hb, hl, fun j v hv => ?_⟩
    have hj : j < 5 := by have := (List.getElem?_eq_some_iff.1 hv).1; rwa [pv_len] at this
    rw [Nat.zero_add, hc j (by simp; omega)]
    simp only [List.flatMap_cons]
    rw [List.getElem?_append_left (by rw [pv_len]; exact hj)]
    exact hv
theorem bit_small {c : Nat} (h : c < 4) : wrap64 ((2 : Int) ^ c) = (2 : Int) ^ c := by
  rcases (show c = 0 ∨ c = 1 ∨ c = 2 ∨ c = 3 by omega) with rfl | rfl | rfl | rfl <;> (unfold wrap64; omega)
theorem allow_is {s : Sp} {r : Qp} {read write ra wa bt : Int} {c4 : Nat} {rz wz rb wb : Bool} (h1 : s.rd = ra) (h2 : s.wr = wa) (hra : bits .and .i64 read 15 = ra) (hwa : bits .and .i64 write 15 = wa) (hc : r.cl = (c4 : Int)) (h4 : (c4 : Int) < 4) (hbt : (2 : Int) ^ c4 = bt)
    (hrz : (bits .and .i64 read bt == 0) = rz) (hwz : (bits .and .i64 write bt == 0) = wz) (hrb : rdK r.kd = rb) (hwb : wrK r.kd = wb) : allowP s r = ((!rz || !rb) && (!wz || !wb)) := by
  have hcl : clB ((c4 : Nat) : Int) = true := by
    unfold clB
    rw [decide_eq_true (show (0 : Int) ≤ (c4 : Int) by omega), decide_eq_true h4]; rfl
  unfold allowP
  rw [h1, h2, ← hra, ← hwa, hc, bitB_and _ _ hcl, bitB_and _ _ hcl, hrb, hwb]
  unfold bitB
  rw [Int.toNat_natCast, hbt, ← hrz, ← hwz]
  rfl
theorem back_set {xA x2 : Spv} {r : Qp} {c4 : Nat} {z : Rpv} (hA : xA.sp = noteP x2.sp (tellP r 6)) (hz : x2.last[c4]? = some z) (hc : r.cl = (c4 : Int)) : ({ xA with last := xA.last.set c4 z } : Spv).sp = x2.sp := by
  have h1 : ({ xA with last := xA.last.set c4 z } : Spv).sp = { xA.sp with last := xA.sp.last.set c4 z.r } := by
    show (⟨_, _, _, _, _, (xA.last.set c4 z).map (·.r)⟩ : Sp) = ⟨_, _, _, _, _, (xA.last.map (·.r)).set c4 z.r⟩
    rw [List.map_set]
    rfl
  rw [h1, hA]
  unfold noteP tellP
  dsimp only
  rw [hc, Int.toNat_natCast, List.set_set]
  have h2 : x2.sp.last.set c4 z.r = x2.sp.last := by
    have hz' : x2.sp.last[c4]? = some z.r := by
      show (x2.last.map (·.r))[c4]? = _
      rw [List.getElem?_map, hz]; rfl
    apply List.ext_getElem?
    intro j
    rw [List.getElem?_set]
    split
    · rename_i e
      subst e
      rw [hz', if_pos (List.getElem?_eq_some_iff.1 hz').1]
    · rfl
  rw [h2]
set_option maxRecDepth 100000 in
set_option maxHeartbeats 8000000 in
theorem sdenied_t (A : Option Addr) (n c : Nat) (F : Nat → Av) (r : Rv) (read write : Int) (w : World) (hn : n ≤ 9223372036854775807) (hA : AW w A n F) (hr : RvW w r) (hu : UT w) :
    Calls Tryd.prog 9 #[.slice A n c, .agg (rv r).toArray, .int .i64 read, .int .i64 write] w fun e w' => e = .returned (.bool true) ∧ Below w.heap.size w w' := by
  have HA := Lib.hid hA; have HU := Lib.hid hu; have HRV := Lib.hid hr
  have C0 := Lib.hid (show QC w (w.alloc (.cells (rv r).toArray 38)) w.heap.size r from by
    have bz : Below w.heap.size w (w.alloc (.cells (rv r).toArray 38)) := (Below.refl w.heap.size w).alloc (Nat.le_refl _) _
    exact ⟨Blk.new w _ _, hr.below bz, bz, Nat.le_refl _⟩)
  have MR := Lib.hid (refMay_r r _ C0.out.rx)
  have G0 := Lib.hid C0.out.box
  have FR := Lib.hid (rv_size r)
  obtain ⟨mb, hmb⟩ : ∃ b, mayR r.r = b := ⟨_, rfl⟩
  rw [hmb] at MR
  have MB := Lib.hid hmb
  clear hA hu hr hmb
  cases mb with
  | false =>
    go_enter Tryd.func9, Tryd.ntmps9
    go_wp2_with ((with_reducible refine load_blk 38 (.tmp 5) w.heap.size 38 (rv r) _ rfl rfl ?_ Tryd.underlying38 ?_ ?_ ?_ ?_); exact G0.out; exact rfl; exact FR.out; exact rfl)
    refine MR.out.mono ?_
    rintro e w1 ⟨rfl, b1⟩
    have C1 := Lib.hid (C0.out.below b1)
    have TD := Lib.hid (tolds_t w1 (HU.out.below C1.out.bel))
    clear b1 MR
    go_wp2_with fail
    refine TD.out.mono ?_
    rintro e w2 ⟨rfl, b2⟩
    go_wp2_with fail
    go_ret
    exact ⟨rfl, C1.out.bel.trans (b2.mono C1.out.bel.size)⟩
  | true =>
    go_enter Tryd.func9, Tryd.ntmps9
    go_wp2_with ((with_reducible refine load_blk 38 (.tmp 5) w.heap.size 38 (rv r) _ rfl rfl ?_ Tryd.underlying38 ?_ ?_ ?_ ?_); exact G0.out; exact rfl; exact FR.out; exact rfl)
    refine MR.out.mono ?_
    rintro e w1 ⟨rfl, b1⟩
    have C1 := Lib.hid (C0.out.below b1)
    clear b1 MR C0 G0
    go_upto_region 4 with (fail)
    go_loopw [9] (fun s wr => ∃ i : Nat, i ≤ n ∧ (i : Int) ≤ 30 ∧ s = .int .i64 (i : Int) ∧ QC w wr w.heap.size r ∧ ∀ j, j < i → (F j).r.r.n ≤ 1000 ∧ (F j).r.r.m ≤ 1000) (fun s _ => n - (intOf s).toNat)
    case atStart => exact ⟨0, Nat.zero_le _, by omega, rfl, C1.out, fun j hj => absurd hj (by omega)⟩
    case round =>
      clear C1
      obtain ⟨j, hj, hj30, rfl, qc, hf⟩ := hrel
      have QX := Lib.hid qc; have HF := Lib.hid hf
      clear qc hf
      by_cases hx : j < n ∧ (j : Int) < 30
      · obtain ⟨hlt, hm⟩ := hx
        obtain ⟨b, o, rfl, hbl, rg0, _⟩ := HA.out.read hlt
        have rg := rows_below rg0 QX.out.bel hbl
        have j1 : (j : Int) < (n : Int) := by omega
        obtain ⟨y, hy⟩ : ∃ y, F j = y := ⟨_, rfl⟩
        have HRY := Lib.hid (show RvW w y.r by rw [← hy]; exact HA.out.r j hlt)
        have HFY := Lib.hid (fun h => show ∀ i, i < j + 1 → (F i).r.r.n ≤ 1000 ∧ (F i).r.r.m ≤ 1000 from fun i hi => by
          by_cases e : i = j
          · subst e; rw [hy]; exact few_small h
          · exact HF.out i (by omega))
        rw [hy] at rg
        have FY := Lib.hid (rv_size y.r)
        have RG := Lib.hid rg
        have FW := Lib.hid (fewR_t y.r wr (HRY.out.below QX.out.bel))
        obtain ⟨fb, hfb⟩ : ∃ b, fewR y.r = b := ⟨_, rfl⟩
        rw [hfb] at FW HFY
        clear hy rg hbl hfb rg0 HF
        go_wp2_with ((with_reducible refine at_op (.load 38 (.tmp 33)) rfl ?_); go_must (refine wpList_load_mid rfl 38 (.tmp 33) rfl b (o + j * 7) rfl (rv y.r) _ RG.out Tryd.underlying38 rfl FY.out ?_))
        refine FW.out.mono ?_
        rintro e w3 ⟨rfl, b3⟩
        have Q3 := Lib.hid (QX.out.below b3)
        clear b3 QX RG FW
        cases fb with
        | false =>
          have TD := Lib.hid (tolds_t w3 (HU.out.below Q3.out.bel))
          go_wp2_with fail
          refine TD.out.mono ?_
          rintro e w4 ⟨rfl, b4⟩
          go_wp2_with fail
          go_ret
          exact ⟨rfl, Q3.out.bel.trans (b4.mono Q3.out.bel.size)⟩
        | true =>
          have HF2 := Lib.hid (HFY.out rfl)
          go_wp2_with fail
          exact ⟨⟨j + 1, hlt, by omega, by go_num, Q3.out, HF2.out⟩, by simp [intOf]; omega⟩
      · have HF2 := Lib.hid (show ∀ i : Nat, i < n → (i : Int) < 30 → (F i).r.r.n ≤ 1000 ∧ (F i).r.r.m ≤ 1000 from fun i h h' => HF.out i (by omega))
        clear HF
        go_upto_region 4 with (fail)
        go_cut [27] (fun s wx => s = .bool false ∧ wx = wr)
        case first =>
          by_cases hlt : j < n
          · have hmf : decide ((j : Int) < 30) = false := decide_eq_false (fun h => hx ⟨hlt, h⟩)
            have j1 : (j : Int) < (n : Int) := by omega
            clear hx hlt
            go_wp2_with fail
            go_meet
            exact ⟨rfl, rfl⟩
          · obtain rfl : n = j := by omega
            clear hx hlt
            go_wp2_with fail
            go_meet
            exact ⟨rfl, rfl⟩
        case rest =>
          obtain ⟨rfl, hW⟩ := hcut
          subst hW
          clear hx
          have PY := Lib.hid (play_t A n c F 30 wc hn (HA.out.below QX.out.bel) HF2.out (by decide) (HU.out.below QX.out.bel))
          go_wp2_with fail
          refine PY.out.mono ?_
          rintro e w5 ⟨x, now, rfl, op, hnow, h800, wx, b5⟩
          have Q5 := Lib.hid (QX.out.below b5); have OP := Lib.hid op; have WX := Lib.hid wx
          clear b5 PY QX HF2 hnow h800 op
          have FX_x := Lib.hid (sv_size x wx.l4); have FO_x := Lib.hid (sv_one x); have SL_x := Lib.hid (sv_len x wx.l4)
          have Z_x := Lib.hid (Blk.new w5 32 [.int .i64 0, .slice none 0 0, .slice none 0 0, .int .i64 0, .int .i64 0, .int .i64 0, .int .i64 0, .int .i64 0, .slice none 0 0, .bool false, .int .i64 0, .int .i64 0, .int .i64 0, .slice none 0 0, .bool false, .int .i64 0, .int .i64 0, .int .i64 0, .slice none 0 0, .bool false, .int .i64 0, .int .i64 0, .int .i64 0, .slice none 0 0, .bool false])
          have KN_x := Lib.hid (KSp.new (w1 := w5) (x := x) wx)
          go_upto_region 9 with ((with_reducible refine at_op (.store 32 (.tmp 10) (.tmp 41)) rfl ?_); go_must (refine store_blk 32 (.tmp 10) (.tmp 41) (w5).heap.size 32 _ (sv x) rfl rfl Z_x.out SL_x.out.symm FX_x.out FO_x.out rfl rfl ?_))
          obtain ⟨V5, hV5⟩ : ∃ V, ((w5).alloc (.cells #[.int .i64 0, .slice none 0 0, .slice none 0 0, .int .i64 0, .int .i64 0, .int .i64 0, .int .i64 0, .int .i64 0, .slice none 0 0, .bool false, .int .i64 0, .int .i64 0, .int .i64 0, .slice none 0 0, .bool false, .int .i64 0, .int .i64 0, .int .i64 0, .slice none 0 0, .bool false, .int .i64 0, .int .i64 0, .int .i64 0, .slice none 0 0, .bool false] 32)).setRow (w5).heap.size (sv x).toArray = V := ⟨_, rfl⟩
          rw [hV5] at KN_x ⊢
          have K_x := Lib.hid KN_x.out.1
          have B_x := Lib.hid KN_x.out.2
          clear hV5 KN_x Z_x FO_x SL_x
          clear wx
          obtain ⟨g, hg⟩ : ∃ g, w5.heap.size = g := ⟨_, rfl⟩
          have HGE := Lib.hid hg
          have Q6 := Lib.hid (Q5.out.below B_x.out)
          rw [hg] at K_x ⊢
          clear hg
          obtain ⟨c4, hc4, hlt4⟩ : ∃ k : Nat, r.r.cl = (k : Int) ∧ k < 4 := by
            have h := clB_q (mayR_q MB.out).cl
            exact ⟨r.r.cl.toNat, h.1.symm, h.2⟩
          obtain ⟨z, hz⟩ : ∃ z, x.last[c4]? = some z := ⟨_, List.getElem?_eq_getElem (by have := WX.out.l4; omega)⟩
          have HZ := Lib.hid hz; have HC4 := Lib.hid hc4
          have d0 := (rv_cells Q6.out.box).1
          have d1 := (rv_cells Q6.out.box).2.1
          rw [hc4] at d0
          have e1 := cell_last K_x.out.box hz 1 _ rfl
          have k4 : (c4 : Int) < 4 := by omega
          clear hz hc4 hlt4
          by_cases hsq : r.r.sq ≤ z.r.sq
          · go_quiet (fail)
            obtain ⟨U, hU⟩ : ∃ U, V5.drewN nq = U := ⟨_, rfl⟩
            have BU : Below V5.heap.size V5 U := by rw [← hU]; exact below_drewN' (Below.refl _ _) nq
            rw [hU]
            have Q7 := Lib.hid (Q6.out.below BU)
            have TD := Lib.hid (tolds_t U (HU.out.below Q7.out.bel))
            clear hU BU d0 d1 e1
            go_wp2_with fail
            refine TD.out.mono ?_
            rintro e w6 ⟨rfl, b6⟩
            go_wp2_with fail
            go_ret
            exact ⟨rfl, Q7.out.bel.trans (b6.mono Q7.out.bel.size)⟩
          · have hsf : decide (r.r.sq ≤ z.r.sq) = false := decide_eq_false hsq
            go_quiet (fail)
            have HSQ := Lib.hid (show z.r.sq < r.r.sq by omega)
            obtain ⟨U, hU⟩ : ∃ U, V5.drewN nq = U := ⟨_, rfl⟩
            have BU : Below V5.heap.size V5 U := by rw [← hU]; exact below_drewN' (Below.refl _ _) nq
            rw [hU]
            have B5U := Lib.hid (B_x.out.trans (BU.mono B_x.out.size))
            have BXU := Lib.hid (K_x.out.box.below BU K_x.out.box.lt)
            clear hU BU d0 d1 e1 hsq hsf Q6 B_x K_x
            obtain ⟨ra, hra⟩ : ∃ y, bits .and .i64 read 15 = y := ⟨_, rfl⟩
            obtain ⟨wa, hwa⟩ : ∃ y, bits .and .i64 write 15 = y := ⟨_, rfl⟩
            have b3 := BXU.out.cell 3; have b4 := BXU.out.cell 4
            rw [show (sv x)[3]? = some (.int .i64 x.rd) from rfl] at b3
            rw [show (sv x)[4]? = some (.int .i64 x.wr) from rfl] at b4
            have f3 := BXU.out.frozen 3; have f4 := BXU.out.frozen 4
            go_upto_region 12 with (fail)
            obtain ⟨x2, hx2⟩ : ∃ y : Spv, { x with rd := ra, wr := wa } = y := ⟨_, rfl⟩
            have BX2 := Lib.hid (show Blk ((U.setCell ⟨g, 3, none⟩ (.int .i64 ra)).setCell ⟨g, 4, none⟩ (.int .i64 wa)) g 32 (sv x2) from by rw [← hx2]; exact (BXU.out.store 3 (.int .i64 ra)).store 4 (.int .i64 wa))
            have B6 := Lib.hid (show Below w5.heap.size w5 ((U.setCell ⟨g, 3, none⟩ (.int .i64 ra)).setCell ⟨g, 4, none⟩ (.int .i64 wa)) from (B5U.out.setCell (p := ⟨g, 3, none⟩) (Nat.le_of_eq HGE.out) _).setCell (p := ⟨g, 4, none⟩) (Nat.le_of_eq HGE.out) _)
            obtain ⟨V6, hV6⟩ : ∃ V, (U.setCell ⟨g, 3, none⟩ (.int .i64 ra)).setCell ⟨g, 4, none⟩ (.int .i64 wa) = V := ⟨_, rfl⟩
            rw [hV6] at BX2 B6 ⊢
            have WX2 := Lib.hid (show SpW V6 x2 from by
              have h := WX.out.below B6.out
              rw [← hx2]
              exact ⟨h.its, h.it, h.wts, h.wt, h.l4, h.la, h.n, h.m⟩)
            have Q8 := Lib.hid (Q5.out.below B6.out)
            have S2 := Lib.hid (show x2.sp = { x.sp with rd := ra, wr := wa } by rw [← hx2]; rfl)
            have HX2 := Lib.hid (show x2.last = x.last ∧ x2.now = x.now by rw [← hx2]; exact ⟨rfl, rfl⟩)
            clear hV6 hx2 b3 b4 f3 f4 BXU B5U
            have HRA := Lib.hid hra; have HWA := Lib.hid hwa
            clear hra hwa
            have d0 := (rv_cells Q8.out.box).1
            rw [HC4.out] at d0
            go_upto_region 13 with (fail)
            clear d0
            have MX2 := Lib.hid (show MayS x2.sp from by
              have h := OP.out.may
              rw [S2.out]
              exact ⟨h.n0, h.n1, by rw [← HRA.out]; exact al15 read, by rw [← HWA.out]; exact al15 write, h.il, h.it, h.io, h.wl, h.wt, h.la⟩)
            have HZ2 := Lib.hid (show x2.last[c4]? = some z by rw [HX2.out.1]; exact HZ.out)
            have LQ := Lib.hid (show (lastOf x2.sp r.r.cl).sq < r.r.sq by rw [HC4.out, last_of HZ2.out]; exact HSQ.out)
            rw [bit_small (show c4 < 4 by omega)]
            obtain ⟨bt, hbt⟩ : ∃ y : Int, (2 : Int) ^ c4 = y := ⟨_, rfl⟩
            rw [hbt]
            obtain ⟨rz, hrz⟩ : ∃ b, (bits .and .i64 read bt == 0) = b := ⟨_, rfl⟩
            obtain ⟨wz, hwz⟩ : ∃ b, (bits .and .i64 write bt == 0) = b := ⟨_, rfl⟩
            obtain ⟨rb, hrb⟩ : ∃ b, rdK r.r.kd = b := ⟨_, rfl⟩
            obtain ⟨wb, hwb⟩ : ∃ b, wrK r.r.kd = b := ⟨_, rfl⟩
            have HAE := allow_is (s := x2.sp) (r := qp r.r) (by rw [S2.out]) (by rw [S2.out]) HRA.out HWA.out HC4.out k4 hbt hrz hwz hrb hwb
            have MSM := Lib.hid (may_small MB.out)
            have c0 := (sv_cells BX2.out).1
            have FX2 := Lib.hid (sv_size x2 WX2.out.l4)
            have G8 := Lib.hid Q8.out.box
            clear hbt HRA HWA S2 HX2 HSQ HZ OP
            obtain ⟨al, hal⟩ : ∃ b, allowP x2.sp (qp r.r) = b := ⟨_, rfl⟩
            rw [hal] at HAE
            have HALE := Lib.hid HAE; have HAL := Lib.hid hal
            clear HAE hal
            have DA := Lib.hid (DoM x2 x2.sp.now r V6 WX2.out MX2.out Q8.out.rx MSM.out.1 MSM.out.2 (HU.out.below Q8.out.bel) _ rfl)
            go_wp2_with (first
              | ((with_reducible refine load_blk 32 (.tmp 10) g 32 (sv x2) _ rfl rfl ?_ Tryd.underlying32 ?_ ?_ ?_ ?_); exact BX2.out; exact rfl; exact FX2.out; exact rfl)
              | ((with_reducible refine load_blk 38 (.tmp 5) w.heap.size 38 (rv r) _ rfl rfl ?_ Tryd.underlying38 ?_ ?_ ?_ ?_); exact G8.out; exact rfl; exact FR.out; exact rfl))
            refine DA.out.mono ?_
            rintro e w7 ⟨xA, R, q, c', rfl, pA, rA, sA, wA, mA, oA, tA_, -, bA⟩
            have RA := Lib.hid rA; have PA := Lib.hid pA; have OA := Lib.hid oA
            have Q9 := Lib.hid (Q8.out.below bA)
            have BX3 := Lib.hid (BX2.out.below bA BX2.out.lt); have WX3 := Lib.hid (WX2.out.below bA); have WA := Lib.hid wA
            have HGW := Lib.hid (show g < w7.heap.size from BX3.out.lt); have B67 := Lib.hid bA
            clear sA oA tA_ rA DA bA pA mA G8 c0 BX2 WX2 Q8
            have FX_xA := Lib.hid (sv_size xA wA.l4); have FO_xA := Lib.hid (sv_one xA); have SL_xA := Lib.hid (sv_len xA wA.l4)
            have Z_xA := Lib.hid (Blk.new w7 32 [.int .i64 0, .slice none 0 0, .slice none 0 0, .int .i64 0, .int .i64 0, .int .i64 0, .int .i64 0, .int .i64 0, .slice none 0 0, .bool false, .int .i64 0, .int .i64 0, .int .i64 0, .slice none 0 0, .bool false, .int .i64 0, .int .i64 0, .int .i64 0, .slice none 0 0, .bool false, .int .i64 0, .int .i64 0, .int .i64 0, .slice none 0 0, .bool false])
            have KN_xA := Lib.hid (KSp.new (w1 := w7) (x := xA) wA)
            go_upto_region 14 with ((with_reducible refine at_op (.store 32 (.tmp 13) (.tmp 69)) rfl ?_); go_must (refine store_blk 32 (.tmp 13) (.tmp 69) (w7).heap.size 32 _ (sv xA) rfl rfl Z_xA.out SL_xA.out.symm FX_xA.out FO_xA.out rfl rfl ?_))
            obtain ⟨V8, hV8⟩ : ∃ V, ((w7).alloc (.cells #[.int .i64 0, .slice none 0 0, .slice none 0 0, .int .i64 0, .int .i64 0, .int .i64 0, .int .i64 0, .int .i64 0, .slice none 0 0, .bool false, .int .i64 0, .int .i64 0, .int .i64 0, .slice none 0 0, .bool false, .int .i64 0, .int .i64 0, .int .i64 0, .slice none 0 0, .bool false, .int .i64 0, .int .i64 0, .int .i64 0, .slice none 0 0, .bool false] 32)).setRow (w7).heap.size (sv xA).toArray = V := ⟨_, rfl⟩
            rw [hV8] at KN_xA ⊢
            have K_xA := Lib.hid KN_xA.out.1
            have B_xA := Lib.hid KN_xA.out.2
            clear hV8 KN_xA Z_xA FO_xA SL_xA
            clear wA
            obtain ⟨gA, hgA⟩ : ∃ g, w7.heap.size = g := ⟨_, rfl⟩
            have HGA := Lib.hid hgA
            rw [hgA] at K_xA ⊢
            clear hgA
            have Q10 := Lib.hid (Q9.out.below B_xA.out); have OA2 := Lib.hid (own_below OA.out B_xA.out); have BX4 := Lib.hid (BX3.out.below B_xA.out BX3.out.lt)
            clear OA BX3 Q9
            have Q9 := Q10
            clear Q10
            have d2 := (rv_cells Q9.out.box).2.2.1
            have RDc := Lib.hid (fun W => refReads_t r.r.kd W)
            have WRc := Lib.hid (fun W => refWrites_t r.r.kd W)
            rw [hrb] at RDc
            rw [hwb] at WRc
            go_cut [15] (fun s wx => s = .bool (!al) ∧ wx = V8)
            case first =>
              clear hrb hwb
              cases rb with
              | false =>
                cases wb with
                | false =>
                  go_wp2_with fail
                  refine (RDc.out _).mono ?_
                  rintro e w8 ⟨rfl, rfl⟩
                  go_wp2_with fail
                  refine (WRc.out _).mono ?_
                  rintro e w9 ⟨rfl, rfl⟩
                  go_wp2_with fail
                  go_meet
                  exact ⟨by rw [HALE.out]; try simp, rfl⟩
                | true =>
                  go_wp2_with fail
                  refine (RDc.out _).mono ?_
                  rintro e w8 ⟨rfl, rfl⟩
                  go_wp2_with fail
                  refine (WRc.out _).mono ?_
                  rintro e w9 ⟨rfl, rfl⟩
                  cases wz with
                  | false =>
                    go_wp2_with fail
                    go_meet
                    exact ⟨by rw [HALE.out]; try simp, rfl⟩
                  | true =>
                    go_wp2_with fail
                    go_meet
                    exact ⟨by rw [HALE.out]; try simp, rfl⟩
              | true =>
                cases rz with
                | false =>
                  cases wb with
                  | false =>
                    go_wp2_with fail
                    refine (RDc.out _).mono ?_
                    rintro e w8 ⟨rfl, rfl⟩
                    go_wp2_with fail
                    refine (WRc.out _).mono ?_
                    rintro e w9 ⟨rfl, rfl⟩
                    go_wp2_with fail
                    go_meet
                    exact ⟨by rw [HALE.out]; try simp, rfl⟩
                  | true =>
                    go_wp2_with fail
                    refine (RDc.out _).mono ?_
                    rintro e w8 ⟨rfl, rfl⟩
                    go_wp2_with fail
                    refine (WRc.out _).mono ?_
                    rintro e w9 ⟨rfl, rfl⟩
                    cases wz with
                    | false =>
                      go_wp2_with fail
                      go_meet
                      exact ⟨by rw [HALE.out]; try simp, rfl⟩
                    | true =>
                      go_wp2_with fail
                      go_meet
                      exact ⟨by rw [HALE.out]; try simp, rfl⟩
                | true =>
                  go_wp2_with fail
                  refine (RDc.out _).mono ?_
                  rintro e w8 ⟨rfl, rfl⟩
                  go_wp2_with fail
                  go_meet
                  exact ⟨by rw [HALE.out]; try simp, rfl⟩
            case rest =>
              obtain ⟨rfl, hW⟩ := hcut
              subst hW
              clear RDc WRc d2 hrz hwz hrb hwb HALE
              cases al with
              | true =>
                obtain ⟨y1, ly, hy1, hk6⟩ := allowed_h (r := r.r) MX2.out MB.out LQ.out HAL.out
                obtain ⟨v1, gl1, hl1, hv1, rfl, ro⟩ := rep_head OA2.out (RA.out.trans hy1)
                have cr := ro.cells.2.2.1
                have l0 : 0 < R.length := hl1
                have l1 : (1 : Int) ≤ (R.length : Int) := by omega
                have l2 : decide ((R.length : Int) < 1) = false := decide_eq_false (by omega)
                have e6 : (v1.r.kd == 6) = false := by rw [beq_eq_false_iff_ne, hv1]; exact hk6
                have TD := Lib.hid (tolds_t _ (HU.out.below Q9.out.bel))
                clear hy1 hk6 hl1 hv1 ro
                go_wp2_with fail
                refine TD.out.mono ?_
                rintro e w9 ⟨rfl, b9⟩
                go_wp2_with fail
                go_ret
                exact ⟨rfl, Q9.out.bel.trans (b9.mono Q9.out.bel.size)⟩
              | false =>
                have HD := denied (r := r.r) MX2.out MB.out LQ.out HAL.out
                obtain ⟨v1, gl1, rfl, hv1, rfl, ro⟩ := rep_one OA2.out (RA.out.trans (congrArg Prod.snd HD))
                have PA2 := Lib.hid (PA.out.trans (congrArg Prod.fst HD))
                have cr := ro.cells.2.2.1
                rw [hv1] at cr
                change _ = some (Value.int .i64 6) at cr
                clear HD hv1 ro
                go_upto_region 19 with (fail)
                clear cr
                obtain ⟨U, hU⟩ : ∃ U, wc.drew = U := ⟨_, rfl⟩
                have BU := Lib.hid (show Below wc.heap.size wc U from by rw [← hU]; exact (Below.refl _ _).drew)
                have QU := Lib.hid (Q9.out.below BU.out)
                have BXU := Lib.hid (BX4.out.below BU.out BX4.out.lt)
                have BAU := Lib.hid (K_xA.out.box.below BU.out K_xA.out.box.lt)
                have B7U := Lib.hid (B_xA.out.trans (BU.out.mono B_xA.out.size))
                have G1 : CD U w.heap.size g c4 z := ⟨by
                  have := (rv_cells QU.out.box).1
                  rwa [HC4.out] at this, fun j v hv => cell_last BXU.out HZ2.out j v hv, QU.out.box.lt, BXU.out.lt⟩
                obtain ⟨z4, hz4⟩ : ∃ y, xA.last[c4]? = some y := ⟨_, List.getElem?_eq_getElem (by have := WA.out.l4; omega)⟩
                have HZ4 := Lib.hid hz4
                have FP := Lib.hid (pv_size z); have FPO := Lib.hid (pv_oneA z)
                have SA := sv_at xA c4 z4 hz4
                have BS := Lib.hid (show Blk U gA 32 (svL xA c4 ++ (pv z4 ++ svR xA c4)) from by rw [← SA]; exact BAU.out)
                have SLL := Lib.hid (show 5 + c4 * 5 = (svL xA c4).length from (svL_len xA c4 (by have := WA.out.l4; omega)).symm)
                clear SA K_xA BAU Q9 BX4 BU hz4
                refine wp_region_E (fun Y => CD Y w.heap.size g c4 z) (fun _ => false) (by kernel_rfl) ?_
                change wpAnyE _ _ _ _ _ _ _ _ _ wc.drew
                rw [hU]
                clear hU
                refine wpAnyE_take (i := 0) (v := ?_) rfl (by kernel_rfl) (by kernel_rfl) (by kernel_rfl) (by kernel_rfl) (fun _ _ _ h => h) (Or.inl ⟨by kernel_rfl, ?_⟩) G1 ?_
                rotate_left 1
                · (intro w hS; clear hS; go_simp; try (with_reducible rfl))
                refine wpAnyE_take (i := 1) (v := ?_) rfl (by kernel_rfl) (by kernel_rfl) (by kernel_rfl) (by kernel_rfl) (fun _ _ _ h => h) (Or.inl ⟨by kernel_rfl, ?_⟩) G1 ?_
                rotate_left 1
                · (intro w hS; have hs := hS.c0; clear hS; go_simp; try (with_reducible rfl))
                refine wpAnyE_take (i := 2) (v := ?_) rfl (by kernel_rfl) (by kernel_rfl) (by kernel_rfl) (by kernel_rfl) (fun _ _ _ h => h) (Or.inl ⟨by kernel_rfl, ?_⟩) G1 ?_
                rotate_left 1
                · (intro w hS; clear hS; go_simp; try (with_reducible rfl))
                refine wpAnyE_take (i := 3) (v := ?_) rfl (by kernel_rfl) (by kernel_rfl) (by kernel_rfl) (by kernel_rfl) (fun _ _ _ h => h) (Or.inl ⟨by kernel_rfl, ?_⟩) G1 ?_
                rotate_left 1
                · (intro w hS; have hs := hS.c0; clear hS; go_simp; try (with_reducible rfl))
                refine wpAnyE_take (i := 4) (v := ?_) rfl (by kernel_rfl) (by kernel_rfl) (by kernel_rfl) (by kernel_rfl) (fun _ _ _ h => h) (Or.inl ⟨by kernel_rfl, ?_⟩) G1 ?_
                rotate_left 1
                · (intro w hS; clear hS; go_simp; try (with_reducible rfl))
                refine wpAnyE_take (i := 5) (v := ?_) rfl (by kernel_rfl) (by kernel_rfl) (by kernel_rfl) (by kernel_rfl) (fun _ _ _ h => h) (Or.inl ⟨by kernel_rfl, ?_⟩) G1 ?_
                rotate_left 1
                · (intro w hS; clear hS; go_simp; try (with_reducible rfl))
                refine wpAnyE_take (i := 6) (v := .agg (pv z).toArray) rfl (by kernel_rfl) (by kernel_rfl) (by kernel_rfl) (by kernel_rfl) (fun _ _ _ h => h) (yieldsIf_load_mid (by kernel_rfl) 29 (.tmp 111) rfl g (5 + c4 * 5) (by go_simp) (pv z) _ (fun _ h => h.bx) Tryd.underlying29 rfl (FP.out)) G1 ?_
                refine wpAnyE_take (i := 7) (v := ?_) rfl (by kernel_rfl) (by kernel_rfl) (by kernel_rfl) (by kernel_rfl) (fun _ _ _ h => h) (Or.inl ⟨by kernel_rfl, ?_⟩) G1 ?_
                rotate_left 1
                · (intro w hS; clear hS; go_simp; try (with_reducible rfl))
                refine wpAnyE_take (i := 8) (v := ?_) rfl (by kernel_rfl) (by kernel_rfl) (by kernel_rfl) (by kernel_rfl) (fun _ _ _ h => h) (Or.inl ⟨by kernel_rfl, ?_⟩) G1 ?_
                rotate_left 1
                · (intro w hS; clear hS; go_simp; try (with_reducible rfl))
                refine wpAnyE_storeP (i := 9) (by kernel_rfl) rfl (by kernel_rfl) 29 (.tmp 114) (.tmp 112) gA (5 + c4 * 5) 32 (svL xA c4) (pv z4) (svR xA c4) (pv z) rfl BS.out SLL.out rfl FP.out FPO.out (by go_simp) (by go_simp) fun wz rz KZ => ?_
                have QZ := Lib.hid (show w.heap.size ≠ gA by have := Q5.out.box.lt; have := HGE.out; have := HGW.out; have := HGA.out; omega)
                have G2 : CD wz w.heap.size g c4 z := G1.kept QZ.out (by have := HGW.out; have := HGA.out; omega) KZ
                have RZ := Lib.hid rz
                have BZ := Lib.hid (show Below w7.heap.size w7 wz from B7U.out.trans ⟨KZ.os, KZ.tape, KZ.output, KZ.size, fun k hlt => KZ.block k (Nat.lt_of_lt_of_le hlt B7U.out.size) (by have := HGA.out; omega)⟩)
                have BXZ := Lib.hid (BXU.out.kept KZ (show g ≠ gA by have := HGW.out; have := HGA.out; omega))
                refine ⟨.inr G2, ?_⟩
                clear G1 G2 rz KZ
                refine wpAnyE_done (by kernel_rfl) ?_ _
                go_simp
                obtain ⟨x3, hx3⟩ : ∃ y : Spv, { xA with last := xA.last.set c4 z } = y := ⟨_, rfl⟩
                have B3 := Lib.hid (show Blk wz gA 32 (sv x3) from by rw [← hx3, sv_put xA c4 z4 z HZ4.out]; exact RZ.out)
                have W3 := Lib.hid (show SpW wz x3 from by
                  have h := WA.out.below BZ.out
                  have hz := (WX3.out.below BZ.out).la z (List.mem_of_getElem? HZ2.out)
                  rw [← hx3]
                  exact ⟨h.its, h.it, h.wts, h.wt, by rw [List.length_set]; exact h.l4, fun y hy => by
                    rcases List.mem_or_eq_of_mem_set hy with hy | rfl
                    · exact h.la y hy
                    · exact hz, h.n, h.m⟩)
                have W2 := Lib.hid (WX3.out.below BZ.out)
                have E3 : spS x3.sp x2.sp = true := by
                  rw [spS_iff, ← hx3]
                  exact back_set PA2.out HZ2.out HC4.out
                clear hx3
                have FX3 := Lib.hid (sv_size x3 W3.out.l4)
                have BW := Lib.hid (show Below w.heap.size w wz from Q5.out.bel.trans ((B6.out.trans (B67.out.mono B6.out.size)).trans (BZ.out.mono (Nat.le_trans B6.out.size B67.out.size)) |>.mono Q5.out.bel.size))
                have TD := Lib.hid (tolds_t wz (HU.out.below BW.out))
                go_wp2_with fail
                refine TD.out.mono ?_
                rintro e w9 ⟨rfl, b9⟩
                have B39 := Lib.hid (B3.out.below b9 B3.out.lt); have BX9 := Lib.hid (BXZ.out.below b9 BXZ.out.lt); have BW9 := Lib.hid (BW.out.trans (b9.mono BW.out.size))
                have SS := Lib.hid (SpSame_t x3 x2 w9 (W3.out.below b9) (W2.out.below b9))
                rw [E3] at SS
                clear b9 TD B3 BXZ BW E3
                go_wp2_with (first
                  | ((with_reducible refine load_blk_gdO 122 32 (.tmp 13) gA 32 (sv x3) _ ?_ ?_ rfl ?_ Tryd.underlying32 ?_ ?_ ?_ ?_); exact rfl; kernel_rfl; exact B39.out; exact rfl; exact FX3.out; exact rfl)
                  | ((with_reducible refine load_blk_gdO 123 32 (.tmp 10) g 32 (sv x2) _ ?_ ?_ rfl ?_ Tryd.underlying32 ?_ ?_ ?_ ?_); exact rfl; kernel_rfl; exact BX9.out; exact rfl; exact FX2.out; exact rfl))
                refine SS.out.mono ?_
                rintro e w10 ⟨rfl, b10⟩
                go_wp2_with fail
                go_ret
                exact ⟨rfl, BW9.out.trans (b10.mono BW9.out.size)⟩
end Go.Proofs.YtfcmhpgopihidaaDoor
