/-
  THE REFERENCE OF CHAPTER 10
  THE REFERENCE OF CHAPTER 10
  THE REFERENCE OF CHAPTER 10
-/
import Derived.Test.YtlipjglehongeaaGreatDoorGa42
namespace Go.Proofs.YtlipjglehongeaaGreatDoor
open Go Go.RowKit Sh

set_option maxRecDepth 100000 in
set_option maxHeartbeats 2000000 in
theorem gFirstR_t (x : Gv) (w : World) (h : GvW w x) (hc : GvC x) :
    Calls Tryz.prog 26 #[.agg (gv x).toArray] w fun e w' => ∃ y : Spv, e = .returned (.agg (sv y).toArray) ∧ y.sp = begS x ∧ YS w.heap.size w' y ∧ Below w.heap.size w w' := by
  have S0 := Lib.hid (show BG9 w ((w.alloc (.cells (gv x).toArray 25)).alloc (.cells (sv (gsp 0 0 0)).toArray 46)) x from
    ⟨(GB9.new h).below ((Below.refl _ _).alloc (Nat.le_refl _) _), Blk.new2 w (.cells (gv x).toArray 25) 46 (sv (gsp 0 0 0))⟩)
  have HC := Lib.hid hc; have FG := Lib.hid (gv_size x)
  have FZ := Lib.hid (sv_size (gsp 0 0 0) rfl); have FZO := Lib.hid (sv_one (gsp 0 0 0))
  obtain ⟨rb, hrb⟩ : ∃ b, begB x = b := ⟨_, rfl⟩
  obtain ⟨rs, hrs⟩ : ∃ b, begS x = b := ⟨_, rfl⟩
  have RS := Lib.hid (show rs = if rb then (if x.st.length = 0 then newS x.rd x.wr else gotS x.st) else (gsp 0 0 0).sp from by rw [← hrs, ← hrb]; rfl)
  have HB := Lib.hid hrb
  rw [hrs]
  clear h hc hrs hrb
  go_enter Tryz.func26, Tryz.ntmps26
  go_upto_region 1 with (fail)
  refine world_at (fun Y => BG9 w Y x) S0.out ?_
  rintro V s1
  have S1 := Lib.hid s1
  clear s1 S0
  have MT := Lib.hid (gMayR_t x V S1.out.gb.rx HC.out)
  rw [HB.out] at MT
  have GA := Lib.hid S1.out.gb.a
  go_wp2_with ((with_reducible refine load_blk 25 (.tmp 1) w.heap.size 25 (gv x) _ rfl rfl ?_ Tryz.underlying25 ?_ ?_ ?_ ?_); exact GA.out; exact rfl; exact FG.out; exact rfl)
  refine MT.out.mono ?_
  rintro e w2 ⟨rfl, b1⟩
  have S2 := Lib.hid (S1.out.below b1)
  clear S1 MT b1 GA
  cases rb with
  | false =>
    have HRS := Lib.hid (show (gsp 0 0 0).sp = rs from by rw [RS.out]; rfl)
    have RES := Lib.hid S2.out.res
    have RZ := Lib.hid (S2.out.res.setRow (sv (gsp 0 0 0)))
    have BF := Lib.hid (below_setRow S2.out.gb.bel (g := w.heap.size + 1) (by omega) (sv (gsp 0 0 0)).toArray)
    have BZ := built_zsp
    clear RS
    go_wp2_with ((with_reducible refine at_op (.store 46 (.tmp 2) (.tmp 8)) rfl ?_); go_must (refine store_blk 46 (.tmp 2) (.tmp 8) (w.heap.size + 1) 46 _ (sv (gsp 0 0 0)) rfl rfl RES.out rfl FZ.out FZO.out rfl rfl ?_))
    exact ret_blk (p := 2) (ty := 46) rfl rfl (w.heap.size + 1) 46 _ _ rfl RZ.out Tryz.underlying46 rfl FZ.out ⟨gsp 0 0 0, rfl, HRS.out, ys_gz _ _, BF.out⟩
  | true =>
  obtain ⟨_, c1, c2, _, c4⟩ := gv_cells S2.out.gb.a
  by_cases h0 : x.st.length = 0
  · have e0 : ((x.st.length : Int) == 0) = true := by rw [h0]; rfl
    have HS := Lib.hid (show newS x.rd x.wr = rs from by rw [RS.out, if_pos rfl, if_pos h0])
    clear RS h0
    go_wp2_with fail
    refine (refNew_t x.rd x.wr w2).mono ?_
    rintro e w3 ⟨rfl, bw3⟩
    have S3 := Lib.hid (S2.out.below bw3)
    clear S2 bw3 c1 c2 c4 e0
    have RES := Lib.hid S3.out.res
    have RZ := Lib.hid (S3.out.res.setRow (sv (nsp x.rd x.wr 0 1 2 3)))
    have BF := Lib.hid (below_setRow S3.out.gb.bel (g := w.heap.size + 1) (by omega) (sv (nsp x.rd x.wr 0 1 2 3)).toArray)
    have FX := Lib.hid (sv_size (nsp x.rd x.wr 0 1 2 3) rfl); have FXO := Lib.hid (sv_one (nsp x.rd x.wr 0 1 2 3))
    have SLX := Lib.hid (show (sv (gsp 0 0 0)).length = (sv (nsp x.rd x.wr 0 1 2 3)).length from (sv_len _ rfl).trans (sv_len (nsp x.rd x.wr 0 1 2 3) rfl).symm)
    go_wp2_with ((with_reducible refine at_op (.store 46 (.tmp 2) (.tmp 17)) rfl ?_); go_must (refine store_blk 46 (.tmp 2) (.tmp 17) (w.heap.size + 1) 46 _ (sv (nsp x.rd x.wr 0 1 2 3)) rfl rfl RES.out SLX.out FX.out FXO.out rfl rfl ?_))
    exact ret_blk (p := 2) (ty := 46) rfl rfl (w.heap.size + 1) 46 _ _ rfl RZ.out Tryz.underlying46 rfl FX.out ⟨nsp x.rd x.wr 0 1 2 3, rfl, (nsp_sp _ _).trans HS.out, ys_nz _ _ _ _, BF.out⟩
  · have e0 : ((x.st.length : Int) == 0) = false := by rw [beq_eq_false_iff_ne]; omega
    have HLW := Lib.hid S2.out.gb.bel.size
    have HS := Lib.hid (show gotS x.st = rs from by rw [RS.out, if_pos rfl, if_neg h0])
    have OK := Lib.hid (show okS x.st = true from by
      have h : stB x = true := by
        have hb := HB.out
        unfold begB at hb
        simp only [Bool.and_eq_true] at hb
        exact hb.2.2.2.2
      unfold stB stQ at h
      rw [decide_eq_false h0, Bool.false_or] at h
      simp only [Bool.and_eq_true] at h
      exact h.1)
    have SGT := Lib.hid (refGetS_t x.st x.sp x.st.length x.sc w2 rfl S2.out.gb.rx.sc S2.out.gb.rx.st S2.out.gb.rx.sb S2.out.gb.rx.sl)
    clear RS h0
    go_wp2_with fail
    refine SGT.out.mono ?_
    rintro e w3 ⟨bw3, hh⟩
    obtain ⟨y, hy, rfl, yy⟩ : ∃ y : Spv, y.sp = gotS x.st ∧ e = .returned (.tuple #[.agg (sv y).toArray, .int .i64 0]) ∧ YS w2.heap.size w3 y := by
      rcases hh with ⟨h1, _⟩ | ⟨_, y, h1, h2, h3⟩
      · rw [OK.out] at h1; cases h1
      · exact ⟨y, h1, h2, h3⟩
    have S3 := Lib.hid (S2.out.below bw3); have HY := Lib.hid (hy.trans HS.out)
    have yy := yy.low HLW.out
    have wy := yy.w
    clear S2 bw3 SGT c1 c2 c4 e0 hh hy OK HS
    have FX_y := Lib.hid (sv_size y wy.l4); have FO_y := Lib.hid (sv_one y); have SL_y := Lib.hid (sv_len y wy.l4)
    have Z_y := Lib.hid (Blk.new w3 46 [.int .i64 0, .slice none 0 0, .slice none 0 0, .int .i64 0, .int .i64 0, .int .i64 0, .int .i64 0, .int .i64 0, .slice none 0 0, .bool false, .int .i64 0, .int .i64 0, .int .i64 0, .slice none 0 0, .bool false, .int .i64 0, .int .i64 0, .int .i64 0, .slice none 0 0, .bool false, .int .i64 0, .int .i64 0, .int .i64 0, .slice none 0 0, .bool false])
    have KN_y := Lib.hid (KSp.new (w1 := w3) (x := y) wy)
    go_upto_region 6 with ((with_reducible refine at_op (.store 46 (.tmp 3) (.tmp 22)) rfl ?_); go_must (refine store_blk 46 (.tmp 3) (.tmp 22) (w3).heap.size 46 _ (sv y) rfl rfl Z_y.out SL_y.out.symm FX_y.out FO_y.out rfl rfl ?_))
    obtain ⟨V3, hV3⟩ : ∃ V, ((w3).alloc (.cells #[.int .i64 0, .slice none 0 0, .slice none 0 0, .int .i64 0, .int .i64 0, .int .i64 0, .int .i64 0, .int .i64 0, .slice none 0 0, .bool false, .int .i64 0, .int .i64 0, .int .i64 0, .slice none 0 0, .bool false, .int .i64 0, .int .i64 0, .int .i64 0, .slice none 0 0, .bool false, .int .i64 0, .int .i64 0, .int .i64 0, .slice none 0 0, .bool false] 46)).setRow (w3).heap.size (sv y).toArray = V := ⟨_, rfl⟩
    rw [hV3] at KN_y ⊢
    have K_y := Lib.hid KN_y.out.1
    have B_y := Lib.hid KN_y.out.2
    clear hV3 KN_y Z_y FO_y SL_y
    have S4 := Lib.hid (S3.out.below B_y.out)
    have YY := Lib.hid (yy.below B_y.out)
    obtain ⟨g4, hg4⟩ : ∃ g, w3.heap.size = g := ⟨_, rfl⟩
    rw [hg4] at K_y ⊢
    clear S3 B_y wy yy hg4
    have RES := Lib.hid S4.out.res
    have RZ := Lib.hid (S4.out.res.setRow (sv y))
    have BF := Lib.hid (below_setRow S4.out.gb.bel (g := w.heap.size + 1) (by omega) (sv y).toArray)
    have FX := Lib.hid (sv_size y YY.out.l4); have FXO := Lib.hid (sv_one y)
    have SLX := Lib.hid (show (sv (gsp 0 0 0)).length = (sv y).length from (sv_len _ rfl).trans (sv_len y YY.out.l4).symm)
    have KW := Lib.hid (YY.out.kept ((Kept.refl (fun k => k = w.heap.size + 1) V3).setRowK (.inl rfl) (sv y).toArray) S4.out.res)
    go_wp2_with (first
      | ((with_reducible refine load_blk 46 (.tmp 3) g4 46 (sv y) _ rfl rfl ?_ Tryz.underlying46 ?_ ?_ ?_ ?_); exact K_y.out.box; exact rfl; exact FX_y.out; exact rfl)
      | ((with_reducible refine at_op (.store 46 (.tmp 2) (.tmp 24)) rfl ?_); go_must (refine store_blk 46 (.tmp 2) (.tmp 24) (w.heap.size + 1) 46 _ (sv y) rfl rfl RES.out SLX.out FX.out FXO.out rfl rfl ?_)))
    exact ret_blk (p := 2) (ty := 46) rfl rfl (w.heap.size + 1) 46 _ _ rfl RZ.out Tryz.underlying46 rfl FX.out ⟨y, rfl, HY.out, KW.out, BF.out⟩
end Go.Proofs.YtlipjglehongeaaGreatDoor
namespace Go.Proofs.YtlipjglehongeaaGreatDoor
open Go Go.RowKit Sh

set_option maxRecDepth 100000 in
set_option maxHeartbeats 1000000 in
theorem gLinkR_no (x : Gv) (w : World) (h : GvW w x) (hc : GvC x) (hm : begB x = false) :
    Calls Tryz.prog 23 #[.agg (gv x).toArray] w fun e w' => e = .returned (.agg (u8s zH).toArray) ∧ Below w.heap.size w w' := by
  have S0 := Lib.hid (HG9.new h)
  have HC := Lib.hid hc; have FG := Lib.hid (gv_size x); have HM := Lib.hid hm
  clear h hc hm
  go_enter Tryz.func23, Tryz.ntmps23
  go_upto_region 1 with (fail)
  refine world_at (fun Y => HG9 w Y x zH) S0.out ?_
  rintro V s1
  have S1 := Lib.hid s1
  clear s1 S0
  have MT := Lib.hid (gMayR_t x V S1.out.gb.rx HC.out)
  rw [HM.out] at MT
  have GA := Lib.hid S1.out.gb.a
  go_wp2_with ((with_reducible refine load_blk 25 (.tmp 1) w.heap.size 25 (gv x) _ rfl rfl ?_ Tryz.underlying25 ?_ ?_ ?_ ?_); exact GA.out; exact rfl; exact FG.out; exact rfl)
  refine MT.out.mono ?_
  rintro e w1 ⟨rfl, b1⟩
  have S2 := Lib.hid (S1.out.below b1)
  clear S1 MT b1 GA
  have RES := Lib.hid S2.out.res
  have RZ := Lib.hid (S2.out.res.setRow (u8s zH))
  have BF := Lib.hid (below_setRow S2.out.gb.bel (g := w.heap.size + 1) (by omega) (u8s zH).toArray)
  have BZ := built_hz
  have FZ := Lib.hid (hash_size zH rfl)
  go_wp2_with ((with_reducible refine at_op (.store 36 (.tmp 2) (.tmp 8)) rfl ?_); go_must (refine store_blk 36 (.tmp 2) (.tmp 8) (w.heap.size + 1) 36 (u8s zH) (u8s zH) rfl rfl RES.out rfl FZ.out (u8s_oneD _) rfl rfl ?_))
  exact ret_blk (p := 2) (ty := 36) rfl rfl (w.heap.size + 1) 36 _ _ rfl RZ.out Tryz.underlying36 rfl FZ.out ⟨rfl, BF.out⟩
end Go.Proofs.YtlipjglehongeaaGreatDoor
namespace Go.Proofs.YtlipjglehongeaaGreatDoor
open Go Go.RowKit Sh

theorem GS9.new {w : World} {x y : Gv} (hx : GvW w x) (hy : GvW w y) : GS9 w ((w.alloc (.cells (gv x).toArray 25)).alloc (.cells (gv y).toArray 25)) x y := by
  have b0 : Below w.heap.size w ((w.alloc (.cells (gv x).toArray 25)).alloc (.cells (gv y).toArray 25)) := ((Below.refl _ _).alloc (Nat.le_refl _) _).alloc (by simp) _
  exact ⟨(Blk.new w 25 (gv x)).alloc _, Blk.new2 w _ 25 (gv y), hx.below b0, hy.below b0, b0⟩
theorem GS9.below {w0 W W' : World} {x y : Gv} (h : GS9 w0 W x y) (hb : Below W.heap.size W W') : GS9 w0 W' x y := ⟨h.a.below hb h.a.lt, h.b.below hb h.b.lt, h.rx.below hb, h.ry.below hb, h.bel.trans (hb.mono h.bel.size)⟩
set_option maxRecDepth 100000 in
set_option maxHeartbeats 4000000 in
theorem gSameR_t (x y : Gv) (w : World) (hx : GvW w x) (hy : GvW w y) :
    Calls Tryz.prog 19 #[.agg (gv x).toArray, .agg (gv y).toArray] w fun e w' => e = .returned (.bool (sameE x.ge y.ge)) ∧ Below w.heap.size w w' := by
  have S0 := Lib.hid (GS9.new hx hy)
  obtain ⟨n, hn⟩ : ∃ n, x.ks.length = n := ⟨_, rfl⟩
  obtain ⟨m, hm⟩ : ∃ n, y.ks.length = n := ⟨_, rfl⟩
  obtain ⟨kp, hkp⟩ : ∃ p, x.kp = p := ⟨_, rfl⟩
  obtain ⟨lp, hlp⟩ : ∃ p, y.kp = p := ⟨_, rfl⟩
  have HN := Lib.hid hn; have HM := Lib.hid hm; have HKP := Lib.hid hkp; have HLP := Lib.hid hlp
  have hnl : n ≤ 9223372036854775807 := by rw [← hn]; exact hx.kl
  have hml : m ≤ 9223372036854775807 := by rw [← hm]; exact hy.kl
  have CX := Lib.hid (fun (W : World) (h : GS9 w W x y) => show W.cell? ⟨w.heap.size, 0, none⟩ = some (.int .i64 x.f) ∧ W.cell? ⟨w.heap.size, 1, none⟩ = some (.int .i64 x.rd) ∧ W.cell? ⟨w.heap.size, 2, none⟩ = some (.int .i64 x.wr) ∧ W.cell? ⟨w.heap.size, 3, none⟩ = some (.slice kp n x.kc) ∧ W.cell? ⟨w.heap.size, 4, none⟩ = some (.slice x.sp x.st.length x.sc) from by
    have := gv_cells h.a
    rw [hn, hkp] at this
    exact this)
  have CY := Lib.hid (fun (W : World) (h : GS9 w W x y) => show W.cell? ⟨w.heap.size + 1, 0, none⟩ = some (.int .i64 y.f) ∧ W.cell? ⟨w.heap.size + 1, 1, none⟩ = some (.int .i64 y.rd) ∧ W.cell? ⟨w.heap.size + 1, 2, none⟩ = some (.int .i64 y.wr) ∧ W.cell? ⟨w.heap.size + 1, 3, none⟩ = some (.slice lp m y.kc) ∧ W.cell? ⟨w.heap.size + 1, 4, none⟩ = some (.slice y.sp y.st.length y.sc) from by
    have := gv_cells h.b
    rw [hm, hlp] at this
    exact this)
  obtain ⟨r, hr⟩ : ∃ r, sameE x.ge y.ge = r := ⟨_, rfl⟩
  have HR := Lib.hid (show r = ((x.f == y.f) && ((x.rd == y.rd) && ((x.wr == y.wr) && (decide (x.ks.map (·.X) = y.ks.map (·.X)) && decide (x.st = y.st))))) from hr.symm)
  rw [hr]
  obtain ⟨q, hq⟩ : ∃ q, ((x.f == y.f) && ((x.rd == y.rd) && ((x.wr == y.wr) && (decide (n = m) && decide (x.st = y.st))))) = q := ⟨_, rfl⟩
  have HQ := Lib.hid hq
  have LQ := Lib.hid (show x.ks.map (·.X) = y.ks.map (·.X) → n = m from fun e => by have := congrArg List.length e; rw [List.length_map, List.length_map, hn, hm] at this; exact this)
  clear hx hy hn hm hkp hlp hr hq
  go_enter Tryz.func19, Tryz.ntmps19
  go_upto_region 1 with (fail)
  refine world_at (fun Y => GS9 w Y x y) S0.out ?_
  rintro V s1
  have S1 := Lib.hid s1
  clear s1 S0
  obtain ⟨c0, c1, c2, c3, c4⟩ := CX.out V S1.out
  obtain ⟨d0, d1, d2, d3, d4⟩ := CY.out V S1.out
  go_cut [41] (fun s41 wx => s41 = .bool (!q) ∧ wx = V)
  case first =>
    have qf : ∀ b, _ = b → q = b := fun b e => HQ.out.symm.trans e
    obtain ⟨b1, hb1⟩ : ∃ b, (x.f == y.f) = b := ⟨_, rfl⟩
    have n1 : (x.f != y.f) = !b1 := by rw [← hb1]; rfl
    obtain ⟨b2, hb2⟩ : ∃ b, (x.rd == y.rd) = b := ⟨_, rfl⟩
    have n2 : (x.rd != y.rd) = !b2 := by rw [← hb2]; rfl
    obtain ⟨b3, hb3⟩ : ∃ b, (x.wr == y.wr) = b := ⟨_, rfl⟩
    have n3 : (x.wr != y.wr) = !b3 := by rw [← hb3]; rfl
    rw [hb1, hb2, hb3] at qf
    clear hb1 hb2 hb3
    cases b1 with
    | false =>
      have hq := qf false rfl
      clear qf
      go_wp2_with fail
      go_meet
      exact ⟨by rw [hq]; rfl, rfl⟩
    | true =>
    cases b2 with
    | false =>
      have hq := qf false rfl
      clear qf
      go_wp2_with fail
      go_meet
      exact ⟨by rw [hq]; rfl, rfl⟩
    | true =>
    cases b3 with
    | false =>
      have hq := qf false rfl
      clear qf
      go_wp2_with fail
      go_meet
      exact ⟨by rw [hq]; rfl, rfl⟩
    | true =>
    by_cases hnm : n = m
    · have n4 : ((n : Int) != (m : Int)) = false := by rw [bne_eq_false_iff_eq]; omega
      have QF := Lib.hid (qf (decide (x.st = y.st)) (by rw [decide_eq_true hnm]; rfl))
      have ST := Lib.hid (same_textsTX x.st y.st x.sp y.sp x.st.length y.st.length x.sc y.sc V rfl rfl S1.out.rx.st S1.out.ry.st S1.out.rx.sb S1.out.ry.sb)
      rw [← QF.out] at ST
      clear qf hnm
      go_wp2_with fail
      refine ST.out.mono ?_
      rintro e w3 ⟨rfl, rfl⟩
      go_wp2_with fail
      go_meet
      exact ⟨rfl, rfl⟩
    · have n4 : ((n : Int) != (m : Int)) = true := by rw [bne_iff_ne]; omega
      have hq := qf false (by rw [decide_eq_false hnm]; rfl)
      clear qf hnm
      go_wp2_with fail
      go_meet
      exact ⟨by rw [hq]; rfl, rfl⟩
  case rest =>
  obtain ⟨rfl, rfl⟩ := hcut
  clear c0 c1 c2 c3 c4 d0 d1 d2 d3 d4
  cases q with
  | false =>
    have hr : r = false := by
      rw [HR.out]
      by_cases e : x.ks.map (·.X) = y.ks.map (·.X)
      · have h := HQ.out
        rw [decide_eq_true (LQ.out e)] at h
        rw [decide_eq_true e]
        exact h
      · rw [decide_eq_false e, Bool.false_and, Bool.and_false, Bool.and_false, Bool.and_false]
    subst hr
    go_wp2_with fail
    go_ret
    exact ⟨rfl, S1.out.bel⟩
  | true =>
  have hq := HQ.out
  simp only [Bool.and_eq_true, beq_iff_eq, decide_eq_true_eq] at hq
  obtain ⟨q1, q2, q3, rfl, q5⟩ := hq
  have HR2 := Lib.hid (show r = decide (x.ks.map (·.X) = y.ks.map (·.X)) from by
    rw [HR.out, q1, q2, q3, decide_eq_true q5]
    simp)
  clear HR HQ LQ q1 q2 q3 q5
  go_wp2_with fail
  go_loopw [5] (fun t wr => ∃ j : Nat, j ≤ n ∧ t = .int .i64 (j : Int) ∧ GS9 w wr x y ∧ ∀ i : Nat, i < j → (x.ks.map (·.X))[i]? = (y.ks.map (·.X))[i]?) (fun t _ => n - (intOf t).toNat)
  case atStart => exact ⟨0, by omega, rfl, S1.out, fun i hi => absurd hi (by omega)⟩
  case round =>
    clear S1
    obtain ⟨j, hj, rfl, s0, hb⟩ := hrel
    have S0 := Lib.hid s0; have HB := Lib.hid hb
    clear s0 hb
    obtain ⟨_, _, _, c3, _⟩ := CX.out wr S0.out
    by_cases hlt : j < n
    · obtain ⟨u, hu⟩ : ∃ y, x.ks[j]? = some y := ⟨_, List.getElem?_eq_getElem (by rw [HN.out]; exact hlt)⟩
      obtain ⟨v, hv⟩ : ∃ z, y.ks[j]? = some z := ⟨_, List.getElem?_eq_getElem (by rw [HM.out]; exact hlt)⟩
      obtain ⟨b, o, hpe, _, rg⟩ := S0.out.rx.ks j u hu
      obtain rfl : kp = some ⟨b, o, none⟩ := HKP.out.symm.trans hpe
      obtain ⟨b2, o2, hpe2, _, rg2⟩ := S0.out.ry.ks j v hv
      obtain rfl : lp = some ⟨b2, o2, none⟩ := HLP.out.symm.trans hpe2
      have j1 : (j : Int) < (n : Int) := by omega
      have CELL := Lib.hid (fun (W : World) (h : GS9 w W x y) => show W.cell? ⟨w.heap.size, 3, none⟩ = some (.slice (some ⟨b, o, none⟩) n x.kc) ∧ W.cell? ⟨w.heap.size + 1, 3, none⟩ = some (.slice (some ⟨b2, o2, none⟩) n y.kc) ∧ W.cell? ⟨b, o + j, none⟩ = some (.slice u.A u.X.length u.c) ∧ W.cell? ⟨b2, o2 + j, none⟩ = some (.slice v.A v.X.length v.c) from by
        refine ⟨(CX.out W h).2.2.2.1, (CY.out W h).2.2.2.1, ?_, ?_⟩
        · obtain ⟨b', o', e, _, r'⟩ := h.rx.ks j u hu
          have e := HKP.out.symm.trans e
          injection e with e
          injection e with e1 e2
          subst e1; subst e2
          have := r' 0 _ rfl; rw [Nat.mul_one, Nat.add_zero] at this; exact this
        · obtain ⟨b', o', e, _, r'⟩ := h.ry.ks j v hv
          have e := HLP.out.symm.trans e
          injection e with e
          injection e with e1 e2
          subst e1; subst e2
          have := r' 0 _ rfl; rw [Nat.mul_one, Nat.add_zero] at this; exact this)
      have HU := Lib.hid (List.mem_of_getElem? hu); have HV := Lib.hid (List.mem_of_getElem? hv)
      have GU := Lib.hid (show (x.ks.map (·.X))[j]? = some u.X from by rw [List.getElem?_map, hu]; rfl); have GV := Lib.hid (show (y.ks.map (·.X))[j]? = some v.X from by rw [List.getElem?_map, hv]; rfl)
      clear rg rg2 hpe hpe2 hu hv
      go_upto_region 6 with (fail)
      clear c3
      obtain ⟨W4, hW4⟩ : ∃ Z, wr.drew = Z := ⟨_, rfl⟩
      have S4 := Lib.hid (S0.out.below (show Below wr.heap.size wr W4 from by rw [← hW4]; exact (Below.refl _ _).drew))
      clear S0
      refine wp_region_held (S := fun W => W.cell? ⟨w.heap.size, 3, none⟩ = some (.slice (some ⟨b, o, none⟩) n x.kc) ∧ W.cell? ⟨w.heap.size + 1, 3, none⟩ = some (.slice (some ⟨b2, o2, none⟩) n y.kc) ∧ W.cell? ⟨b, o + j, none⟩ = some (.slice u.A u.X.length u.c) ∧ W.cell? ⟨b2, o2 + j, none⟩ = some (.slice v.A v.X.length v.c)) (by kernel_rfl) ?_
      change wpAnyH _ _ _ _ _ _ _ _ wr.drew
      rw [hW4]
      clear hW4
      have r0 := CELL.out _ S4.out
      refine wpAnyH_take (i := 0) (v := ?_) rfl (by kernel_rfl) (by kernel_rfl) (by kernel_rfl) (fun _ _ _ h => h) (Or.inl ⟨by kernel_rfl, ?_⟩) r0 ?_
      rotate_left 1
      · (intro w hS; clear hS; go_simp; try (with_reducible rfl))
      refine wpAnyH_take (i := 2) (v := ?_) rfl (by kernel_rfl) (by kernel_rfl) (by kernel_rfl) (fun _ _ _ h => h) (Or.inl ⟨by kernel_rfl, ?_⟩) r0 ?_
      rotate_left 1
      · (intro w hS; clear hS; go_simp; try (with_reducible rfl))
      refine wpAnyH_take (i := 5) (v := ?_) rfl (by kernel_rfl) (by kernel_rfl) (by kernel_rfl) (fun _ _ _ h => h) (Or.inl ⟨by kernel_rfl, ?_⟩) r0 ?_
      rotate_left 1
      · (intro w hS; clear hS; go_simp; try (with_reducible rfl))
      refine wpAnyH_take (i := 7) (v := ?_) rfl (by kernel_rfl) (by kernel_rfl) (by kernel_rfl) (fun _ _ _ h => h) (Or.inl ⟨by kernel_rfl, ?_⟩) r0 ?_
      rotate_left 1
      · (intro w hS; clear hS; go_simp; try (with_reducible rfl))
      refine wpAnyH_take (i := 1) (v := ?_) rfl (by kernel_rfl) (by kernel_rfl) (by kernel_rfl) (fun _ _ _ h => h) (Or.inl ⟨by kernel_rfl, ?_⟩) r0 ?_
      rotate_left 1
      · (intro w hS; have hs := hS.1; clear hS; go_simp; try (with_reducible rfl))
      refine wpAnyH_take (i := 3) (v := ?_) rfl (by kernel_rfl) (by kernel_rfl) (by kernel_rfl) (fun _ _ _ h => h) (Or.inl ⟨by kernel_rfl, ?_⟩) r0 ?_
      rotate_left 1
      · (intro w hS; clear hS; go_simp; try (with_reducible rfl))
      refine wpAnyH_take (i := 4) (v := ?_) rfl (by kernel_rfl) (by kernel_rfl) (by kernel_rfl) (fun _ _ _ h => h) (Or.inl ⟨by kernel_rfl, ?_⟩) r0 ?_
      rotate_left 1
      · (intro w hS; have hs := hS.2.2.1; clear hS; go_simp; try (with_reducible rfl))
      refine wpAnyH_take (i := 6) (v := ?_) rfl (by kernel_rfl) (by kernel_rfl) (by kernel_rfl) (fun _ _ _ h => h) (Or.inl ⟨by kernel_rfl, ?_⟩) r0 ?_
      rotate_left 1
      · (intro w hS; have hs := hS.2.1; clear hS; go_simp; try (with_reducible rfl))
      refine wpAnyH_take (i := 8) (v := ?_) rfl (by kernel_rfl) (by kernel_rfl) (by kernel_rfl) (fun _ _ _ h => h) (Or.inl ⟨by kernel_rfl, ?_⟩) r0 ?_
      rotate_left 1
      · (intro w hS; clear hS; go_simp; try (with_reducible rfl))
      refine wpAnyH_take (i := 9) (v := ?_) rfl (by kernel_rfl) (by kernel_rfl) (by kernel_rfl) (fun _ _ _ h => h) (Or.inl ⟨by kernel_rfl, ?_⟩) r0 ?_
      rotate_left 1
      · (intro w hS; have hs := hS.2.2.2; clear hS; go_simp; try (with_reducible rfl))
      have ST := Lib.hid (same_textsTX u.X v.X u.A v.A u.X.length v.X.length u.c v.c W4 rfl rfl (S4.out.rx.k u HU.out) (S4.out.ry.k v HV.out) (S4.out.rx.kb u HU.out) (S4.out.ry.kb v HV.out))
      obtain ⟨fb, hfb⟩ : ∃ z, decide (u.X = v.X) = z := ⟨_, rfl⟩
      rw [hfb] at ST
      have HFB := Lib.hid hfb
      clear hfb
      refine wpAnyH_ready (rs := [10]) (by kernel_rfl) (by simp) ?_
      refine AllReadyH.cons rfl (fun K hK => ?_) AllReadyH.nil
      rw [if_pos (by kernel_rfl)]
      go_simp
      refine ST.out.mono ?_
      rintro e w5 ⟨rfl, rfl⟩
      refine hK.out _ _ r0 (fun hz => ?_)
      clear hK K hz ST
      refine wpAnyH_take (i := 11) (v := ?_) rfl (by kernel_rfl) (by kernel_rfl) (by kernel_rfl) (fun _ _ _ h => h) (Or.inl ⟨by kernel_rfl, ?_⟩) r0 ?_
      rotate_left 1
      · (intro w hS; clear hS; go_simp; try (with_reducible rfl))
      refine wpAnyH_done (by kernel_rfl) ?_ _
      go_simp
      clear r0 CELL
      cases fb with
      | false =>
        have hr : r = false := by
          rw [HR2.out, decide_eq_false_iff_not]
          intro e
          have h := GU.out
          rw [e, GV.out] at h
          have h2 := of_decide_eq_false HFB.out
          exact h2 (Option.some.inj h).symm
        subst hr
        go_wp2_with fail
        go_ret
        exact ⟨rfl, S4.out.bel⟩
      | true =>
        have HB2 := Lib.hid (show ∀ i : Nat, i < j + 1 → (x.ks.map (·.X))[i]? = (y.ks.map (·.X))[i]? from fun i hi => by
          rcases Nat.lt_or_ge i j with h | h
          · exact HB.out i h
          · obtain rfl : i = j := by omega
            rw [GU.out, GV.out, of_decide_eq_true HFB.out])
        go_wp2_with fail
        go_roundw
        case rel => exact ⟨j + 1, by omega, by go_num, S4.out, by have h := HB2.out; simpa using h⟩
        case measure => simp [intOf]; omega
    · obtain rfl : j = n := by omega
      have hr : r = true := by
        rw [HR2.out, decide_eq_true_iff]
        refine List.ext_getElem? fun i => ?_
        rcases Nat.lt_or_ge i j with h | h
        · exact HB.out i h
        · rw [List.getElem?_eq_none (by rw [List.length_map, HN.out]; exact h), List.getElem?_eq_none (by rw [List.length_map, HM.out]; exact h)]
      subst hr
      clear hlt
      go_wp2_with fail
      go_ret
      exact ⟨rfl, S0.out.bel⟩
end Go.Proofs.YtlipjglehongeaaGreatDoor
