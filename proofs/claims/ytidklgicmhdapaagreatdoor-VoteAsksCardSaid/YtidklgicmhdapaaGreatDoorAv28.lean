/-
  PACKAGE genesis
-/
import Derived.Test.YtidklgicmhdapaaGreatDoorAv27
namespace Go.Proofs.YtidklgicmhdapaaGreatDoor
open Go Go.RowKit Sh

def stQ (rd wr : Int) (st : List Nat) : Bool := decide (st.length = 0) || (okS st && (((gotS st).rd == rd) && ((gotS st).wr == wr)))
def stB (x : Gv) : Bool := stQ x.rd x.wr x.st
def begB (x : Gv) : Bool := fltB x.f && (alB x.rd && (alB x.wr && (mayK x.f (x.ks.map (·.X)) && stB x)))
structure Ge where
  f : Int
  rd : Int
  wr : Int
  ks : List (List Nat)
  st : List Nat
def Gv.ge (x : Gv) : Ge := ⟨x.f, x.rd, x.wr, x.ks.map (·.X), x.st⟩
def begQ (e : Ge) : Bool := fltB e.f && (alB e.rd && (alB e.wr && (mayK e.f e.ks && stQ e.rd e.wr e.st)))
theorem begB_Q (x : Gv) : begB x = begQ x.ge := rfl
def begS (x : Gv) : Sp := if begB x then (if x.st.length = 0 then newS x.rd x.wr else gotS x.st) else (gsp 0 0 0).sp
theorem ys_gz (B : Nat) (W : World) : YS B W (gsp 0 0 0) := by
  refine ⟨World.ownsRow_nil _ _ _ _, (fun y hy => by cases hy), World.ownsRow_nil _ _ _ _, (fun y hy => by cases hy), rfl, fun y hy => ?_, Nat.zero_le _, Nat.zero_le _⟩
  simp only [gsp, List.mem_cons, List.not_mem_nil, or_false] at hy
  rcases hy with rfl | rfl | rfl | rfl <;> exact ⟨⟨fun j hj => absurd hj (Nat.not_lt_zero j), Nat.zero_le _⟩, NF.no _ _⟩
theorem ys_nz (B : Nat) (W : World) (rd wr : Int) : YS B W (nsp rd wr 0 1 2 3) := by
  refine ⟨World.ownsRow_nil _ _ _ _, (fun y hy => by cases hy), World.ownsRow_nil _ _ _ _, (fun y hy => by cases hy), rfl, fun y hy => ?_, Nat.zero_le _, Nat.zero_le _⟩
  simp only [nsp, List.mem_cons, List.not_mem_nil, or_false] at hy
  rcases hy with rfl | rfl | rfl | rfl <;> exact ⟨⟨fun j hj => absurd hj (Nat.not_lt_zero j), Nat.zero_le _⟩, NF.no _ _⟩
structure BG9 (w0 W : World) (x : Gv) : Prop where
  gb : GB9 w0 W x
  res : Blk W (w0.heap.size + 1) 82 (sv (gsp 0 0 0))
theorem BG9.below {w0 W W' : World} {x : Gv} (h : BG9 w0 W x) (hb : Below W.heap.size W W') : BG9 w0 W' x := ⟨h.gb.below hb, h.res.below hb h.res.lt⟩
set_option maxRecDepth 100000 in
set_option maxHeartbeats 2000000 in
theorem begun_t (x : Gv) (w : World) (h : GvW w x) (hk : KI w) :
    Calls Tryz.prog 47 #[.agg (gv x).toArray] w fun e w' => ∃ y : Spv, e = .returned (.tuple #[.agg (sv y).toArray, .bool (begB x)]) ∧ y.sp = begS x ∧ YS w.heap.size w' y ∧ Below w.heap.size w w' := by
  have S0 := Lib.hid (show BG9 w ((w.alloc (.cells (gv x).toArray 41)).alloc (.cells (sv (gsp 0 0 0)).toArray 82)) x from
    ⟨(GB9.new h).below ((Below.refl _ _).alloc (Nat.le_refl _) _), Blk.new2 w (.cells (gv x).toArray 41) 82 (sv (gsp 0 0 0))⟩)
  have HK := Lib.hid hk
  have FZ := Lib.hid (sv_size (gsp 0 0 0) rfl); have FZO := Lib.hid (sv_one (gsp 0 0 0)); have FG := Lib.hid (gv_size x)
  obtain ⟨rb, hrb⟩ : ∃ b, begB x = b := ⟨_, rfl⟩
  obtain ⟨rs, hrs⟩ : ∃ b, begS x = b := ⟨_, rfl⟩
  rw [hrb, hrs]
  have HRB := Lib.hid hrb; have HRS0 := Lib.hid hrs
  clear h hk hrb hrs
  go_enter Tryz.func47, Tryz.ntmps47
  go_upto_region 1 with (fail)
  refine world_at (fun Y => BG9 w Y x) S0.out ?_
  rintro V s1
  have S1 := Lib.hid s1
  clear s1 S0
  obtain ⟨c0, c1, c2, c3, c4⟩ := gv_cells S1.out.gb.a
  have F1 := Lib.hid (faults_t x.f V)
  have F2 := Lib.hid (allowG_t x.rd V)
  have F3 := Lib.hid (allowG_t x.wr V)
  have F4 := Lib.hid (fun h0 h2 => mayKeys_t x V S1.out.gb.rx h0 h2 (HK.out.kept S1.out.gb.bel))
  obtain ⟨b1, hb1⟩ : ∃ b, fltB x.f = b := ⟨_, rfl⟩
  obtain ⟨b2, hb2⟩ : ∃ b, alB x.rd = b := ⟨_, rfl⟩
  obtain ⟨b3, hb3⟩ : ∃ b, alB x.wr = b := ⟨_, rfl⟩
  obtain ⟨b4, hb4⟩ : ∃ b, mayK x.f (x.ks.map (·.X)) = b := ⟨_, rfl⟩
  rw [hb1] at F1; rw [hb2] at F2; rw [hb3] at F3; rw [hb4] at F4
  have EB := Lib.hid (show rb = (b1 && (b2 && (b3 && (b4 && stB x)))) from by rw [← HRB.out]; unfold begB; rw [hb1, hb2, hb3, hb4])
  have RS := Lib.hid (show rs = if rb then (if x.st.length = 0 then newS x.rd x.wr else gotS x.st) else (gsp 0 0 0).sp from by rw [← HRS0.out]; unfold begS; rw [HRB.out])
  have HF := Lib.hid (show b1 = true → 0 ≤ x.f ∧ x.f ≤ 2 from fun e => by rw [← hb1] at e; simpa [fltB] using e)
  clear hb1 hb2 hb3 hb4 HRB HRS0
  go_wp2_with fail
  refine F1.out.mono ?_
  rintro e w1 ⟨rfl, rfl⟩
  cases b1 with
  | false =>
    clear F1 F2 F3 F4 c1 c2 c3 c4
    obtain rfl : rb = false := EB.out
    have hR2 : (gsp 0 0 0).sp = rs := by rw [RS.out]; rfl
    have RES := Lib.hid S1.out.res
    have RZ := Lib.hid (S1.out.res.setRow (sv (gsp 0 0 0)))
    have BF := Lib.hid (below_setRow S1.out.gb.bel (g := w.heap.size + 1) (by omega) (sv (gsp 0 0 0)).toArray)
    have BZ := built_zsp
    have HRS := Lib.hid hR2
    clear hR2 RS EB
    go_wp2_with ((with_reducible refine at_op (.store 82 (.tmp 2) (.tmp 27)) rfl ?_); go_must (refine store_blk 82 (.tmp 2) (.tmp 27) (w.heap.size + 1) 82 _ (sv (gsp 0 0 0)) rfl rfl RES.out rfl FZ.out FZO.out rfl rfl ?_))
    exact ret_blkS (p := 2) (u := 3) (ty := 82) rfl rfl (w.heap.size + 1) 82 _ _ rfl RZ.out Tryz.underlying82 rfl FZ.out _ rfl ⟨gsp 0 0 0, rfl, HRS.out, ys_gz _ _, BF.out⟩
  | true =>
  go_wp2_with fail
  refine F2.out.mono ?_
  rintro e w1 ⟨rfl, rfl⟩
  cases b2 with
  | false =>
    clear F1 F2 F3 F4 c1 c2 c3 c4
    obtain rfl : rb = false := EB.out
    have hR2 : (gsp 0 0 0).sp = rs := by rw [RS.out]; rfl
    have RES := Lib.hid S1.out.res
    have RZ := Lib.hid (S1.out.res.setRow (sv (gsp 0 0 0)))
    have BF := Lib.hid (below_setRow S1.out.gb.bel (g := w.heap.size + 1) (by omega) (sv (gsp 0 0 0)).toArray)
    have BZ := built_zsp
    have HRS := Lib.hid hR2
    clear hR2 RS EB
    go_wp2_with ((with_reducible refine at_op (.store 82 (.tmp 2) (.tmp 27)) rfl ?_); go_must (refine store_blk 82 (.tmp 2) (.tmp 27) (w.heap.size + 1) 82 _ (sv (gsp 0 0 0)) rfl rfl RES.out rfl FZ.out FZO.out rfl rfl ?_))
    exact ret_blkS (p := 2) (u := 3) (ty := 82) rfl rfl (w.heap.size + 1) 82 _ _ rfl RZ.out Tryz.underlying82 rfl FZ.out _ rfl ⟨gsp 0 0 0, rfl, HRS.out, ys_gz _ _, BF.out⟩
  | true =>
  go_wp2_with fail
  refine F3.out.mono ?_
  rintro e w1 ⟨rfl, rfl⟩
  cases b3 with
  | false =>
    clear F1 F2 F3 F4 c1 c2 c3 c4
    obtain rfl : rb = false := EB.out
    have hR2 : (gsp 0 0 0).sp = rs := by rw [RS.out]; rfl
    have RES := Lib.hid S1.out.res
    have RZ := Lib.hid (S1.out.res.setRow (sv (gsp 0 0 0)))
    have BF := Lib.hid (below_setRow S1.out.gb.bel (g := w.heap.size + 1) (by omega) (sv (gsp 0 0 0)).toArray)
    have BZ := built_zsp
    have HRS := Lib.hid hR2
    clear hR2 RS EB
    go_wp2_with ((with_reducible refine at_op (.store 82 (.tmp 2) (.tmp 27)) rfl ?_); go_must (refine store_blk 82 (.tmp 2) (.tmp 27) (w.heap.size + 1) 82 _ (sv (gsp 0 0 0)) rfl rfl RES.out rfl FZ.out FZO.out rfl rfl ?_))
    exact ret_blkS (p := 2) (u := 3) (ty := 82) rfl rfl (w.heap.size + 1) 82 _ _ rfl RZ.out Tryz.underlying82 rfl FZ.out _ rfl ⟨gsp 0 0 0, rfl, HRS.out, ys_gz _ _, BF.out⟩
  | true =>
  have HF := Lib.hid (HF.out trivial)
  have GA := Lib.hid S1.out.gb.a
  go_wp2_with ((with_reducible refine load_blk_gdO 23 41 (.tmp 1) w.heap.size 41 (gv x) _ ?_ ?_ rfl ?_ Tryz.underlying41 ?_ ?_ ?_ ?_); exact rfl; kernel_rfl; exact GA.out; exact rfl; exact FG.out; exact rfl)
  refine (F4.out HF.out.1 HF.out.2).mono ?_
  rintro e w2 ⟨rfl, bw2⟩
  have S2 := Lib.hid (S1.out.below bw2)
  clear F1 F2 F3 F4 c0 c1 c2 c3 c4 S1 GA bw2 HF
  cases b4 with
  | false =>
    obtain rfl : rb = false := EB.out
    have hR2 : (gsp 0 0 0).sp = rs := by rw [RS.out]; rfl
    have RES := Lib.hid S2.out.res
    have RZ := Lib.hid (S2.out.res.setRow (sv (gsp 0 0 0)))
    have BF := Lib.hid (below_setRow S2.out.gb.bel (g := w.heap.size + 1) (by omega) (sv (gsp 0 0 0)).toArray)
    have BZ := built_zsp
    have HRS := Lib.hid hR2
    clear hR2 RS EB
    go_wp2_with ((with_reducible refine at_op (.store 82 (.tmp 2) (.tmp 27)) rfl ?_); go_must (refine store_blk 82 (.tmp 2) (.tmp 27) (w.heap.size + 1) 82 _ (sv (gsp 0 0 0)) rfl rfl RES.out rfl FZ.out FZO.out rfl rfl ?_))
    exact ret_blkS (p := 2) (u := 3) (ty := 82) rfl rfl (w.heap.size + 1) 82 _ _ rfl RZ.out Tryz.underlying82 rfl FZ.out _ rfl ⟨gsp 0 0 0, rfl, HRS.out, ys_gz _ _, BF.out⟩
  | true =>
  obtain ⟨c0, c1, c2, c3, c4⟩ := gv_cells S2.out.gb.a
  by_cases h0 : x.st.length = 0
  · have e0 : ((x.st.length : Int) == 0) = true := by rw [h0]; rfl
    obtain rfl : rb = true := by rw [EB.out]; unfold stB stQ; rw [decide_eq_true h0]; rfl
    have HS := Lib.hid (show newS x.rd x.wr = rs from by rw [RS.out, if_pos rfl, if_pos h0])
    clear c0 c3 EB RS
    go_wp2_with fail
    refine (New_t x.rd x.wr w2).mono ?_
    rintro e w3 ⟨rfl, bw3⟩
    have S3 := Lib.hid (S2.out.below bw3)
    clear S2 bw3 c1 c2 c4 e0
    have RES := Lib.hid S3.out.res
    have RZ := Lib.hid (S3.out.res.setRow (sv (nsp x.rd x.wr 0 1 2 3)))
    have BF := Lib.hid (below_setRow S3.out.gb.bel (g := w.heap.size + 1) (by omega) (sv (nsp x.rd x.wr 0 1 2 3)).toArray)
    have FX := Lib.hid (sv_size (nsp x.rd x.wr 0 1 2 3) rfl); have FXO := Lib.hid (sv_one (nsp x.rd x.wr 0 1 2 3))
    have SLX := Lib.hid (show (sv (gsp 0 0 0)).length = (sv (nsp x.rd x.wr 0 1 2 3)).length from (sv_len _ rfl).trans (sv_len (nsp x.rd x.wr 0 1 2 3) rfl).symm)
    go_wp2_with ((with_reducible refine at_op (.store 82 (.tmp 2) (.tmp 36)) rfl ?_); go_must (refine store_blk 82 (.tmp 2) (.tmp 36) (w.heap.size + 1) 82 _ (sv (nsp x.rd x.wr 0 1 2 3)) rfl rfl RES.out SLX.out FX.out FXO.out rfl rfl ?_))
    exact ret_blkS (p := 2) (u := 3) (ty := 82) rfl rfl (w.heap.size + 1) 82 _ _ rfl RZ.out Tryz.underlying82 rfl FX.out _ rfl ⟨nsp x.rd x.wr 0 1 2 3, rfl, (nsp_sp _ _).trans HS.out, ys_nz _ _ _ _, BF.out⟩
  · have e0 : ((x.st.length : Int) == 0) = false := by rw [beq_eq_false_iff_ne]; omega
    have HLW := Lib.hid S2.out.gb.bel.size
    have SGT := Lib.hid (SGetY_t x.st x.sp x.st.length x.sc w2 rfl S2.out.gb.rx.st S2.out.gb.rx.sb S2.out.gb.rx.sl)
    have HB0 := Lib.hid (show stB x = (okS x.st && (((gotS x.st).rd == x.rd) && ((gotS x.st).wr == x.wr))) from by unfold stB stQ; rw [decide_eq_false h0, Bool.false_or])
    have H0 := Lib.hid h0
    clear c0 c3 h0
    go_wp2_with fail
    refine SGT.out.mono ?_
    rintro e w3 ⟨bw3, hh⟩
    have S3 := Lib.hid (S2.out.below bw3)
    clear S2 bw3 SGT c1 c2 c4 e0
    rcases hh with ⟨hno, rfl⟩ | ⟨hyes, y, hy, rfl, wy, yy⟩
    · have HE := Lib.hid (show rb = false from by rw [EB.out, HB0.out, hno]; rfl)
      clear hno HB0 H0
      obtain ⟨y, hy⟩ : ∃ y, gsp 0 0 0 = y := ⟨_, rfl⟩
      have wy := gsp_w 0 0 0 w3
      rw [hy] at wy ⊢
      have FX_y := Lib.hid (sv_size y wy.l4); have FO_y := Lib.hid (sv_one y); have SL_y := Lib.hid (sv_len y wy.l4)
      have Z_y := Lib.hid (Blk.new w3 82 [.int .i64 0, .slice none 0 0, .slice none 0 0, .int .i64 0, .int .i64 0, .int .i64 0, .int .i64 0, .int .i64 0, .slice none 0 0, .bool false, .int .i64 0, .int .i64 0, .int .i64 0, .slice none 0 0, .bool false, .int .i64 0, .int .i64 0, .int .i64 0, .slice none 0 0, .bool false, .int .i64 0, .int .i64 0, .int .i64 0, .slice none 0 0, .bool false])
      have KN_y := Lib.hid (KSp.new (w1 := w3) (x := y) wy)
      go_upto_region 6 with ((with_reducible refine at_op (.store 82 (.tmp 4) (.tmp 41)) rfl ?_); go_must (refine store_blk 82 (.tmp 4) (.tmp 41) (w3).heap.size 82 _ (sv y) rfl rfl Z_y.out SL_y.out.symm FX_y.out FO_y.out rfl rfl ?_))
      obtain ⟨V3, hV3⟩ : ∃ V, ((w3).alloc (.cells #[.int .i64 0, .slice none 0 0, .slice none 0 0, .int .i64 0, .int .i64 0, .int .i64 0, .int .i64 0, .int .i64 0, .slice none 0 0, .bool false, .int .i64 0, .int .i64 0, .int .i64 0, .slice none 0 0, .bool false, .int .i64 0, .int .i64 0, .int .i64 0, .slice none 0 0, .bool false, .int .i64 0, .int .i64 0, .int .i64 0, .slice none 0 0, .bool false] 82)).setRow (w3).heap.size (sv y).toArray = V := ⟨_, rfl⟩
      rw [hV3] at KN_y ⊢
      have K_y := Lib.hid KN_y.out.1
      have B_y := Lib.hid KN_y.out.2
      clear hV3 KN_y Z_y FO_y SL_y
      have S4 := Lib.hid (S3.out.below B_y.out)
      clear S3 B_y wy K_y FX_y hy
      obtain rfl : rb = false := HE.out
      have hR2 : (gsp 0 0 0).sp = rs := by rw [RS.out]; rfl
      have RES := Lib.hid S4.out.res
      have RZ := Lib.hid (S4.out.res.setRow (sv (gsp 0 0 0)))
      have BF := Lib.hid (below_setRow S4.out.gb.bel (g := w.heap.size + 1) (by omega) (sv (gsp 0 0 0)).toArray)
      have BZ := built_zsp
      have HRS := Lib.hid hR2
      clear hR2 RS EB
      go_wp2_with ((with_reducible refine at_op (.store 82 (.tmp 2) (.tmp 59)) rfl ?_); go_must (refine store_blk 82 (.tmp 2) (.tmp 59) (w.heap.size + 1) 82 _ (sv (gsp 0 0 0)) rfl rfl RES.out rfl FZ.out FZO.out rfl rfl ?_))
      exact ret_blkS (p := 2) (u := 3) (ty := 82) rfl rfl (w.heap.size + 1) 82 _ _ rfl RZ.out Tryz.underlying82 rfl FZ.out _ rfl ⟨gsp 0 0 0, rfl, HRS.out, ys_gz _ _, BF.out⟩
    · have HYS := Lib.hid hy
      have HEB := Lib.hid (show rb = ((y.rd == x.rd) && (y.wr == x.wr)) from by rw [EB.out, HB0.out, hyes, ← hy]; rfl)
      clear hyes HB0 hy
      have FX_y := Lib.hid (sv_size y wy.l4); have FO_y := Lib.hid (sv_one y); have SL_y := Lib.hid (sv_len y wy.l4)
      have Z_y := Lib.hid (Blk.new w3 82 [.int .i64 0, .slice none 0 0, .slice none 0 0, .int .i64 0, .int .i64 0, .int .i64 0, .int .i64 0, .int .i64 0, .slice none 0 0, .bool false, .int .i64 0, .int .i64 0, .int .i64 0, .slice none 0 0, .bool false, .int .i64 0, .int .i64 0, .int .i64 0, .slice none 0 0, .bool false, .int .i64 0, .int .i64 0, .int .i64 0, .slice none 0 0, .bool false])
      have KN_y := Lib.hid (KSp.new (w1 := w3) (x := y) wy)
      go_upto_region 6 with ((with_reducible refine at_op (.store 82 (.tmp 4) (.tmp 41)) rfl ?_); go_must (refine store_blk 82 (.tmp 4) (.tmp 41) (w3).heap.size 82 _ (sv y) rfl rfl Z_y.out SL_y.out.symm FX_y.out FO_y.out rfl rfl ?_))
      obtain ⟨V3, hV3⟩ : ∃ V, ((w3).alloc (.cells #[.int .i64 0, .slice none 0 0, .slice none 0 0, .int .i64 0, .int .i64 0, .int .i64 0, .int .i64 0, .int .i64 0, .slice none 0 0, .bool false, .int .i64 0, .int .i64 0, .int .i64 0, .slice none 0 0, .bool false, .int .i64 0, .int .i64 0, .int .i64 0, .slice none 0 0, .bool false, .int .i64 0, .int .i64 0, .int .i64 0, .slice none 0 0, .bool false] 82)).setRow (w3).heap.size (sv y).toArray = V := ⟨_, rfl⟩
      rw [hV3] at KN_y ⊢
      have K_y := Lib.hid KN_y.out.1
      have B_y := Lib.hid KN_y.out.2
      clear hV3 KN_y Z_y FO_y SL_y
      have S4 := Lib.hid (S3.out.below B_y.out)
      have WY := Lib.hid (wy.below B_y.out); have YY := Lib.hid (yy.below B_y.out)
      obtain ⟨g4, hg4⟩ : ∃ g, w3.heap.size = g := ⟨_, rfl⟩
      rw [hg4] at K_y ⊢
      clear S3 B_y wy yy hg4
      obtain ⟨_, c1, c2, _, _⟩ := gv_cells S4.out.gb.a
      obtain ⟨_, _, _, d3, d4⟩ := sv_cells K_y.out.box
      obtain ⟨b5, hb5⟩ : ∃ b, (y.rd == x.rd) = b := ⟨_, rfl⟩
      obtain ⟨b6, hb6⟩ : ∃ b, (y.wr == x.wr) = b := ⟨_, rfl⟩
      have n5 : (y.rd != x.rd) = !b5 := by rw [← hb5]; rfl
      have n6 : (y.wr != x.wr) = !b6 := by rw [← hb6]; rfl
      rw [hb5, hb6] at HEB
      clear hb5 hb6
      cases b5 with
      | false =>
        go_upto_region 7 with (fail)
        clear c1 c2 d3 d4 n5 n6 K_y FX_y
        obtain rfl : rb = false := HEB.out
        have hR2 : (gsp 0 0 0).sp = rs := by rw [RS.out]; rfl
        have RES := Lib.hid S4.out.res
        have RZ := Lib.hid (S4.out.res.setRow (sv (gsp 0 0 0)))
        have BF := Lib.hid (below_setRow S4.out.gb.bel (g := w.heap.size + 1) (by omega) (sv (gsp 0 0 0)).toArray)
        have BZ := built_zsp
        have HRS := Lib.hid hR2
        clear hR2 RS EB
        go_wp2_with ((with_reducible refine at_op (.store 82 (.tmp 2) (.tmp 59)) rfl ?_); go_must (refine store_blk 82 (.tmp 2) (.tmp 59) (w.heap.size + 1) 82 _ (sv (gsp 0 0 0)) rfl rfl RES.out rfl FZ.out FZO.out rfl rfl ?_))
        exact ret_blkS (p := 2) (u := 3) (ty := 82) rfl rfl (w.heap.size + 1) 82 _ _ rfl RZ.out Tryz.underlying82 rfl FZ.out _ rfl ⟨gsp 0 0 0, rfl, HRS.out, ys_gz _ _, BF.out⟩
      | true =>
      cases b6 with
      | false =>
        go_upto_region 7 with (fail)
        clear c1 c2 d3 d4 n5 n6 K_y FX_y
        obtain rfl : rb = false := HEB.out
        have hR2 : (gsp 0 0 0).sp = rs := by rw [RS.out]; rfl
        have RES := Lib.hid S4.out.res
        have RZ := Lib.hid (S4.out.res.setRow (sv (gsp 0 0 0)))
        have BF := Lib.hid (below_setRow S4.out.gb.bel (g := w.heap.size + 1) (by omega) (sv (gsp 0 0 0)).toArray)
        have BZ := built_zsp
        have HRS := Lib.hid hR2
        clear hR2 RS EB
        go_wp2_with ((with_reducible refine at_op (.store 82 (.tmp 2) (.tmp 59)) rfl ?_); go_must (refine store_blk 82 (.tmp 2) (.tmp 59) (w.heap.size + 1) 82 _ (sv (gsp 0 0 0)) rfl rfl RES.out rfl FZ.out FZO.out rfl rfl ?_))
        exact ret_blkS (p := 2) (u := 3) (ty := 82) rfl rfl (w.heap.size + 1) 82 _ _ rfl RZ.out Tryz.underlying82 rfl FZ.out _ rfl ⟨gsp 0 0 0, rfl, HRS.out, ys_gz _ _, BF.out⟩
      | true =>
        obtain rfl : rb = true := HEB.out
        have HS := Lib.hid (show gotS x.st = rs from by rw [RS.out, if_pos rfl, if_neg H0.out])
        clear EB RS
        go_upto_region 8 with (fail)
        clear c1 c2 d3 d4 n5 n6
        have RES := Lib.hid S4.out.res
        have RZ := Lib.hid (S4.out.res.setRow (sv y))
        have BF := Lib.hid (below_setRow S4.out.gb.bel (g := w.heap.size + 1) (by omega) (sv y).toArray)
        have FX := Lib.hid (sv_size y WY.out.l4); have FXO := Lib.hid (sv_one y)
        have SLX := Lib.hid (show (sv (gsp 0 0 0)).length = (sv y).length from (sv_len _ rfl).trans (sv_len y WY.out.l4).symm)
        have KW := Lib.hid (YY.out.kept ((Kept.refl (fun k => k = w.heap.size + 1) V3).setRowK (.inl rfl) (sv y).toArray) S4.out.res)
        go_wp2_with (first
          | ((with_reducible refine load_blk 82 (.tmp 4) g4 82 (sv y) _ rfl rfl ?_ Tryz.underlying82 ?_ ?_ ?_ ?_); exact K_y.out.box; exact rfl; exact FX_y.out; exact rfl)
          | ((with_reducible refine at_op (.store 82 (.tmp 2) (.tmp 60)) rfl ?_); go_must (refine store_blk 82 (.tmp 2) (.tmp 60) (w.heap.size + 1) 82 _ (sv y) rfl rfl RES.out SLX.out FX.out FXO.out rfl rfl ?_)))
        exact ret_blkS (p := 2) (u := 3) (ty := 82) rfl rfl (w.heap.size + 1) 82 _ _ rfl RZ.out Tryz.underlying82 rfl FX.out _ rfl ⟨y, rfl, HYS.out.trans HS.out, KW.out.low HLW.out, BF.out⟩
set_option maxRecDepth 100000 in
set_option maxHeartbeats 1000000 in
theorem gMay_t (x : Gv) (w : World) (h : GvW w x) (hk : KI w) :
    Calls Tryz.prog 37 #[.agg (gv x).toArray] w fun e w' => e = .returned (.bool (begB x)) ∧ Below w.heap.size w w' := by
  have S0 := Lib.hid (GB9.new h)
  have HK := Lib.hid hk; have FG := Lib.hid (gv_size x)
  obtain ⟨rb, hrb⟩ : ∃ b, begB x = b := ⟨_, rfl⟩
  have HRB := Lib.hid hrb
  rw [hrb]
  clear h hk hrb
  go_enter Tryz.func37, Tryz.ntmps37
  have BT := Lib.hid (begun_t x _ S0.out.rx (HK.out.kept S0.out.bel))
  go_wp2_with ((with_reducible refine load_blk 41 (.tmp 1) w.heap.size 41 (gv x) _ rfl rfl ?_ Tryz.underlying41 ?_ ?_ ?_ ?_); exact S0.out.a; exact rfl; exact FG.out; exact rfl)
  refine BT.out.mono ?_
  rw [HRB.out]
  rintro e w1 ⟨y, rfl, -, wyy, b1⟩
  have wy := wyy.w
  clear wyy
  have S1 := Lib.hid (S0.out.below b1)
  clear S0 BT b1
  have FX_y := Lib.hid (sv_size y wy.l4); have FO_y := Lib.hid (sv_one y); have SL_y := Lib.hid (sv_len y wy.l4)
  have Z_y := Lib.hid (Blk.new w1 82 [.int .i64 0, .slice none 0 0, .slice none 0 0, .int .i64 0, .int .i64 0, .int .i64 0, .int .i64 0, .int .i64 0, .slice none 0 0, .bool false, .int .i64 0, .int .i64 0, .int .i64 0, .slice none 0 0, .bool false, .int .i64 0, .int .i64 0, .int .i64 0, .slice none 0 0, .bool false, .int .i64 0, .int .i64 0, .int .i64 0, .slice none 0 0, .bool false])
  have KN_y := Lib.hid (KSp.new (w1 := w1) (x := y) wy)
  go_upto_region 2 with ((with_reducible refine at_op (.store 82 (.tmp 3) (.tmp 8)) rfl ?_); go_must (refine store_blk 82 (.tmp 3) (.tmp 8) (w1).heap.size 82 _ (sv y) rfl rfl Z_y.out SL_y.out.symm FX_y.out FO_y.out rfl rfl ?_))
  obtain ⟨V1, hV1⟩ : ∃ V, ((w1).alloc (.cells #[.int .i64 0, .slice none 0 0, .slice none 0 0, .int .i64 0, .int .i64 0, .int .i64 0, .int .i64 0, .int .i64 0, .slice none 0 0, .bool false, .int .i64 0, .int .i64 0, .int .i64 0, .slice none 0 0, .bool false, .int .i64 0, .int .i64 0, .int .i64 0, .slice none 0 0, .bool false, .int .i64 0, .int .i64 0, .int .i64 0, .slice none 0 0, .bool false] 82)).setRow (w1).heap.size (sv y).toArray = V := ⟨_, rfl⟩
  rw [hV1] at KN_y ⊢
  have K_y := Lib.hid KN_y.out.1
  have B_y := Lib.hid KN_y.out.2
  clear hV1 KN_y Z_y FO_y SL_y
  have S2 := Lib.hid (S1.out.below B_y.out)
  clear S1 B_y K_y FX_y wy
  go_wp2_with fail
  go_ret
  exact ⟨rfl, S2.out.bel⟩
end Go.Proofs.YtidklgicmhdapaaGreatDoor
