/-
  THE LAW SpaceAsks.
-/
import Derived.Test.YtlamfdeepofenaaDoorSrK
import Derived.Test.YtlamfdeepofenaaDoorSpFew
import Derived.Test.YtlamfdeepofenaaDoorSpY
namespace Go.Proofs.YtlamfdeepofenaaDoor
open Go Go.RowKit Sh

theorem do_len {s : Sp} (hs : s.wts.length ≤ 1000) (now : Int) (r : Rq) : (doP s now r).2.length ≤ 1001 := by
  unfold doP
  split
  · exact Nat.zero_le _
  · dsimp only
    split
    · exact Nat.le_add_left 1 1000
    · split
      · exact Nat.le_add_left 1 1000
      · unfold answP
        dsimp only
        split
        · rename_i hb
          have h1 := (wake_le (qp r).t (noteP (actP (goOnP s now) (qp r)).1 (actP (goOnP s now) (qp r)).2.1).wts).1
          have h2 : (noteP (actP (goOnP s now) (qp r)).1 (actP (goOnP s now) (qp r)).2.1).wts = s.wts := by
            rcases act_puts hb with e | ⟨k, e⟩
            · rw [e]; rfl
            · rw [e]; rfl
          rw [h2] at h1
          show (wakeP (qp r).t (noteP (actP (goOnP s now) (qp r)).1 (actP (goOnP s now) (qp r)).2.1).wts).2.1.length + 1 ≤ 1001
          rw [h2]
          omega
        · exact Nat.le_add_left 1 1000
theorem do_small {s : Sp} (hs : Small s) (now : Int) (r : Rq) : Small (doP s now r).1 := by
  cases h : okDo s now r with
  | false => rw [do_no h]; exact hs
  | true => exact (do_ok (okDo_h h).1 now r).1.small
structure AS (w0 W : World) (x y : Spv) (r : Rv) : Prop where
  a : Blk W w0.heap.size 33 (sv x)
  b : Blk W (w0.heap.size + 1) 33 (sv y)
  c : Blk W (w0.heap.size + 2) 39 (rv r)
  rx : SpW W x
  ry : SpW W y
  rr : RvW W r
  bel : Below w0.heap.size w0 W
theorem AS.below {w0 W W' : World} {x y : Spv} {r : Rv} (h : AS w0 W x y r) (hb : Below W.heap.size W W') : AS w0 W' x y r :=
  ⟨h.a.below hb h.a.lt, h.b.below hb h.b.lt, h.c.below hb h.c.lt, h.rx.below hb, h.ry.below hb, h.rr.below hb, h.bel.trans (hb.mono h.bel.size)⟩
set_option maxRecDepth 100000 in
set_option maxHeartbeats 8000000 in
theorem sasks_t (x y : Spv) (now : Int) (r : Rv) (w : World) (hx : SpW w x) (hy : SpW w y) (hr : RvW w r) (hu : UT w) :
    Calls Tryd.prog 4 #[.agg (sv x).toArray, .agg (sv y).toArray, .int .i64 now, .agg (rv r).toArray] w fun e w' => e = .returned (.bool true) ∧ Below w.heap.size w w' := by
  obtain ⟨V, hV⟩ : ∃ V, ((w.alloc (.cells (sv x).toArray 33)).alloc (.cells (sv y).toArray 33)).alloc (.cells (rv r).toArray 39) = V := ⟨_, rfl⟩
  have A0 := Lib.hid (show AS w V x y r from by
    have b0 : Below w.heap.size w V := by rw [← hV]; exact (((Below.refl _ _).alloc (Nat.le_refl _) _).alloc (by simp) _).alloc (by simp; omega) _
    exact ⟨by rw [← hV]; exact ((Blk.new w 33 (sv x)).alloc _).alloc _, by rw [← hV]; exact (Blk.new2 w _ 33 (sv y)).alloc _, by rw [← hV]; exact new3 w _ _ _ _, hx.below b0, hy.below b0, hr.below b0, b0⟩)
  have FX := Lib.hid (sv_size x hx.l4); have FY := Lib.hid (sv_size y hy.l4); have FR := Lib.hid (rv_size r)
  have HU := Lib.hid hu
  clear hx hy hr hu
  go_enter Tryd.func4, Tryd.ntmps4
  go_upto_region 1 with (fail)
  clear hV
  have F1 := Lib.hid (fewS_t x V A0.out.rx)
  have A0a := Lib.hid A0.out.a
  go_wp2_with ((with_reducible refine load_blk 33 (.tmp 4) w.heap.size 33 (sv x) _ rfl rfl ?_ Tryd.underlying33 ?_ ?_ ?_ ?_); exact A0a.out; exact rfl; exact FX.out; exact rfl)
  refine F1.out.mono ?_
  rintro e w1 ⟨f1, rfl, h1, b1⟩
  have A1 := Lib.hid (A0.out.below b1); have H1 := Lib.hid h1
  clear A0 A0a F1 b1 h1
  cases f1 with
  | false =>
    have TD := Lib.hid (tolds_t w1 (HU.out.below A1.out.bel))
    go_wp2_with fail
    refine TD.out.mono ?_
    rintro e wT ⟨rfl, bT⟩
    go_wp2_with fail
    go_ret
    exact ⟨rfl, A1.out.bel.trans (bT.mono A1.out.bel.size)⟩
  | true =>
  have F2 := Lib.hid (fewS_t y w1 A1.out.ry)
  go_wp2_with ((with_reducible refine load_blk_gdO 17 33 (.tmp 5) (w.heap.size + 1) 33 (sv y) _ ?_ ?_ rfl ?_ Tryd.underlying33 ?_ ?_ ?_ ?_); exact rfl; kernel_rfl; exact A1.out.b; exact rfl; exact FY.out; exact rfl)
  refine F2.out.mono ?_
  rintro e w2 ⟨f2, rfl, h2, b2⟩
  have A2 := Lib.hid (A1.out.below b2)
  clear A1 F2 b2 h2
  cases f2 with
  | false =>
    have TD := Lib.hid (tolds_t w2 (HU.out.below A2.out.bel))
    go_wp2_with fail
    refine TD.out.mono ?_
    rintro e wT ⟨rfl, bT⟩
    go_wp2_with fail
    go_ret
    exact ⟨rfl, A2.out.bel.trans (bT.mono A2.out.bel.size)⟩
  | true =>
  have F3 := Lib.hid (fewR_t r w2 A2.out.rr)
  obtain ⟨f3, hf3⟩ : ∃ b, fewR r = b := ⟨_, rfl⟩
  rw [hf3] at F3
  have H3 := Lib.hid hf3
  clear hf3
  go_wp2_with ((with_reducible refine load_blk_gdO 22 39 (.tmp 7) (w.heap.size + 2) 39 (rv r) _ ?_ ?_ rfl ?_ Tryd.underlying39 ?_ ?_ ?_ ?_); exact rfl; kernel_rfl; exact A2.out.c; exact rfl; exact FR.out; exact rfl)
  refine F3.out.mono ?_
  rintro e w3 ⟨rfl, b3⟩
  have A3 := Lib.hid (A2.out.below b3)
  clear A2 F3 b3
  cases f3 with
  | false =>
    have TD := Lib.hid (tolds_t w3 (HU.out.below A3.out.bel))
    go_wp2_with fail
    refine TD.out.mono ?_
    rintro e wT ⟨rfl, bT⟩
    go_wp2_with fail
    go_ret
    exact ⟨rfl, A3.out.bel.trans (bT.mono A3.out.bel.size)⟩
  | true =>
  have SX := Lib.hid (H1.out (by simp)); have RM := Lib.hid (few_smallA H3.out)
  have D1 := Lib.hid (Do_t x now r w3 A3.out.rx SX.out A3.out.rr RM.out.1 RM.out.2 (HU.out.below A3.out.bel))
  clear H1 H3
  go_upto_region 3 with (fail)
  go_wp2_with (first
    | ((with_reducible refine load_blk 33 (.tmp 4) w.heap.size 33 (sv x) _ rfl rfl ?_ Tryd.underlying33 ?_ ?_ ?_ ?_); exact A3.out.a; exact rfl; exact FX.out; exact rfl)
    | ((with_reducible refine load_blk 39 (.tmp 7) (w.heap.size + 2) 39 (rv r) _ rfl rfl ?_ Tryd.underlying39 ?_ ?_ ?_ ?_); exact A3.out.c; exact rfl; exact FR.out; exact rfl))
  refine D1.out.mono ?_
  rintro e w4 ⟨xA, R1, q1, c1, rfl, pA, rA, sA, oA, tA, -, b4⟩
  have A4 := Lib.hid (A3.out.below b4); have PA := Lib.hid pA; have RA := Lib.hid rA
  have wA := sA.w (by rw [pA]; exact do_small SX.out now r.r)
  have OA := Lib.hid (RowL.of_own pv_len rfl oA); have TA := Lib.hid tA
  clear A3 D1 b4 pA rA sA oA tA
  have FX_xA := Lib.hid (sv_size xA wA.l4); have FO_xA := Lib.hid (sv_one xA); have SL_xA := Lib.hid (sv_len xA wA.l4)
  have Z_xA := Lib.hid (Blk.new w4 33 [.int .i64 0, .slice none 0 0, .slice none 0 0, .int .i64 0, .int .i64 0, .int .i64 0, .int .i64 0, .int .i64 0, .slice none 0 0, .bool false, .int .i64 0, .int .i64 0, .int .i64 0, .slice none 0 0, .bool false, .int .i64 0, .int .i64 0, .int .i64 0, .slice none 0 0, .bool false, .int .i64 0, .int .i64 0, .int .i64 0, .slice none 0 0, .bool false])
  have KN_xA := Lib.hid (KSp.new (w1 := w4) (x := xA) wA)
  go_upto_region 4 with ((with_reducible refine at_op (.store 33 (.tmp 9) (.tmp 32)) rfl ?_); go_must (refine store_blk 33 (.tmp 9) (.tmp 32) (w4).heap.size 33 _ (sv xA) rfl rfl Z_xA.out SL_xA.out.symm FX_xA.out FO_xA.out rfl rfl ?_))
  obtain ⟨V4, hV4⟩ : ∃ V, ((w4).alloc (.cells #[.int .i64 0, .slice none 0 0, .slice none 0 0, .int .i64 0, .int .i64 0, .int .i64 0, .int .i64 0, .int .i64 0, .slice none 0 0, .bool false, .int .i64 0, .int .i64 0, .int .i64 0, .slice none 0 0, .bool false, .int .i64 0, .int .i64 0, .int .i64 0, .slice none 0 0, .bool false, .int .i64 0, .int .i64 0, .int .i64 0, .slice none 0 0, .bool false] 33)).setRow (w4).heap.size (sv xA).toArray = V := ⟨_, rfl⟩
  rw [hV4] at KN_xA ⊢
  have K_xA := Lib.hid KN_xA.out.1
  have B_xA := Lib.hid KN_xA.out.2
  clear hV4 KN_xA Z_xA FO_xA SL_xA
  clear wA
  obtain ⟨gA, hgA⟩ : ∃ g, w4.heap.size = g := ⟨_, rfl⟩
  have OA5 := Lib.hid (OA.out.below B_xA.out); have TA5 := Lib.hid (fun (z : Rpv) (hz : z ∈ R1) => (TA.out z hz).below B_xA.out)
  have A5 := Lib.hid (A4.out.below B_xA.out)
  rw [hgA] at K_xA ⊢
  clear hgA A4 OA TA B_xA
  have D2 := Lib.hid (refDo_t x now r V4 A5.out.rx A5.out.rr)
  go_wp2_with (first
    | ((with_reducible refine load_blk 33 (.tmp 4) w.heap.size 33 (sv x) _ rfl rfl ?_ Tryd.underlying33 ?_ ?_ ?_ ?_); exact A5.out.a; exact rfl; exact FX.out; exact rfl)
    | ((with_reducible refine load_blk 39 (.tmp 7) (w.heap.size + 2) 39 (rv r) _ rfl rfl ?_ Tryd.underlying39 ?_ ?_ ?_ ?_); exact A5.out.c; exact rfl; exact FR.out; exact rfl))
  refine D2.out.mono ?_
  rintro e w6 ⟨xB, R2, q2, c2, rfl, pB, rB, wB, oB, tB, b6⟩
  have A6 := Lib.hid (A5.out.below b6); have PB := Lib.hid pB; have RB := Lib.hid rB; have OB_ := Lib.hid oB; have TB := Lib.hid tB
  have KA6 := Lib.hid (K_xA.out.below b6); have OA6 := Lib.hid (OA5.out.below b6); have TA6 := Lib.hid (fun (z : Rpv) (hz : z ∈ R1) => (TA5.out z hz).below b6)
  clear A5 D2 K_xA OA5 TA5 b6 pB rB oB tB
  have FX_xB := Lib.hid (sv_size xB wB.l4); have FO_xB := Lib.hid (sv_one xB); have SL_xB := Lib.hid (sv_len xB wB.l4)
  have Z_xB := Lib.hid (Blk.new w6 33 [.int .i64 0, .slice none 0 0, .slice none 0 0, .int .i64 0, .int .i64 0, .int .i64 0, .int .i64 0, .int .i64 0, .slice none 0 0, .bool false, .int .i64 0, .int .i64 0, .int .i64 0, .slice none 0 0, .bool false, .int .i64 0, .int .i64 0, .int .i64 0, .slice none 0 0, .bool false, .int .i64 0, .int .i64 0, .int .i64 0, .slice none 0 0, .bool false])
  have KN_xB := Lib.hid (KSp.new (w1 := w6) (x := xB) wB)
  go_upto_region 5 with ((with_reducible refine at_op (.store 33 (.tmp 11) (.tmp 39)) rfl ?_); go_must (refine store_blk 33 (.tmp 11) (.tmp 39) (w6).heap.size 33 _ (sv xB) rfl rfl Z_xB.out SL_xB.out.symm FX_xB.out FO_xB.out rfl rfl ?_))
  obtain ⟨V6, hV6⟩ : ∃ V, ((w6).alloc (.cells #[.int .i64 0, .slice none 0 0, .slice none 0 0, .int .i64 0, .int .i64 0, .int .i64 0, .int .i64 0, .int .i64 0, .slice none 0 0, .bool false, .int .i64 0, .int .i64 0, .int .i64 0, .slice none 0 0, .bool false, .int .i64 0, .int .i64 0, .int .i64 0, .slice none 0 0, .bool false, .int .i64 0, .int .i64 0, .int .i64 0, .slice none 0 0, .bool false] 33)).setRow (w6).heap.size (sv xB).toArray = V := ⟨_, rfl⟩
  rw [hV6] at KN_xB ⊢
  have K_xB := Lib.hid KN_xB.out.1
  have B_xB := Lib.hid KN_xB.out.2
  clear hV6 KN_xB Z_xB FO_xB SL_xB
  clear wB
  obtain ⟨gB, hgB⟩ : ∃ g, w6.heap.size = g := ⟨_, rfl⟩
  obtain ⟨U, hU⟩ : ∃ U, V6.drew = U := ⟨_, rfl⟩
  have BV := Lib.hid (show Below w6.heap.size w6 U from by rw [← hU]; exact B_xB.out.drew)
  have BVU := Lib.hid (show Below V6.heap.size V6 U from by rw [← hU]; exact (Below.refl _ _).drew)
  have AU := Lib.hid (A6.out.below BV.out); have KA := Lib.hid (KA6.out.below BV.out); have KB := Lib.hid (K_xB.out.below BVU.out)
  have OA := Lib.hid (OA6.out.below BV.out); have OB2 := Lib.hid (OB_.out.below BV.out)
  have TB2 := Lib.hid (fun (z : Rpv) (hz : z ∈ R2) => (TB.out z hz).below BV.out)
  have ER := Lib.hid (show R2.map (·.r) = R1.map (·.r) from by rw [RB.out, RA.out])
  have TA2 := Lib.hid (fun (z : Rpv) (hz : z ∈ R1) => show TR U z.p z.r.t from ((TA6.out z hz).below BV.out).tr (by
    have h : z.r ∈ R2.map (·.r) := by rw [ER.out]; exact List.mem_map_of_mem hz
    obtain ⟨v, hv, e⟩ := List.mem_map.1 h
    rw [← e]
    exact (TB2.out v hv).n))
  have LR := Lib.hid (show R1.length ≤ 1001 from by
    have h := do_len (s := x.sp) (by exact SX.out.m) now r.r
    rw [← RA.out, List.length_map] at h
    exact h)
  have FA := Lib.hid (sv_size xA KA.out.w.l4); have FB := Lib.hid (sv_size xB KB.out.w.l4)
  have WA := Lib.hid KA.out.w; have WB := Lib.hid KB.out.w
  rw [hgB] at KB ⊢
  clear hgB A6 KA6 OA6 TA6 OB_ TB K_xB B_xB BV BVU
  have SU := Lib.hid (fun (Y : World) (hb : Below U.heap.size U Y) => show Blk Y w.heap.size 33 (sv x) ∧ Blk Y (w.heap.size + 1) 33 (sv y) ∧ Blk Y (w.heap.size + 2) 39 (rv r) ∧ Blk Y gA 33 (sv xA) ∧ Blk Y gB 33 (sv xB) from
    ⟨AU.out.a.below hb AU.out.a.lt, AU.out.b.below hb AU.out.b.lt, AU.out.c.below hb AU.out.c.lt, KA.out.box.below hb KA.out.box.lt, KB.out.box.below hb KB.out.box.lt⟩)
  have MF := Lib.hid (fun W h => SpMay_t x W h); have MG := Lib.hid (fun W h => refMaySpace_t x W h)
  obtain ⟨mb, hmb⟩ : ∃ b, spMay x.sp = b := ⟨_, rfl⟩
  rw [hmb] at MF MG
  have SG := Lib.hid (fun W h1 h2 => refSameSpace_t xA xB W h1 h2)
  rw [spS_iff.2 (PA.out.trans PB.out.symm)] at SG
  have RR := Lib.hid (fun W (h : Below U.heap.size U W) => refSameReplies_eq R1 R2 q1 q2 c1 c2 W (OA.out.below h) (OB2.out.below h) (fun z hz => (TA2.out z hz).below h) (fun z hz => (TB2.out z hz).below h) LR.out ER.out)
  have SF1 := Lib.hid (fun W h1 h2 => SpSame_t x y W h1 h2); have SF2 := Lib.hid (fun W h1 h2 => refSameSpace_t x y W h1 h2)
  obtain ⟨sb, hsb⟩ : ∃ b, spS x.sp y.sp = b := ⟨_, rfl⟩
  rw [hsb] at SF1 SF2
  have SX1 := Lib.hid (fun W h => SpSame_t x x W h h)
  rw [spS_iff.2 rfl] at SX1
  have RN := Lib.hid AU.out.rr.n
  have FF1 := Lib.hid (fun W h1 h2 => Find_t x r.p r.r.n r.c r.r.G W RN.out h1 h2); have FF2 := Lib.hid (fun W h1 h2 => refFind_t x r.p r.r.n r.c r.r.G W RN.out h1 h2)
  obtain ⟨fi, hfi⟩ : ∃ b, fndI (fl r.r.n r.r.G) x.sp.its = b := ⟨_, rfl⟩
  rw [hfi] at FF1 FF2
  clear hmb hsb hfi
  have B0 := Lib.hid (Below.refl U.heap.size U)
  have s0 := SU.out U B0.out
  refine wp_region_held (S := fun Y => Blk Y w.heap.size 33 (sv x) ∧ Blk Y (w.heap.size + 1) 33 (sv y) ∧ Blk Y (w.heap.size + 2) 39 (rv r) ∧ Blk Y gA 33 (sv xA) ∧ Blk Y gB 33 (sv xB)) (by kernel_rfl) ?_
  change wpAnyH _ _ _ _ _ _ _ _ V6.drew
  rw [hU]
  clear hU
  try go_simp
  refine wpAnyH_ready (rs := [0]) (by kernel_rfl) (by simp) ?_
  refine AllReadyH.cons rfl (fun K hK => ?_) AllReadyH.nil
  rw [if_pos (by kernel_rfl)]
  go_simp
  refine (tolds_t U (HU.out.below (AU.out.below B0.out).bel)).mono ?_
  rintro e ua ⟨rfl, b_⟩
  have Ba := Lib.hid (show Below U.heap.size U ua from B0.out.trans (b_.mono B0.out.size))
  have s0 := SU.out _ Ba.out
  refine hK.out _ _ s0 (fun _ => ?_)
  clear hK K b_
  refine wpAnyH_take (i := 1) (v := ?_) rfl (by kernel_rfl) (by kernel_rfl) (by kernel_rfl) (fun _ _ _ h => h) (Or.inl ⟨by kernel_rfl, ?_⟩) s0 ?_
  rotate_left 1
  · (intro w hS; clear hS; go_simp; try (with_reducible rfl))
  refine wpAnyH_take (i := 2) (v := .agg (sv x).toArray) rfl (by kernel_rfl) (by kernel_rfl) (by kernel_rfl) (fun _ _ _ h => h) (yieldsIf_load_mid (by kernel_rfl) 33 (.tmp 4) rfl w.heap.size 0 (by go_simp) (sv x) _ (fun _ h => rows_of_blk h.1) Tryd.underlying33 rfl (FX.out)) s0 ?_
  refine wpAnyH_take (i := 4) (v := .agg (sv x).toArray) rfl (by kernel_rfl) (by kernel_rfl) (by kernel_rfl) (fun _ _ _ h => h) (yieldsIf_load_mid (by kernel_rfl) 33 (.tmp 4) rfl w.heap.size 0 (by go_simp) (sv x) _ (fun _ h => rows_of_blk h.1) Tryd.underlying33 rfl (FX.out)) s0 ?_
  try go_simp
  refine wpAnyH_ready (rs := [3]) (by kernel_rfl) (by simp) ?_
  refine AllReadyH.cons rfl (fun K hK => ?_) AllReadyH.nil
  rw [if_pos (by kernel_rfl)]
  go_simp
  refine (MF.out ua (AU.out.below Ba.out).rx).mono ?_
  rintro e ub ⟨rfl, b_⟩
  have Bb := Lib.hid (show Below U.heap.size U ub from Ba.out.trans (b_.mono Ba.out.size))
  have s0 := SU.out _ Bb.out
  refine hK.out _ _ s0 (fun _ => ?_)
  clear hK K b_
  try go_simp
  refine wpAnyH_ready (rs := [5]) (by kernel_rfl) (by simp) ?_
  refine AllReadyH.cons rfl (fun K hK => ?_) AllReadyH.nil
  rw [if_pos (by kernel_rfl)]
  go_simp
  refine (MG.out ub (AU.out.below Bb.out).rx).mono ?_
  rintro e uc ⟨rfl, b_⟩
  have Bc := Lib.hid (show Below U.heap.size U uc from Bb.out.trans (b_.mono Bb.out.size))
  have s0 := SU.out _ Bc.out
  refine hK.out _ _ s0 (fun _ => ?_)
  clear hK K b_
  refine wpAnyH_take (i := 6) (v := ?_) rfl (by kernel_rfl) (by kernel_rfl) (by kernel_rfl) (fun _ _ _ h => h) (Or.inl ⟨by kernel_rfl, ?_⟩) s0 ?_
  rotate_left 1
  · (intro w hS; clear hS; go_simp; try (with_reducible rfl))
  refine wpAnyH_take (i := 7) (v := ?_) rfl (by kernel_rfl) (by kernel_rfl) (by kernel_rfl) (fun _ _ _ h => h) (Or.inl ⟨by kernel_rfl, ?_⟩) s0 ?_
  rotate_left 1
  · (intro w hS; clear hS; go_simp; try (with_reducible rfl))
  refine wpAnyH_take (i := 8) (v := ?_) rfl (by kernel_rfl) (by kernel_rfl) (by kernel_rfl) (fun _ _ _ h => h) (Or.inl ⟨by kernel_rfl, ?_⟩) s0 ?_
  rotate_left 1
  · (intro w hS; clear hS; go_simp; try (with_reducible rfl))
  refine wpAnyH_take (i := 9) (v := .agg (sv xA).toArray) rfl (by kernel_rfl) (by kernel_rfl) (by kernel_rfl) (fun _ _ _ h => h) (yieldsIf_load_mid (by kernel_rfl) 33 (.tmp 9) rfl gA 0 (by go_simp) (sv xA) _ (fun _ h => rows_of_blk h.2.2.2.1) Tryd.underlying33 rfl (FA.out)) s0 ?_
  refine wpAnyH_take (i := 10) (v := .agg (sv xB).toArray) rfl (by kernel_rfl) (by kernel_rfl) (by kernel_rfl) (fun _ _ _ h => h) (yieldsIf_load_mid (by kernel_rfl) 33 (.tmp 11) rfl gB 0 (by go_simp) (sv xB) _ (fun _ h => rows_of_blk h.2.2.2.2) Tryd.underlying33 rfl (FB.out)) s0 ?_
  try go_simp
  refine wpAnyH_ready (rs := [11]) (by kernel_rfl) (by simp) ?_
  refine AllReadyH.cons rfl (fun K hK => ?_) AllReadyH.nil
  rw [if_pos (by kernel_rfl)]
  go_simp
  refine (SG.out uc (WA.out.below Bc.out) (WB.out.below Bc.out)).mono ?_
  rintro e ud ⟨rfl, b_⟩
  have Bd := Lib.hid (show Below U.heap.size U ud from Bc.out.trans (b_.mono Bc.out.size))
  have s0 := SU.out _ Bd.out
  refine hK.out _ _ s0 (fun _ => ?_)
  clear hK K b_
  refine wpAnyH_take (i := 12) (v := ?_) rfl (by kernel_rfl) (by kernel_rfl) (by kernel_rfl) (fun _ _ _ h => h) (Or.inl ⟨by kernel_rfl, ?_⟩) s0 ?_
  rotate_left 1
  · (intro w hS; clear hS; go_simp; try (with_reducible rfl))
  refine wpAnyH_take (i := 13) (v := ?_) rfl (by kernel_rfl) (by kernel_rfl) (by kernel_rfl) (fun _ _ _ h => h) (Or.inl ⟨by kernel_rfl, ?_⟩) s0 ?_
  rotate_left 1
  · (intro w hS; clear hS; go_simp; try (with_reducible rfl))
  refine wpAnyH_take (i := 14) (v := ?_) rfl (by kernel_rfl) (by kernel_rfl) (by kernel_rfl) (fun _ _ _ h => h) (Or.inl ⟨by kernel_rfl, ?_⟩) s0 ?_
  rotate_left 1
  · (intro w hS; clear hS; go_simp; try (with_reducible rfl))
  refine wpAnyH_take (i := 15) (v := ?_) rfl (by kernel_rfl) (by kernel_rfl) (by kernel_rfl) (fun _ _ _ h => h) (Or.inl ⟨by kernel_rfl, ?_⟩) s0 ?_
  rotate_left 1
  · (intro w hS; clear hS; go_simp; try (with_reducible rfl))
  try go_simp
  refine wpAnyH_ready (rs := [16]) (by kernel_rfl) (by simp) ?_
  refine AllReadyH.cons rfl (fun K hK => ?_) AllReadyH.nil
  rw [if_pos (by kernel_rfl)]
  go_simp
  refine (RR.out ud Bd.out).mono ?_
  rintro e ue ⟨rfl, b_⟩
  have Be := Lib.hid (show Below U.heap.size U ue from Bd.out.trans (b_.mono Bd.out.size))
  have s0 := SU.out _ Be.out
  refine hK.out _ _ s0 (fun _ => ?_)
  clear hK K b_
  refine wpAnyH_take (i := 17) (v := ?_) rfl (by kernel_rfl) (by kernel_rfl) (by kernel_rfl) (fun _ _ _ h => h) (Or.inl ⟨by kernel_rfl, ?_⟩) s0 ?_
  rotate_left 1
  · (intro w hS; clear hS; go_simp; try (with_reducible rfl))
  refine wpAnyH_take (i := 18) (v := ?_) rfl (by kernel_rfl) (by kernel_rfl) (by kernel_rfl) (fun _ _ _ h => h) (Or.inl ⟨by kernel_rfl, ?_⟩) s0 ?_
  rotate_left 1
  · (intro w hS; clear hS; go_simp; try (with_reducible rfl))
  refine wpAnyH_take (i := 19) (v := .agg (sv x).toArray) rfl (by kernel_rfl) (by kernel_rfl) (by kernel_rfl) (fun _ _ _ h => h) (yieldsIf_load_mid (by kernel_rfl) 33 (.tmp 4) rfl w.heap.size 0 (by go_simp) (sv x) _ (fun _ h => rows_of_blk h.1) Tryd.underlying33 rfl (FX.out)) s0 ?_
  refine wpAnyH_take (i := 20) (v := .agg (sv y).toArray) rfl (by kernel_rfl) (by kernel_rfl) (by kernel_rfl) (fun _ _ _ h => h) (yieldsIf_load_mid (by kernel_rfl) 33 (.tmp 5) rfl (w.heap.size + 1) 0 (by go_simp) (sv y) _ (fun _ h => rows_of_blk h.2.1) Tryd.underlying33 rfl (FY.out)) s0 ?_
  refine wpAnyH_take (i := 22) (v := .agg (sv x).toArray) rfl (by kernel_rfl) (by kernel_rfl) (by kernel_rfl) (fun _ _ _ h => h) (yieldsIf_load_mid (by kernel_rfl) 33 (.tmp 4) rfl w.heap.size 0 (by go_simp) (sv x) _ (fun _ h => rows_of_blk h.1) Tryd.underlying33 rfl (FX.out)) s0 ?_
  refine wpAnyH_take (i := 23) (v := .agg (sv y).toArray) rfl (by kernel_rfl) (by kernel_rfl) (by kernel_rfl) (fun _ _ _ h => h) (yieldsIf_load_mid (by kernel_rfl) 33 (.tmp 5) rfl (w.heap.size + 1) 0 (by go_simp) (sv y) _ (fun _ h => rows_of_blk h.2.1) Tryd.underlying33 rfl (FY.out)) s0 ?_
  try go_simp
  refine wpAnyH_ready (rs := [21]) (by kernel_rfl) (by simp) ?_
  refine AllReadyH.cons rfl (fun K hK => ?_) AllReadyH.nil
  rw [if_pos (by kernel_rfl)]
  go_simp
  refine (SF1.out ue (AU.out.below Be.out).rx (AU.out.below Be.out).ry).mono ?_
  rintro e uf ⟨rfl, b_⟩
  have Bf := Lib.hid (show Below U.heap.size U uf from Be.out.trans (b_.mono Be.out.size))
  have s0 := SU.out _ Bf.out
  refine hK.out _ _ s0 (fun _ => ?_)
  clear hK K b_
  try go_simp
  refine wpAnyH_ready (rs := [24]) (by kernel_rfl) (by simp) ?_
  refine AllReadyH.cons rfl (fun K hK => ?_) AllReadyH.nil
  rw [if_pos (by kernel_rfl)]
  go_simp
  refine (SF2.out uf (AU.out.below Bf.out).rx (AU.out.below Bf.out).ry).mono ?_
  rintro e ug ⟨rfl, b_⟩
  have Bg := Lib.hid (show Below U.heap.size U ug from Bf.out.trans (b_.mono Bf.out.size))
  have s0 := SU.out _ Bg.out
  refine hK.out _ _ s0 (fun _ => ?_)
  clear hK K b_
  refine wpAnyH_take (i := 25) (v := ?_) rfl (by kernel_rfl) (by kernel_rfl) (by kernel_rfl) (fun _ _ _ h => h) (Or.inl ⟨by kernel_rfl, ?_⟩) s0 ?_
  rotate_left 1
  · (intro w hS; clear hS; go_simp; try (with_reducible rfl))
  refine wpAnyH_take (i := 26) (v := ?_) rfl (by kernel_rfl) (by kernel_rfl) (by kernel_rfl) (fun _ _ _ h => h) (Or.inl ⟨by kernel_rfl, ?_⟩) s0 ?_
  rotate_left 1
  · (intro w hS; clear hS; go_simp; try (with_reducible rfl))
  refine wpAnyH_take (i := 27) (v := ?_) rfl (by kernel_rfl) (by kernel_rfl) (by kernel_rfl) (fun _ _ _ h => h) (Or.inl ⟨by kernel_rfl, ?_⟩) s0 ?_
  rotate_left 1
  · (intro w hS; clear hS; go_simp; try (with_reducible rfl))
  refine wpAnyH_take (i := 28) (v := .agg (sv x).toArray) rfl (by kernel_rfl) (by kernel_rfl) (by kernel_rfl) (fun _ _ _ h => h) (yieldsIf_load_mid (by kernel_rfl) 33 (.tmp 4) rfl w.heap.size 0 (by go_simp) (sv x) _ (fun _ h => rows_of_blk h.1) Tryd.underlying33 rfl (FX.out)) s0 ?_
  refine wpAnyH_take (i := 29) (v := .agg (sv x).toArray) rfl (by kernel_rfl) (by kernel_rfl) (by kernel_rfl) (fun _ _ _ h => h) (yieldsIf_load_mid (by kernel_rfl) 33 (.tmp 4) rfl w.heap.size 0 (by go_simp) (sv x) _ (fun _ h => rows_of_blk h.1) Tryd.underlying33 rfl (FX.out)) s0 ?_
  try go_simp
  refine wpAnyH_ready (rs := [30]) (by kernel_rfl) (by simp) ?_
  refine AllReadyH.cons rfl (fun K hK => ?_) AllReadyH.nil
  rw [if_pos (by kernel_rfl)]
  go_simp
  refine (SX1.out ug (AU.out.below Bg.out).rx).mono ?_
  rintro e uh ⟨rfl, b_⟩
  have Bh := Lib.hid (show Below U.heap.size U uh from Bg.out.trans (b_.mono Bg.out.size))
  have s0 := SU.out _ Bh.out
  refine hK.out _ _ s0 (fun _ => ?_)
  clear hK K b_
  refine wpAnyH_take (i := 31) (v := ?_) rfl (by kernel_rfl) (by kernel_rfl) (by kernel_rfl) (fun _ _ _ h => h) (Or.inl ⟨by kernel_rfl, ?_⟩) s0 ?_
  rotate_left 1
  · (intro w hS; clear hS; go_simp; try (with_reducible rfl))
  refine wpAnyH_take (i := 32) (v := ?_) rfl (by kernel_rfl) (by kernel_rfl) (by kernel_rfl) (fun _ _ _ h => h) (Or.inl ⟨by kernel_rfl, ?_⟩) s0 ?_
  rotate_left 1
  · (intro w hS; clear hS; go_simp; try (with_reducible rfl))
  refine wpAnyH_take (i := 33) (v := .agg (sv x).toArray) rfl (by kernel_rfl) (by kernel_rfl) (by kernel_rfl) (fun _ _ _ h => h) (yieldsIf_load_mid (by kernel_rfl) 33 (.tmp 4) rfl w.heap.size 0 (by go_simp) (sv x) _ (fun _ h => rows_of_blk h.1) Tryd.underlying33 rfl (FX.out)) s0 ?_
  refine wpAnyH_take (i := 34) (v := ?_) rfl (by kernel_rfl) (by kernel_rfl) (by kernel_rfl) (fun _ _ _ h => h) (Or.inl ⟨by kernel_rfl, ?_⟩) s0 ?_
  rotate_left 1
  · (intro w hS; clear hS; go_simp; try (with_reducible rfl))
  refine wpAnyH_take (i := 35) (v := ?_) rfl (by kernel_rfl) (by kernel_rfl) (by kernel_rfl) (fun _ _ _ h => h) (Or.inl ⟨by kernel_rfl, ?_⟩) s0 ?_
  rotate_left 1
  · (intro w hS; have hs := (rv_cells hS.2.2.1).2.2.2.1; clear hS; go_simp; try (with_reducible rfl))
  refine wpAnyH_take (i := 37) (v := .agg (sv x).toArray) rfl (by kernel_rfl) (by kernel_rfl) (by kernel_rfl) (fun _ _ _ h => h) (yieldsIf_load_mid (by kernel_rfl) 33 (.tmp 4) rfl w.heap.size 0 (by go_simp) (sv x) _ (fun _ h => rows_of_blk h.1) Tryd.underlying33 rfl (FX.out)) s0 ?_
  refine wpAnyH_take (i := 38) (v := ?_) rfl (by kernel_rfl) (by kernel_rfl) (by kernel_rfl) (fun _ _ _ h => h) (Or.inl ⟨by kernel_rfl, ?_⟩) s0 ?_
  rotate_left 1
  · (intro w hS; clear hS; go_simp; try (with_reducible rfl))
  refine wpAnyH_take (i := 39) (v := ?_) rfl (by kernel_rfl) (by kernel_rfl) (by kernel_rfl) (fun _ _ _ h => h) (Or.inl ⟨by kernel_rfl, ?_⟩) s0 ?_
  rotate_left 1
  · (intro w hS; have hs := (rv_cells hS.2.2.1).2.2.2.1; clear hS; go_simp; try (with_reducible rfl))
  try go_simp
  refine wpAnyH_ready (rs := [36]) (by kernel_rfl) (by simp) ?_
  refine AllReadyH.cons rfl (fun K hK => ?_) AllReadyH.nil
  rw [if_pos (by kernel_rfl)]
  go_simp
  refine (FF1.out uh (AU.out.below Bh.out).rr.p (AU.out.below Bh.out).rx).mono ?_
  rintro e ui ⟨rfl, b_⟩
  have Bi := Lib.hid (show Below U.heap.size U ui from Bh.out.trans (b_.mono Bh.out.size))
  have s0 := SU.out _ Bi.out
  refine hK.out _ _ s0 (fun _ => ?_)
  clear hK K b_
  try go_simp
  refine wpAnyH_ready (rs := [40]) (by kernel_rfl) (by simp) ?_
  refine AllReadyH.cons rfl (fun K hK => ?_) AllReadyH.nil
  rw [if_pos (by kernel_rfl)]
  go_simp
  refine (FF2.out ui (AU.out.below Bi.out).rr.p (AU.out.below Bi.out).rx).mono ?_
  rintro e uj ⟨rfl, b_⟩
  have Bj := Lib.hid (show Below U.heap.size U uj from Bi.out.trans (b_.mono Bi.out.size))
  have s0 := SU.out _ Bj.out
  refine hK.out _ _ s0 (fun _ => ?_)
  clear hK K b_
  refine wpAnyH_take (i := 41) (v := ?_) rfl (by kernel_rfl) (by kernel_rfl) (by kernel_rfl) (fun _ _ _ h => h) (Or.inl ⟨by kernel_rfl, ?_⟩) s0 ?_
  rotate_left 1
  · (intro w hS; clear hS; go_simp; try (with_reducible rfl))
  refine wpAnyH_take (i := 42) (v := ?_) rfl (by kernel_rfl) (by kernel_rfl) (by kernel_rfl) (fun _ _ _ h => h) (Or.inl ⟨by kernel_rfl, ?_⟩) s0 ?_
  rotate_left 1
  · (intro w hS; clear hS; go_simp; try (with_reducible rfl))
  refine wpAnyH_take (i := 43) (v := ?_) rfl (by kernel_rfl) (by kernel_rfl) (by kernel_rfl) (fun _ _ _ h => h) (Or.inl ⟨by kernel_rfl, ?_⟩) s0 ?_
  rotate_left 1
  · (intro w hS; clear hS; go_simp; try (with_reducible rfl))
  refine wpAnyH_done (by kernel_rfl) ?_ _
  go_simp
  go_wp2_with fail
  go_ret
  exact ⟨rfl, AU.out.bel.trans (Bj.out.mono AU.out.bel.size)⟩
end Go.Proofs.YtlamfdeepofenaaDoor
