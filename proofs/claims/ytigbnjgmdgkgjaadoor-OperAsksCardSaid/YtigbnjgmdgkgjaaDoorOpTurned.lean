/-
  OperTurned walked.
-/
import Derived.Test.YtigbnjgmdgkgjaaDoorOpT
import Derived.Test.YtigbnjgmdgkgjaaDoorTpTurned
namespace Go.Proofs.YtigbnjgmdgkgjaaDoor
open Go Go.RowKit Sh

/-- What a turned byte makes of a request's bytes. -/
theorem turn_getR {r : Rq} {j x : Nat} (hm : mayR r = true) (hr : InRq r) (hj : j < (putR r).length) (hx : x < 256) :
    (okR ((putR r).set j (gt (putR r) j ^^^ x)) = false → x ≠ 0) ∧
    (okR ((putR r).set j (gt (putR r) j ^^^ x)) = true → mayR (gotR ((putR r).set j (gt (putR r) j ^^^ x))) = true ∧
      putR (gotR ((putR r).set j (gt (putR r) j ^^^ x))) = (putR r).set j (gt (putR r) j ^^^ x) ∧
      sameR r (gotR ((putR r).set j (gt (putR r) j ^^^ x))) = decide (x = 0)) := by
  have hb := set_bytesT (putR_bytes r) j x hx
  have hs := set_iff (x := x) hj
  obtain ⟨ys, hys⟩ : ∃ ys, (putR r).set j (gt (putR r) j ^^^ x) = ys := ⟨_, rfl⟩
  rw [hys] at hb hs ⊢
  obtain ⟨g1, g2⟩ := frontR_ok hm hr
  constructor
  · intro h h0
    rw [hs.2 h0, g1] at h
    cases h
  · intro h
    obtain ⟨e1, e2, e3⟩ := backR hb h
    refine ⟨e2, e1.symm, ?_⟩
    rw [putR_inj hm hr e2 e3, ← e1]
    by_cases h0 : x = 0
    · rw [decide_eq_true h0, decide_eq_true (hs.2 h0).symm]
    · rw [decide_eq_false h0, decide_eq_false (fun h => h0 (hs.1 h.symm))]
/-- A request at hand, boxed. -/
structure OC (w0 W : World) (g : Nat) (x : Rv) : Prop where
  box : Blk W g 24 (rv x)
  rx : RvW W x
  ut : UT W
  bel : Below w0.heap.size w0 W
theorem OC.below {w0 W W' : World} {g : Nat} {x : Rv} (h : OC w0 W g x) (hb : Below W.heap.size W W') : OC w0 W' g x := ⟨h.box.below hb h.box.lt, h.rx.below hb, h.ut.below hb, h.bel.trans (hb.mono h.bel.size)⟩
set_option maxRecDepth 100000 in
set_option maxHeartbeats 1000000 in
theorem oturned_t (x : Rv) (at_ : Int) (y : Nat) (w : World) (h : RvW w x) (hi : InRq x.r) (hy : y < 256) (hu : UT w) :
    Calls Tryd.prog 6 #[.agg (rv x).toArray, .int .i64 at_, .int .u8 (y : Int)] w fun e w' => e = .returned (.bool true) ∧ Below w.heap.size w w' := by
  have C0 := Lib.hid (show OC w (w.alloc (.cells (rv x).toArray 24)) w.heap.size x from by
    have bz : Below w.heap.size w (w.alloc (.cells (rv x).toArray 24)) := (Below.refl w.heap.size w).alloc (Nat.le_refl _) _
    exact ⟨Blk.new w _ _, h.below bz, hu.below bz, bz⟩)
  have FW := Lib.hid (fewR_t x _ C0.out.rx)
  have MW := Lib.hid (fun W (c : OC w W w.heap.size x) => May_r x W c.ut c.rx)
  have G0 := Lib.hid C0.out.box
  obtain ⟨fb, hfb⟩ : ∃ b, fewR x = b := ⟨_, rfl⟩
  obtain ⟨mb, hmb⟩ : ∃ b, mayR x.r = b := ⟨_, rfl⟩
  rw [hfb] at FW
  rw [hmb] at MW
  have MB := Lib.hid hmb; have HRV := Lib.hid h; have HU := Lib.hid hu
  clear hfb hmb h hu
  cases fb with
  | false =>
    go_enter Tryd.func6, Tryd.ntmps6
    go_wp2_with ((with_reducible refine load_blk_gdO 14 24 (.tmp 3) w.heap.size 24 (rv x) _ ?_ ?_ rfl ?_ Tryd.underlying24 ?_ ?_ ?_ ?_); exact rfl; kernel_rfl; exact G0.out; exact rfl; exact rv_size x; exact rfl)
    refine FW.out.mono ?_
    rintro e w1 ⟨rfl, b1⟩
    have C1 := Lib.hid (C0.out.below b1)
    clear b1 C0 G0
    go_wp2_with fail
    refine (otold_t _ C1.out.ut).mono ?_
    rintro e w9 ⟨rfl, b9⟩
    have C9 := Lib.hid (C1.out.below b9)
    clear b9
    go_wp2_with fail
    go_ret
    exact ⟨by simp, C9.out.bel⟩
  | true =>
    cases mb with
    | false =>
      go_enter Tryd.func6, Tryd.ntmps6
      go_wp2_with ((with_reducible refine load_blk_gdO 14 24 (.tmp 3) w.heap.size 24 (rv x) _ ?_ ?_ rfl ?_ Tryd.underlying24 ?_ ?_ ?_ ?_); exact rfl; kernel_rfl; exact G0.out; exact rfl; exact rv_size x; exact rfl)
      refine FW.out.mono ?_
      rintro e w1 ⟨rfl, b1⟩
      have C1 := Lib.hid (C0.out.below b1)
      have G1 := Lib.hid C1.out.box
      clear b1 C0 G0
      go_wp2_with ((with_reducible refine load_blk_gdO 18 24 (.tmp 3) w.heap.size 24 (rv x) _ ?_ ?_ rfl ?_ Tryd.underlying24 ?_ ?_ ?_ ?_); exact rfl; kernel_rfl; exact G1.out; exact rfl; exact rv_size x; exact rfl)
      refine (MW.out w1 C1.out).mono ?_
      rintro e w2 ⟨rfl, b2⟩
      have C2 := Lib.hid (C1.out.below b2)
      clear b2 C1 G1
      go_wp2_with fail
      refine (otold_t _ C2.out.ut).mono ?_
      rintro e w9 ⟨rfl, b9⟩
      have C9 := Lib.hid (C2.out.below b9)
      clear b9
      go_wp2_with fail
      go_ret
      exact ⟨by simp, C9.out.bel⟩
    | true =>
      have PL := Lib.hid (putR_length MB.out)
      have PB := Lib.hid (putR_bytes x.r)
      have TG := Lib.hid (fun j hj => turn_getR (j := j) (x := y) MB.out hi hj hy)
      have PY := Lib.hid (fun W (c : OC w W w.heap.size x) => PutR_yes x W c.ut c.rx MB.out)
      obtain ⟨xs, hxs⟩ : ∃ xs, putR x.r = xs := ⟨_, rfl⟩
      rw [hxs] at PL PB
      simp only [hxs] at TG PY
      obtain ⟨L, hL⟩ : ∃ L, xs.length = L := ⟨_, rfl⟩
      rw [hL] at PL
      simp only [hL] at TG PY
      obtain ⟨j, hj, hje⟩ := mod_bigT L (by have := PL.out; omega) (by have := PL.out; omega) at_
      have HL := Lib.hid hL
      have HX := Lib.hid (show L ≤ 600 ∧ 0 < L from by have := PL.out; omega)
      clear hxs hL PL MB
      go_enter Tryd.func6, Tryd.ntmps6
      go_wp2_with ((with_reducible refine load_blk_gdO 14 24 (.tmp 3) w.heap.size 24 (rv x) _ ?_ ?_ rfl ?_ Tryd.underlying24 ?_ ?_ ?_ ?_); exact rfl; kernel_rfl; exact G0.out; exact rfl; exact rv_size x; exact rfl)
      refine FW.out.mono ?_
      rintro e w1 ⟨rfl, b1⟩
      have C1 := Lib.hid (C0.out.below b1)
      have G1 := Lib.hid C1.out.box
      clear b1 C0 G0
      go_wp2_with ((with_reducible refine load_blk_gdO 18 24 (.tmp 3) w.heap.size 24 (rv x) _ ?_ ?_ rfl ?_ Tryd.underlying24 ?_ ?_ ?_ ?_); exact rfl; kernel_rfl; exact G1.out; exact rfl; exact rv_size x; exact rfl)
      refine (MW.out w1 C1.out).mono ?_
      rintro e w2 ⟨rfl, b2⟩
      have C2 := Lib.hid (C1.out.below b2)
      have G2 := Lib.hid C2.out.box
      clear b2 C1 G1 FW MW
      go_wp2_with ((with_reducible refine load_blk_gdO 24 24 (.tmp 3) w.heap.size 24 (rv x) _ ?_ ?_ rfl ?_ Tryd.underlying24 ?_ ?_ ?_ ?_); exact rfl; kernel_rfl; exact G2.out; exact rfl; exact rv_size x; exact rfl)
      refine (PY.out w2 C2.out).mono ?_
      rintro e w3 ⟨u, rfl, o3, b3⟩
      obtain ⟨g, c3, rfl, hc3⟩ := own_formT o3 HX.out.2
      have C3 := Lib.hid (C2.out.below b3); have O3 := Lib.hid o3
      have C2L := C2.out.box.lt
      clear o3 b3 C2 G2 PY
      have cj : w3.cell? ⟨g, j, none⟩ = some (.int .u8 ((gt xs j : Nat) : Int)) := by rw [O3.out.cellAt j (by omega), u8s_get _ _ (by rw [HL.out]; exact hj)]
      have fj := O3.out.frozenAt j
      have hxx := xor_u8T (gt xs j) y (PB.out j) hy
      have i1 : (j : Int) < (L : Int) := by omega
      have i2 : ((L : Int) == 0) = false := by rw [beq_eq_false_iff_ne]; have := HX.out; omega
      have i3 : (L : Int) ≠ 0 := by have := HX.out; omega
      have i4 : IntKind.u64.wrap (L : Int) = (L : Int) := IntWalk.u64_in _ (by have := HX.out; omega)
      go_upto_region 8 with (fail)
      clear cj fj hxx i2 i3 i4 hje
      have TJ := TG.out j hj
      have YL := Lib.hid (show (xs.set j (gt xs j ^^^ y)).length = L by rw [List.length_set, HL.out])
      have YB := Lib.hid (set_bytesT PB.out j y hy)
      have oy := own_turnT O3.out j (gt xs j ^^^ y)
      have cy : OC w (w3.setCell ⟨g, j, none⟩ (.int .u8 ((gt xs j ^^^ y : Nat) : Int))) w.heap.size x := by
        have hge : w2.heap.size ≤ g := (O3.out.lt g rfl).1
        have hlt : w.heap.size < w2.heap.size := C2L
        have by_ := C3.out.bel.setCell (p := ⟨g, j, none⟩) (show w.heap.size ≤ g by omega) (.int .u8 ((gt xs j ^^^ y : Nat) : Int))
        exact ⟨C3.out.box.far (p := ⟨g, j, none⟩) (show w.heap.size ≠ g by omega) _, HRV.out.below by_, HU.out.below by_, by_⟩
      obtain ⟨ys, hys⟩ : ∃ ys, xs.set j (gt xs j ^^^ y) = ys := ⟨_, rfl⟩
      rw [hys] at TJ YL YB oy
      refine world_at (fun Y => Y.ownsRow w2.heap.size 5 1 (.slice (some ⟨g, 0, none⟩) L c3) L (u8s ys) ∧ OC w Y w.heap.size x) ⟨oy, cy⟩ ?_
      rintro Y ⟨oy, cY⟩
      have OY := Lib.hid oy; have CY := Lib.hid cY
      have TN := Lib.hid TJ.1; have TY := Lib.hid TJ.2
      clear oy cY cy hys O3 C3 TG PB HL TJ
      go_wp2_with fail
      refine (Get_r ys _ L c3 Y YL.out (Sr.of_own OY.out) YB.out (by have := HX.out; omega) CY.out.ut).mono ?_
      rintro e w4 ⟨b4, hh⟩
      have O4 := Lib.hid (own_below OY.out b4); have C4 := Lib.hid (CY.out.below b4)
      clear OY CY b4
      have Z4 := Lib.hid (Blk.new w4 24 (rv zRv))
      rcases hh with ⟨hno, rfl⟩ | ⟨hyes, q, hq, rfl, rq⟩
      · have hx0 := TN.out hno
        have e1 : ((y : Int) != 0) = true := by rw [bne_iff_ne]; omega
        have bz : Below w4.heap.size w4 ((w4.alloc (.cells (rv zRv).toArray 24)).setRow w4.heap.size (rv zRv).toArray) := below_setRow ((Below.refl _ _).alloc (Nat.le_refl _) _) (Nat.le_refl _) _
        have C5 := Lib.hid (C4.out.below bz)
        have FO2 := Lib.hid (rv_one zRv)
        clear TY TN hno hx0 bz
        go_upto_region 9 with ((with_reducible refine store_blk 24 (.tmp 10) (.tmp 54) w4.heap.size 24 (rv zRv) (rv zRv) rfl rfl ?_ ?_ ?_ ?_ ?_ ?_ ?_); exact Z4.out; exact rfl; exact rv_size zRv; exact FO2.out; exact rfl; exact rfl)
        go_wp2_with fail
        refine (otold_t _ C5.out.ut).mono ?_
        rintro e w9 ⟨rfl, b9⟩
        have C9 := Lib.hid (C5.out.below b9)
        clear b9
        go_wp2_with fail
        go_ret
        exact ⟨rfl, C9.out.bel⟩
      · obtain ⟨t1, t2, t3⟩ := TY.out hyes
        rw [← hq] at t1 t2 t3
        have T1 := Lib.hid t1; have T2 := Lib.hid t2; have T3 := Lib.hid t3
        have bz : Below w4.heap.size w4 ((w4.alloc (.cells (rv zRv).toArray 24)).setRow w4.heap.size (rv q).toArray) := below_setRow ((Below.refl _ _).alloc (Nat.le_refl _) _) (Nat.le_refl _) _
        have C5 := Lib.hid (C4.out.below bz)
        have U5 := Lib.hid (show OU ((w4.alloc (.cells (rv zRv).toArray 24)).setRow w4.heap.size (rv q).toArray) w4.heap.size q from ⟨Z4.out.setRow (rv q), rq.below bz⟩)
        have O5 := Lib.hid (own_below O4.out bz)
        have FO2 := Lib.hid (rv_one q)
        clear t1 t2 t3 TY TN hyes bz rq hq C4 O4
        go_upto_region 9 with ((with_reducible refine store_blk 24 (.tmp 10) (.tmp 54) w4.heap.size 24 (rv zRv) (rv q) rfl rfl ?_ ?_ ?_ ?_ ?_ ?_ ?_); exact Z4.out; exact rfl; exact rv_size q; exact FO2.out; exact rfl; exact rfl)
        refine world_at (fun Y => Y.ownsRow w2.heap.size 5 1 (.slice (some ⟨g, 0, none⟩) L c3) L (u8s ys) ∧ OC w Y w.heap.size x ∧ OU Y w4.heap.size q) ⟨O5.out, C5.out, U5.out⟩ ?_
        rintro V ⟨oV, cV, uV⟩
        obtain ⟨b2, hb2⟩ : ∃ b, w4.heap.size = b := ⟨_, rfl⟩
        rw [hb2] at uV ⊢
        have OV := Lib.hid oV; have CV := Lib.hid cV; have UV := Lib.hid uV; have XV := Lib.hid uV.box
        clear oV cV uV hb2 O5 C5 U5 Z4 FO2
        go_wp2_with ((with_reducible refine load_blk_gdO 68 24 (.tmp 10) b2 24 (rv q) _ ?_ ?_ rfl ?_ Tryd.underlying24 ?_ ?_ ?_ ?_); exact rfl; kernel_rfl; exact XV.out; exact rfl; exact rv_size q; exact rfl)
        refine (PutR_yes q V CV.out.ut UV.out.rx T1.out).mono ?_
        rintro e w5 ⟨u2, rfl, o5, b5⟩
        rw [T2.out] at o5
        rw [YL.out] at o5
        obtain ⟨g5, c5, rfl, _⟩ := own_formT o5 HX.out.2
        have P5 := Lib.hid o5; have C6 := Lib.hid (CV.out.below b5); have U6 := Lib.hid (UV.out.below b5); have O6 := Lib.hid (own_below OV.out b5)
        clear o5 b5 OV CV UV XV
        go_wp2_with fail
        refine (otold_t _ C6.out.ut).mono ?_
        rintro e w6 ⟨rfl, b6⟩
        have P7 := Lib.hid (own_below P5.out b6); have C7 := Lib.hid (C6.out.below b6); have U7 := Lib.hid (U6.out.below b6); have O7 := Lib.hid (own_below O6.out b6)
        clear b6 P5 C6 U6 O6
        go_wp2_with fail
        refine (same_textsT ys ys _ _ L L c3 c5 w6 YL.out YL.out (Sr.of_own O7.out) (Sr.of_own P7.out) YB.out YB.out).mono ?_
        rintro e w7 ⟨rfl, rfl⟩
        rw [show decide (ys = ys) = true from decide_eq_true rfl]
        have X7 := Lib.hid U7.out.box; have G7 := Lib.hid C7.out.box
        clear O7 P7 YB YL
        go_wp2_with (first
          | ((with_reducible refine load_blk_gdO 83 24 (.tmp 3) w.heap.size 24 (rv x) _ ?_ ?_ rfl ?_ Tryd.underlying24 ?_ ?_ ?_ ?_); exact rfl; kernel_rfl; exact G7.out; exact rfl; exact rv_size x; exact rfl)
          | ((with_reducible refine load_blk_gdO 84 24 (.tmp 10) b2 24 (rv q) _ ?_ ?_ rfl ?_ Tryd.underlying24 ?_ ?_ ?_ ?_); exact rfl; kernel_rfl; exact X7.out; exact rfl; exact rv_size q; exact rfl))
        refine (Same_r x q w6 C7.out.rx U7.out.rx).mono ?_
        rintro e w8 ⟨rfl, b8⟩
        rw [T3.out]
        have C8 := Lib.hid (C7.out.below b8)
        have e2 : (((y : Int) == 0) : Bool) = decide (y = 0) := by
          by_cases h : y = 0
          · subst h; rfl
          · rw [decide_eq_false h, beq_eq_false_iff_ne]; omega
        obtain ⟨zb, hzb⟩ : ∃ z, decide (y = 0) = z := ⟨_, rfl⟩
        rw [hzb] at e2 ⊢
        clear b8 hzb C7 U7 X7 G7 T1 T2 T3
        go_wp2_with fail
        go_ret
        exact ⟨by simp, C8.out.bel⟩
end Go.Proofs.YtigbnjgmdgkgjaaDoor
