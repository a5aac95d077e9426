/-
  OperAsks walked.
-/
import Derived.Test.YtigbnjgmdgkgjaaDoorOpBack
import Derived.Test.YtigbnjgmdgkgjaaDoorOrB
import Derived.Test.YtigbnjgmdgkgjaaDoorOrE
namespace Go.Proofs.YtigbnjgmdgkgjaaDoor
open Go Go.RowKit Sh

/-- Two requests at hand, and two that came out of bytes. -/
structure OQ (w0 W : World) (x y : Rv) (b1 b2 : Nat) (p q : Rv) : Prop where
  od : OD w0 W x y
  u1 : OU W b1 p
  u2 : OU W b2 q
theorem OQ.below {w0 W W' : World} {x y p q : Rv} {b1 b2 : Nat} (h : OQ w0 W x y b1 b2 p q) (hb : Below W.heap.size W W') : OQ w0 W' x y b1 b2 p q := ⟨h.od.below hb, h.u1.below hb, h.u2.below hb⟩
def OQS (w : World) (x y : Rv) (b1 b2 : Nat) (p q : Rv) (W : World) : Prop := W.rangeAt w.heap.size 0 (rv x) ∧ W.rangeAt (w.heap.size + 1) 0 (rv y) ∧ W.rangeAt b1 0 (rv p) ∧ W.rangeAt b2 0 (rv q)
theorem OQ.s {w0 W : World} {x y p q : Rv} {b1 b2 : Nat} (h : OQ w0 W x y b1 b2 p q) : OQS w0 x y b1 b2 p q W := ⟨rngO h.od.a, rngO h.od.b, rngO h.u1.box, rngO h.u2.box⟩
set_option maxRecDepth 100000 in
set_option maxHeartbeats 10000000 in
theorem oasks_t (x y : Rv) (l c3 : Nat) (r : Option Addr) (bs : List Nat) (kind : Int) (w : World) (hx : RvW w x) (hy : RvW w y) (hbl : bs.length = l) (hl3 : l ≤ c3) (hs : Sr w r bs) (hb : Bytes bs) (hu : UT w) :
    Calls Tryd.prog 3 #[.agg (rv x).toArray, .agg (rv y).toArray, .slice r l c3, .int .i64 kind] w fun e w' => e = .returned (.bool true) ∧ Below w.heap.size w w' := by
  have C0 := Lib.hid (show OE w ((w.alloc (.cells (rv x).toArray 24)).alloc (.cells (rv y).toArray 24)) x y r bs from
    ⟨OD.new hx hy hu, hs.below (OD.new hx hy hu).bel⟩)
  have FW := Lib.hid (fewR_t x _ C0.out.od.rx)
  have FQ := Lib.hid (fun W (c : OE w W x y r bs) => fewR_t y W c.od.ry)
  obtain ⟨fb, hfb⟩ : ∃ b, fewR x = b := ⟨_, rfl⟩
  obtain ⟨fq, hfq⟩ : ∃ b, fewR y = b := ⟨_, rfl⟩
  rw [hfb] at FW
  rw [hfq] at FQ
  clear hfb hfq hx hy hu hs
  cases fb with
  | false =>
    clear FQ
    go_enter Tryd.func3, Tryd.ntmps3
    have G0 := Lib.hid C0.out.od.a
    go_wp2_with ((with_reducible refine load_blk_gdO 16 24 (.tmp 4) w.heap.size 24 (rv x) _ ?_ ?_ rfl ?_ Tryd.underlying24 ?_ ?_ ?_ ?_); exact rfl; kernel_rfl; exact G0.out; exact rfl; exact rv_size x; exact rfl)
    refine FW.out.mono ?_
    rintro e w1 ⟨rfl, b1⟩
    have C1 := Lib.hid (C0.out.below b1)
    clear b1 C0 G0 FW
    go_wp2_with fail
    refine (otold_t _ C1.out.od.ut).mono ?_
    rintro e w9 ⟨rfl, b9⟩
    have B9 := Lib.hid (C1.out.below b9)
    clear b9
    go_wp2_with fail
    go_ret
    exact ⟨rfl, B9.out.od.bel⟩
  | true =>
  cases fq with
  | false =>
    go_enter Tryd.func3, Tryd.ntmps3
    have G0 := Lib.hid C0.out.od.a
    go_wp2_with ((with_reducible refine load_blk_gdO 16 24 (.tmp 4) w.heap.size 24 (rv x) _ ?_ ?_ rfl ?_ Tryd.underlying24 ?_ ?_ ?_ ?_); exact rfl; kernel_rfl; exact G0.out; exact rfl; exact rv_size x; exact rfl)
    refine FW.out.mono ?_
    rintro e w1 ⟨rfl, b1⟩
    have C1 := Lib.hid (C0.out.below b1)
    clear b1 C0 G0 FW
    have G1 := Lib.hid C1.out.od.b
    go_wp2_with ((with_reducible refine load_blk_gdO 20 24 (.tmp 5) (w.heap.size + 1) 24 (rv y) _ ?_ ?_ rfl ?_ Tryd.underlying24 ?_ ?_ ?_ ?_); exact rfl; kernel_rfl; exact G1.out; exact rfl; exact rv_size y; exact rfl)
    refine (FQ.out _ C1.out).mono ?_
    rintro e w2 ⟨rfl, b2⟩
    have C2 := Lib.hid (C1.out.below b2)
    clear b2 C1 G1 FQ
    go_wp2_with fail
    refine (otold_t _ C2.out.od.ut).mono ?_
    rintro e w9 ⟨rfl, b9⟩
    have B9 := Lib.hid (C2.out.below b9)
    clear b9
    go_wp2_with fail
    go_ret
    exact ⟨rfl, B9.out.od.bel⟩
  | true =>
  by_cases h400 : 400 < l
  · have i3 : (400 : Int) < (l : Int) := by omega
    go_enter Tryd.func3, Tryd.ntmps3
    have G0 := Lib.hid C0.out.od.a
    go_wp2_with ((with_reducible refine load_blk_gdO 16 24 (.tmp 4) w.heap.size 24 (rv x) _ ?_ ?_ rfl ?_ Tryd.underlying24 ?_ ?_ ?_ ?_); exact rfl; kernel_rfl; exact G0.out; exact rfl; exact rv_size x; exact rfl)
    refine FW.out.mono ?_
    rintro e w1 ⟨rfl, b1⟩
    have C1 := Lib.hid (C0.out.below b1)
    clear b1 C0 G0 FW
    have G1 := Lib.hid C1.out.od.b
    go_wp2_with ((with_reducible refine load_blk_gdO 20 24 (.tmp 5) (w.heap.size + 1) 24 (rv y) _ ?_ ?_ rfl ?_ Tryd.underlying24 ?_ ?_ ?_ ?_); exact rfl; kernel_rfl; exact G1.out; exact rfl; exact rv_size y; exact rfl)
    refine (FQ.out _ C1.out).mono ?_
    rintro e w2 ⟨rfl, b2⟩
    have C2 := Lib.hid (C1.out.below b2)
    clear b2 C1 G1 FQ
    go_wp2_with fail
    refine (otold_t _ C2.out.od.ut).mono ?_
    rintro e w9 ⟨rfl, b9⟩
    have B9 := Lib.hid (C2.out.below b9)
    clear b9
    go_wp2_with fail
    go_ret
    exact ⟨rfl, B9.out.od.bel⟩
  · have i3 : (l : Int) ≤ 400 := by omega
    have hl4 : l ≤ 400 := by omega
    have GB := Lib.hid (fun W (c : OE w W x y r bs) => Get_r bs r l c3 W hbl c.sr hb (by omega) c.od.ut)
    have RG := Lib.hid (fun W (c : OE w W x y r bs) => refGet_r bs r l c3 W hbl hl3 c.sr hb (by omega))
    clear h400 hb hbl
    cases hmb : mayR x.r with
    | false =>
      have HM := Lib.hid hmb
      clear hmb
      go_enter Tryd.func3, Tryd.ntmps3
      have G0 := Lib.hid C0.out.od.a
      go_wp2_with ((with_reducible refine load_blk_gdO 16 24 (.tmp 4) w.heap.size 24 (rv x) _ ?_ ?_ rfl ?_ Tryd.underlying24 ?_ ?_ ?_ ?_); exact rfl; kernel_rfl; exact G0.out; exact rfl; exact rv_size x; exact rfl)
      refine FW.out.mono ?_
      rintro e w1 ⟨rfl, b1⟩
      have C1 := Lib.hid (C0.out.below b1)
      clear b1 C0 G0 FW
      have G1 := Lib.hid C1.out.od.b
      go_wp2_with ((with_reducible refine load_blk_gdO 20 24 (.tmp 5) (w.heap.size + 1) 24 (rv y) _ ?_ ?_ rfl ?_ Tryd.underlying24 ?_ ?_ ?_ ?_); exact rfl; kernel_rfl; exact G1.out; exact rfl; exact rv_size y; exact rfl)
      refine (FQ.out _ C1.out).mono ?_
      rintro e w2 ⟨rfl, b2⟩
      have C2 := Lib.hid (C1.out.below b2)
      clear b2 C1 G1 FQ
      have G2 := Lib.hid C2.out.od.a
      go_wp2_with ((with_reducible refine load_blk_gdO 30 24 (.tmp 4) w.heap.size 24 (rv x) _ ?_ ?_ rfl ?_ Tryd.underlying24 ?_ ?_ ?_ ?_); exact rfl; kernel_rfl; exact G2.out; exact rfl; exact rv_size x; exact rfl)
      refine (refMay_r x w2 C2.out.od.rx).mono ?_
      rintro e w3 ⟨rfl, b3⟩
      rw [HM.out]
      have C3 := Lib.hid (C2.out.below b3)
      have G3 := Lib.hid C3.out.od.a
      clear b3 C2 G2 i3
      go_wp2_with ((with_reducible refine load_blk_gdO 33 24 (.tmp 4) w.heap.size 24 (rv x) _ ?_ ?_ rfl ?_ Tryd.underlying24 ?_ ?_ ?_ ?_); exact rfl; kernel_rfl; exact G3.out; exact rfl; exact rv_size x; exact rfl)
      refine (PutR_no x w3 C3.out.od.ut C3.out.od.rx HM.out).mono ?_
      rintro e w4 ⟨rfl, b4⟩
      have C4 := Lib.hid (C3.out.below b4)
      have G4 := Lib.hid C4.out.od.a
      clear b4 C3 G3
      go_wp2_with ((with_reducible refine load_blk_gdO 37 24 (.tmp 4) w.heap.size 24 (rv x) _ ?_ ?_ rfl ?_ Tryd.underlying24 ?_ ?_ ?_ ?_); exact rfl; kernel_rfl; exact G4.out; exact rfl; exact rv_size x; exact rfl)
      refine (May_r x w4 C4.out.od.ut C4.out.od.rx).mono ?_
      rintro e w5 ⟨rfl, b5⟩
      rw [HM.out]
      have C5 := Lib.hid (C4.out.below b5)
      clear b5 C4 G4 HM
      go_wp2_with fail
      refine (GB.out _ C5.out).mono ?_
      rintro e v1 ⟨d1, hh⟩
      rcases hh with ⟨hbad, rfl⟩ | ⟨hgood, p1, hp1, rfl, rp1⟩
      · have D1 := Lib.hid ((C5.out.below d1).below (below_boxed v1 (rv zRv)))
        clear d1 C5
        have Z2 := Lib.hid (Blk.new v1 24 (rv zRv))
        have FO2 := Lib.hid (rv_one zRv)
        go_upto_region 8 with ((with_reducible refine store_blk 24 (.tmp 12) (.tmp 73) v1.heap.size 24 (rv zRv) (rv zRv) rfl rfl ?_ ?_ ?_ ?_ ?_ ?_ ?_); exact Z2.out; exact rfl; exact rv_size zRv; exact FO2.out; exact rfl; exact rfl)
        clear Z2 FO2
        refine world_at (fun Y => OE w Y x y r bs ∧ OU Y v1.heap.size zRv) ⟨D1.out, ⟨(Blk.new v1 24 (rv zRv)).setRow (rv zRv), zRv_w _⟩⟩ ?_
        rintro Y ⟨dY, uY⟩
        obtain ⟨g1, hg1⟩ : ∃ b, v1.heap.size = b := ⟨_, rfl⟩
        rw [hg1] at uY ⊢
        have DY := Lib.hid dY; have UY := Lib.hid uY
        clear dY uY hg1 D1
        go_wp2_with fail
        refine (RG.out _ DY.out).mono ?_
        rintro e v2 ⟨d2, hh⟩
        obtain rfl : e = .returned (.tuple #[.agg (rv zRv).toArray, .int .i64 2]) := by
          rcases hh with ⟨_, h⟩ | ⟨h1, _⟩
          · exact h
          · rw [hbad] at h1; cases h1
        have D2 := Lib.hid ((DY.out.below d2).below (below_boxed v2 (rv zRv))); have V2 := Lib.hid ((UY.out.below d2).below (below_boxed v2 (rv zRv)))
        clear d2 hh hbad DY UY
        have Z2 := Lib.hid (Blk.new v2 24 (rv zRv))
        have FO2 := Lib.hid (rv_one zRv)
        go_upto_region 9 with ((with_reducible refine store_blk 24 (.tmp 14) (.tmp 78) v2.heap.size 24 (rv zRv) (rv zRv) rfl rfl ?_ ?_ ?_ ?_ ?_ ?_ ?_); exact Z2.out; exact rfl; exact rv_size zRv; exact FO2.out; exact rfl; exact rfl)
        clear Z2 FO2
        refine world_at (fun Y => OQ w Y x y g1 v2.heap.size zRv zRv) ⟨D2.out.od, V2.out, ⟨(Blk.new v2 24 (rv zRv)).setRow (rv zRv), zRv_w _⟩⟩ ?_
        rintro Z cq
        obtain ⟨g2, hg2⟩ : ∃ b, v2.heap.size = b := ⟨_, rfl⟩
        rw [hg2] at cq ⊢
        have CQ := Lib.hid cq
        have SYZ := Lib.hid (sameR_refl zRv.r)
        clear cq hg2 D2 V2
        go_upto_region 9 with (fail)
        refine wp_region_held (S := OQS w x y g1 g2 zRv zRv) (by kernel_rfl) ?_
        change wpAnyH _ _ _ _ _ _ _ _ Z.drew
        obtain ⟨U, hU⟩ : ∃ U, (Z).drew = U := ⟨_, rfl⟩
        have C9 := Lib.hid (show OQ w U x y g1 g2 zRv zRv from by rw [← hU]; exact CQ.out.below (Below.refl _ _).drew)
        rw [hU]
        clear hU CQ
        refine wpAnyH_ready (rs := [0]) (by kernel_rfl) (by simp) ?_
        refine AllReadyH.cons rfl (fun K hK => ?_) AllReadyH.nil
        go_simp
        refine (otold_t U C9.out.od.ut).mono ?_
        rintro e va ⟨rfl, ba⟩
        have CA := Lib.hid (C9.out.below ba)
        clear ba C9
        have s1 := CA.out.s
        refine hK.out _ _ s1 (fun _ => ?_)
        clear hK K
        refine wpAnyH_take (i := 1) (v := ?_) rfl (by kernel_rfl) (by kernel_rfl) (by kernel_rfl) (fun _ _ _ h => h) (Or.inl ⟨by kernel_rfl, ?_⟩) s1 ?_
        rotate_left 1
        · (intro w hS; clear hS; go_simp; try (with_reducible rfl))
        refine wpAnyH_take (i := 2) (v := ?_) rfl (by kernel_rfl) (by kernel_rfl) (by kernel_rfl) (fun _ _ _ h => h) (Or.inl ⟨by kernel_rfl, ?_⟩) s1 ?_
        rotate_left 1
        · (intro w hS; clear hS; go_simp; try (with_reducible rfl))
        refine wpAnyH_take (i := 3) (v := ?_) rfl (by kernel_rfl) (by kernel_rfl) (by kernel_rfl) (fun _ _ _ h => h) (Or.inl ⟨by kernel_rfl, ?_⟩) s1 ?_
        rotate_left 1
        · (intro w hS; clear hS; go_simp; try (with_reducible rfl))
        refine wpAnyH_take (i := 4) (v := ?_) rfl (by kernel_rfl) (by kernel_rfl) (by kernel_rfl) (fun _ _ _ h => h) (Or.inl ⟨by kernel_rfl, ?_⟩) s1 ?_
        rotate_left 1
        · (intro w hS; clear hS; go_simp; try (with_reducible rfl))
        refine wpAnyH_take (i := 5) (v := ?_) rfl (by kernel_rfl) (by kernel_rfl) (by kernel_rfl) (fun _ _ _ h => h) (Or.inl ⟨by kernel_rfl, ?_⟩) s1 ?_
        rotate_left 1
        · (intro w hS; clear hS; go_simp; try (with_reducible rfl))
        refine wpAnyH_take (i := 6) (v := ?_) rfl (by kernel_rfl) (by kernel_rfl) (by kernel_rfl) (fun _ _ _ h => h) (Or.inl ⟨by kernel_rfl, ?_⟩) s1 ?_
        rotate_left 1
        · (intro w hS; clear hS; go_simp; try (with_reducible rfl))
        refine wpAnyH_take (i := 7) (v := .agg (rv zRv).toArray) rfl (by kernel_rfl) (by kernel_rfl) (by kernel_rfl) (fun _ _ _ h => h) (yieldsIf_load_mid (by kernel_rfl) 24 (.tmp 12) rfl g1 0 (by go_simp) (rv zRv) _ (fun _ h => h.2.2.1) Tryd.underlying24 rfl (rv_size zRv)) s1 ?_
        refine wpAnyH_take (i := 8) (v := .agg (rv zRv).toArray) rfl (by kernel_rfl) (by kernel_rfl) (by kernel_rfl) (fun _ _ _ h => h) (yieldsIf_load_mid (by kernel_rfl) 24 (.tmp 14) rfl g2 0 (by go_simp) (rv zRv) _ (fun _ h => h.2.2.2) Tryd.underlying24 rfl (rv_size zRv)) s1 ?_
        refine wpAnyH_ready (rs := [9]) (by kernel_rfl) (by simp) ?_
        refine AllReadyH.cons rfl (fun K hK => ?_) AllReadyH.nil
        rw [if_pos (by kernel_rfl)]
        go_simp
        refine (refSame_r zRv zRv va CA.out.u1.rx CA.out.u2.rx).mono ?_
        rintro e vb ⟨rfl, ba⟩
        rw [SYZ.out]
        have CB := Lib.hid (CA.out.below ba)
        clear ba CA
        have s2 := CB.out.s
        refine hK.out _ _ s2 (fun _ => ?_)
        clear hK K s1
        refine wpAnyH_take (i := 10) (v := ?_) rfl (by kernel_rfl) (by kernel_rfl) (by kernel_rfl) (fun _ _ _ h => h) (Or.inl ⟨by kernel_rfl, ?_⟩) s2 ?_
        rotate_left 1
        · (intro w hS; clear hS; go_simp; try (with_reducible rfl))
        refine wpAnyH_take (i := 11) (v := ?_) rfl (by kernel_rfl) (by kernel_rfl) (by kernel_rfl) (fun _ _ _ h => h) (Or.inl ⟨by kernel_rfl, ?_⟩) s2 ?_
        rotate_left 1
        · (intro w hS; clear hS; go_simp; try (with_reducible rfl))
        refine wpAnyH_take (i := 12) (v := .agg (rv x).toArray) rfl (by kernel_rfl) (by kernel_rfl) (by kernel_rfl) (fun _ _ _ h => h) (yieldsIf_load_mid (by kernel_rfl) 24 (.tmp 4) rfl w.heap.size 0 (by go_simp) (rv x) _ (fun _ h => h.1) Tryd.underlying24 rfl (rv_size x)) s2 ?_
        refine wpAnyH_take (i := 13) (v := .agg (rv y).toArray) rfl (by kernel_rfl) (by kernel_rfl) (by kernel_rfl) (fun _ _ _ h => h) (yieldsIf_load_mid (by kernel_rfl) 24 (.tmp 5) rfl (w.heap.size + 1) 0 (by go_simp) (rv y) _ (fun _ h => h.2.1) Tryd.underlying24 rfl (rv_size y)) s2 ?_
        refine wpAnyH_take (i := 15) (v := .agg (rv x).toArray) rfl (by kernel_rfl) (by kernel_rfl) (by kernel_rfl) (fun _ _ _ h => h) (yieldsIf_load_mid (by kernel_rfl) 24 (.tmp 4) rfl w.heap.size 0 (by go_simp) (rv x) _ (fun _ h => h.1) Tryd.underlying24 rfl (rv_size x)) s2 ?_
        refine wpAnyH_take (i := 16) (v := .agg (rv y).toArray) rfl (by kernel_rfl) (by kernel_rfl) (by kernel_rfl) (fun _ _ _ h => h) (yieldsIf_load_mid (by kernel_rfl) 24 (.tmp 5) rfl (w.heap.size + 1) 0 (by go_simp) (rv y) _ (fun _ h => h.2.1) Tryd.underlying24 rfl (rv_size y)) s2 ?_
        refine wpAnyH_ready (rs := [14]) (by kernel_rfl) (by simp) ?_
        refine AllReadyH.cons rfl (fun K hK => ?_) AllReadyH.nil
        rw [if_pos (by kernel_rfl)]
        go_simp
        refine (Same_r x y vb CB.out.od.rx CB.out.od.ry).mono ?_
        rintro e vc ⟨rfl, ba⟩
        have CC := Lib.hid (CB.out.below ba)
        clear ba CB
        have s3 := CC.out.s
        refine hK.out _ _ s3 (fun _ => ?_)
        clear hK K s2
        refine wpAnyH_ready (rs := [17]) (by kernel_rfl) (by simp) ?_
        refine AllReadyH.cons rfl (fun K hK => ?_) AllReadyH.nil
        rw [if_pos (by kernel_rfl)]
        go_simp
        refine (refSame_r x y vc CC.out.od.rx CC.out.od.ry).mono ?_
        rintro e vd ⟨rfl, ba⟩
        have CD := Lib.hid (CC.out.below ba)
        clear ba CC
        have s4 := CD.out.s
        obtain ⟨sb, hsb⟩ : ∃ b, sameR x.r y.r = b := ⟨_, rfl⟩
        rw [hsb]
        have esb : (sb == sb) = true := by simp
        refine hK.out _ _ s4 (fun _ => ?_)
        clear hK K s3 hsb
        refine wpAnyH_take (i := 18) (v := ?_) rfl (by kernel_rfl) (by kernel_rfl) (by kernel_rfl) (fun _ _ _ h => h) (Or.inl ⟨by kernel_rfl, ?_⟩) s4 ?_
        rotate_left 1
        · (intro w hS; clear hS; go_simp; try (with_reducible rfl))
        refine wpAnyH_take (i := 19) (v := ?_) rfl (by kernel_rfl) (by kernel_rfl) (by kernel_rfl) (fun _ _ _ h => h) (Or.inl ⟨by kernel_rfl, ?_⟩) s4 ?_
        rotate_left 1
        · (intro w hS; clear hS; go_simp; try (with_reducible rfl))
        refine wpAnyH_take (i := 20) (v := ?_) rfl (by kernel_rfl) (by kernel_rfl) (by kernel_rfl) (fun _ _ _ h => h) (Or.inl ⟨by kernel_rfl, ?_⟩) s4 ?_
        rotate_left 1
        · (intro w hS; clear hS; go_simp; try (with_reducible rfl))
        refine wpAnyH_take (i := 21) (v := .agg (rv x).toArray) rfl (by kernel_rfl) (by kernel_rfl) (by kernel_rfl) (fun _ _ _ h => h) (yieldsIf_load_mid (by kernel_rfl) 24 (.tmp 4) rfl w.heap.size 0 (by go_simp) (rv x) _ (fun _ h => h.1) Tryd.underlying24 rfl (rv_size x)) s4 ?_
        refine wpAnyH_take (i := 22) (v := .agg (rv x).toArray) rfl (by kernel_rfl) (by kernel_rfl) (by kernel_rfl) (fun _ _ _ h => h) (yieldsIf_load_mid (by kernel_rfl) 24 (.tmp 4) rfl w.heap.size 0 (by go_simp) (rv x) _ (fun _ h => h.1) Tryd.underlying24 rfl (rv_size x)) s4 ?_
        refine wpAnyH_ready (rs := [23]) (by kernel_rfl) (by simp) ?_
        refine AllReadyH.cons rfl (fun K hK => ?_) AllReadyH.nil
        rw [if_pos (by kernel_rfl)]
        go_simp
        refine (Same_r x x vd CD.out.od.rx CD.out.od.rx).mono ?_
        rintro e ve ⟨rfl, ba⟩
        rw [sameR_refl]
        have CE := Lib.hid (CD.out.below ba)
        clear ba CD
        have s5 := CE.out.s
        refine hK.out _ _ s5 (fun _ => ?_)
        clear hK K s4
        refine wpAnyH_take (i := 24) (v := ?_) rfl (by kernel_rfl) (by kernel_rfl) (by kernel_rfl) (fun _ _ _ h => h) (Or.inl ⟨by kernel_rfl, ?_⟩) s5 ?_
        rotate_left 1
        · (intro w hS; clear hS; go_simp; try (with_reducible rfl))
        refine wpAnyH_take (i := 25) (v := ?_) rfl (by kernel_rfl) (by kernel_rfl) (by kernel_rfl) (fun _ _ _ h => h) (Or.inl ⟨by kernel_rfl, ?_⟩) s5 ?_
        rotate_left 1
        · (intro w hS; clear hS; go_simp; try (with_reducible rfl))
        refine wpAnyH_take (i := 26) (v := ?_) rfl (by kernel_rfl) (by kernel_rfl) (by kernel_rfl) (fun _ _ _ h => h) (Or.inl ⟨by kernel_rfl, ?_⟩) s5 ?_
        rotate_left 1
        · (intro w hS; clear hS; go_simp; try (with_reducible rfl))
        refine wpAnyH_take (i := 28) (v := ?_) rfl (by kernel_rfl) (by kernel_rfl) (by kernel_rfl) (fun _ _ _ h => h) (Or.inl ⟨by kernel_rfl, ?_⟩) s5 ?_
        rotate_left 1
        · (intro w hS; clear hS; go_simp; try (with_reducible rfl))
        refine wpAnyH_ready (rs := [27]) (by kernel_rfl) (by simp) ?_
        refine AllReadyH.cons rfl (fun K hK => ?_) AllReadyH.nil
        rw [if_pos (by kernel_rfl)]
        go_simp
        refine (Reads_t kind ve CE.out.od.ut).mono ?_
        rintro e vf ⟨rfl, rfl⟩
        refine hK.out _ _ s5 (fun _ => ?_)
        clear hK K
        refine wpAnyH_ready (rs := [29]) (by kernel_rfl) (by simp) ?_
        refine AllReadyH.cons rfl (fun K hK => ?_) AllReadyH.nil
        rw [if_pos (by kernel_rfl)]
        go_simp
        refine (refReads_t kind ve).mono ?_
        rintro e vf ⟨rfl, rfl⟩
        obtain ⟨rb, hrb⟩ : ∃ b, rdK kind = b := ⟨_, rfl⟩
        rw [hrb]
        have erb : (rb == rb) = true := by simp
        refine hK.out _ _ s5 (fun _ => ?_)
        clear hK K hrb
        refine wpAnyH_take (i := 30) (v := ?_) rfl (by kernel_rfl) (by kernel_rfl) (by kernel_rfl) (fun _ _ _ h => h) (Or.inl ⟨by kernel_rfl, ?_⟩) s5 ?_
        rotate_left 1
        · (intro w hS; clear hS; go_simp; try (with_reducible rfl))
        refine wpAnyH_take (i := 31) (v := ?_) rfl (by kernel_rfl) (by kernel_rfl) (by kernel_rfl) (fun _ _ _ h => h) (Or.inl ⟨by kernel_rfl, ?_⟩) s5 ?_
        rotate_left 1
        · (intro w hS; clear hS; go_simp; try (with_reducible rfl))
        refine wpAnyH_take (i := 32) (v := ?_) rfl (by kernel_rfl) (by kernel_rfl) (by kernel_rfl) (fun _ _ _ h => h) (Or.inl ⟨by kernel_rfl, ?_⟩) s5 ?_
        rotate_left 1
        · (intro w hS; clear hS; go_simp; try (with_reducible rfl))
        refine wpAnyH_take (i := 33) (v := ?_) rfl (by kernel_rfl) (by kernel_rfl) (by kernel_rfl) (fun _ _ _ h => h) (Or.inl ⟨by kernel_rfl, ?_⟩) s5 ?_
        rotate_left 1
        · (intro w hS; clear hS; go_simp; try (with_reducible rfl))
        refine wpAnyH_take (i := 35) (v := ?_) rfl (by kernel_rfl) (by kernel_rfl) (by kernel_rfl) (fun _ _ _ h => h) (Or.inl ⟨by kernel_rfl, ?_⟩) s5 ?_
        rotate_left 1
        · (intro w hS; clear hS; go_simp; try (with_reducible rfl))
        refine wpAnyH_ready (rs := [34]) (by kernel_rfl) (by simp) ?_
        refine AllReadyH.cons rfl (fun K hK => ?_) AllReadyH.nil
        rw [if_pos (by kernel_rfl)]
        go_simp
        refine (Writes_t kind ve CE.out.od.ut).mono ?_
        rintro e vf ⟨rfl, rfl⟩
        refine hK.out _ _ s5 (fun _ => ?_)
        clear hK K
        refine wpAnyH_ready (rs := [36]) (by kernel_rfl) (by simp) ?_
        refine AllReadyH.cons rfl (fun K hK => ?_) AllReadyH.nil
        rw [if_pos (by kernel_rfl)]
        go_simp
        refine (refWrites_t kind ve).mono ?_
        rintro e vf ⟨rfl, rfl⟩
        obtain ⟨wb, hwb⟩ : ∃ b, wrK kind = b := ⟨_, rfl⟩
        rw [hwb]
        have ewb : (wb == wb) = true := by simp
        refine hK.out _ _ s5 (fun _ => ?_)
        clear hK K hwb
        refine wpAnyH_take (i := 37) (v := ?_) rfl (by kernel_rfl) (by kernel_rfl) (by kernel_rfl) (fun _ _ _ h => h) (Or.inl ⟨by kernel_rfl, ?_⟩) s5 ?_
        rotate_left 1
        · (intro w hS; clear hS; go_simp; try (with_reducible rfl))
        refine wpAnyH_take (i := 38) (v := ?_) rfl (by kernel_rfl) (by kernel_rfl) (by kernel_rfl) (fun _ _ _ h => h) (Or.inl ⟨by kernel_rfl, ?_⟩) s5 ?_
        rotate_left 1
        · (intro w hS; clear hS; go_simp; try (with_reducible rfl))
        refine wpAnyH_take (i := 39) (v := ?_) rfl (by kernel_rfl) (by kernel_rfl) (by kernel_rfl) (fun _ _ _ h => h) (Or.inl ⟨by kernel_rfl, ?_⟩) s5 ?_
        rotate_left 1
        · (intro w hS; clear hS; go_simp; try (with_reducible rfl))
        refine wpAnyH_done (by kernel_rfl) ?_ _
        go_simp
        go_wp2_with fail
        go_ret
        exact ⟨by simp, CE.out.od.bel⟩
      · have D1 := Lib.hid ((C5.out.below d1).below (below_boxed v1 (rv p1)))
        have U1 := Lib.hid (show OU ((v1.alloc (.cells (rv zRv).toArray 24)).setRow v1.heap.size (rv p1).toArray) v1.heap.size p1 from ⟨(Blk.new v1 24 (rv zRv)).setRow (rv p1), rp1.below (below_boxed v1 (rv p1))⟩)
        clear d1 rp1 C5
        have Z2 := Lib.hid (Blk.new v1 24 (rv zRv))
        have FO2 := Lib.hid (rv_one p1)
        go_upto_region 8 with ((with_reducible refine store_blk 24 (.tmp 12) (.tmp 73) v1.heap.size 24 (rv zRv) (rv p1) rfl rfl ?_ ?_ ?_ ?_ ?_ ?_ ?_); exact Z2.out; exact rfl; exact rv_size p1; exact FO2.out; exact rfl; exact rfl)
        clear Z2 FO2
        refine world_at (fun Y => OE w Y x y r bs ∧ OU Y v1.heap.size p1) ⟨D1.out, U1.out⟩ ?_
        rintro Y ⟨dY, uY⟩
        obtain ⟨g1, hg1⟩ : ∃ b, v1.heap.size = b := ⟨_, rfl⟩
        rw [hg1] at uY ⊢
        have DY := Lib.hid dY; have UY := Lib.hid uY
        clear dY uY hg1 D1 U1
        go_wp2_with fail
        refine (RG.out _ DY.out).mono ?_
        rintro e v2 ⟨d2, hh⟩
        rcases hh with ⟨h1, _⟩ | ⟨_, p2, hp2, rfl, rp2⟩
        · rw [hgood] at h1; cases h1
        have D2 := Lib.hid ((DY.out.below d2).below (below_boxed v2 (rv p2))); have V2 := Lib.hid ((UY.out.below d2).below (below_boxed v2 (rv p2)))
        have U2 := Lib.hid (show OU ((v2.alloc (.cells (rv zRv).toArray 24)).setRow v2.heap.size (rv p2).toArray) v2.heap.size p2 from ⟨(Blk.new v2 24 (rv zRv)).setRow (rv p2), rp2.below (below_boxed v2 (rv p2))⟩)
        have SYZ := Lib.hid (show sameR p1.r p2.r = true by rw [hp1, hp2]; exact sameR_refl _)
        clear d2 rp2 hgood hp1 hp2 DY UY
        have Z2 := Lib.hid (Blk.new v2 24 (rv zRv))
        have FO2 := Lib.hid (rv_one p2)
        go_upto_region 9 with ((with_reducible refine store_blk 24 (.tmp 14) (.tmp 78) v2.heap.size 24 (rv zRv) (rv p2) rfl rfl ?_ ?_ ?_ ?_ ?_ ?_ ?_); exact Z2.out; exact rfl; exact rv_size p2; exact FO2.out; exact rfl; exact rfl)
        clear Z2 FO2
        refine world_at (fun Y => OQ w Y x y g1 v2.heap.size p1 p2) ⟨D2.out.od, V2.out, U2.out⟩ ?_
        rintro Z cq
        obtain ⟨g2, hg2⟩ : ∃ b, v2.heap.size = b := ⟨_, rfl⟩
        rw [hg2] at cq ⊢
        have CQ := Lib.hid cq
        clear cq hg2 D2 V2 U2
        go_upto_region 9 with (fail)
        refine wp_region_held (S := OQS w x y g1 g2 p1 p2) (by kernel_rfl) ?_
        change wpAnyH _ _ _ _ _ _ _ _ Z.drew
        obtain ⟨U, hU⟩ : ∃ U, (Z).drew = U := ⟨_, rfl⟩
        have C9 := Lib.hid (show OQ w U x y g1 g2 p1 p2 from by rw [← hU]; exact CQ.out.below (Below.refl _ _).drew)
        rw [hU]
        clear hU CQ
        refine wpAnyH_ready (rs := [0]) (by kernel_rfl) (by simp) ?_
        refine AllReadyH.cons rfl (fun K hK => ?_) AllReadyH.nil
        go_simp
        refine (otold_t U C9.out.od.ut).mono ?_
        rintro e va ⟨rfl, ba⟩
        have CA := Lib.hid (C9.out.below ba)
        clear ba C9
        have s1 := CA.out.s
        refine hK.out _ _ s1 (fun _ => ?_)
        clear hK K
        refine wpAnyH_take (i := 1) (v := ?_) rfl (by kernel_rfl) (by kernel_rfl) (by kernel_rfl) (fun _ _ _ h => h) (Or.inl ⟨by kernel_rfl, ?_⟩) s1 ?_
        rotate_left 1
        · (intro w hS; clear hS; go_simp; try (with_reducible rfl))
        refine wpAnyH_take (i := 2) (v := ?_) rfl (by kernel_rfl) (by kernel_rfl) (by kernel_rfl) (fun _ _ _ h => h) (Or.inl ⟨by kernel_rfl, ?_⟩) s1 ?_
        rotate_left 1
        · (intro w hS; clear hS; go_simp; try (with_reducible rfl))
        refine wpAnyH_take (i := 3) (v := ?_) rfl (by kernel_rfl) (by kernel_rfl) (by kernel_rfl) (fun _ _ _ h => h) (Or.inl ⟨by kernel_rfl, ?_⟩) s1 ?_
        rotate_left 1
        · (intro w hS; clear hS; go_simp; try (with_reducible rfl))
        refine wpAnyH_take (i := 4) (v := ?_) rfl (by kernel_rfl) (by kernel_rfl) (by kernel_rfl) (fun _ _ _ h => h) (Or.inl ⟨by kernel_rfl, ?_⟩) s1 ?_
        rotate_left 1
        · (intro w hS; clear hS; go_simp; try (with_reducible rfl))
        refine wpAnyH_take (i := 5) (v := ?_) rfl (by kernel_rfl) (by kernel_rfl) (by kernel_rfl) (fun _ _ _ h => h) (Or.inl ⟨by kernel_rfl, ?_⟩) s1 ?_
        rotate_left 1
        · (intro w hS; clear hS; go_simp; try (with_reducible rfl))
        refine wpAnyH_take (i := 6) (v := ?_) rfl (by kernel_rfl) (by kernel_rfl) (by kernel_rfl) (fun _ _ _ h => h) (Or.inl ⟨by kernel_rfl, ?_⟩) s1 ?_
        rotate_left 1
        · (intro w hS; clear hS; go_simp; try (with_reducible rfl))
        refine wpAnyH_take (i := 7) (v := .agg (rv p1).toArray) rfl (by kernel_rfl) (by kernel_rfl) (by kernel_rfl) (fun _ _ _ h => h) (yieldsIf_load_mid (by kernel_rfl) 24 (.tmp 12) rfl g1 0 (by go_simp) (rv p1) _ (fun _ h => h.2.2.1) Tryd.underlying24 rfl (rv_size p1)) s1 ?_
        refine wpAnyH_take (i := 8) (v := .agg (rv p2).toArray) rfl (by kernel_rfl) (by kernel_rfl) (by kernel_rfl) (fun _ _ _ h => h) (yieldsIf_load_mid (by kernel_rfl) 24 (.tmp 14) rfl g2 0 (by go_simp) (rv p2) _ (fun _ h => h.2.2.2) Tryd.underlying24 rfl (rv_size p2)) s1 ?_
        refine wpAnyH_ready (rs := [9]) (by kernel_rfl) (by simp) ?_
        refine AllReadyH.cons rfl (fun K hK => ?_) AllReadyH.nil
        rw [if_pos (by kernel_rfl)]
        go_simp
        refine (refSame_r p1 p2 va CA.out.u1.rx CA.out.u2.rx).mono ?_
        rintro e vb ⟨rfl, ba⟩
        rw [SYZ.out]
        have CB := Lib.hid (CA.out.below ba)
        clear ba CA
        have s2 := CB.out.s
        refine hK.out _ _ s2 (fun _ => ?_)
        clear hK K s1
        refine wpAnyH_take (i := 10) (v := ?_) rfl (by kernel_rfl) (by kernel_rfl) (by kernel_rfl) (fun _ _ _ h => h) (Or.inl ⟨by kernel_rfl, ?_⟩) s2 ?_
        rotate_left 1
        · (intro w hS; clear hS; go_simp; try (with_reducible rfl))
        refine wpAnyH_take (i := 11) (v := ?_) rfl (by kernel_rfl) (by kernel_rfl) (by kernel_rfl) (fun _ _ _ h => h) (Or.inl ⟨by kernel_rfl, ?_⟩) s2 ?_
        rotate_left 1
        · (intro w hS; clear hS; go_simp; try (with_reducible rfl))
        refine wpAnyH_take (i := 12) (v := .agg (rv x).toArray) rfl (by kernel_rfl) (by kernel_rfl) (by kernel_rfl) (fun _ _ _ h => h) (yieldsIf_load_mid (by kernel_rfl) 24 (.tmp 4) rfl w.heap.size 0 (by go_simp) (rv x) _ (fun _ h => h.1) Tryd.underlying24 rfl (rv_size x)) s2 ?_
        refine wpAnyH_take (i := 13) (v := .agg (rv y).toArray) rfl (by kernel_rfl) (by kernel_rfl) (by kernel_rfl) (fun _ _ _ h => h) (yieldsIf_load_mid (by kernel_rfl) 24 (.tmp 5) rfl (w.heap.size + 1) 0 (by go_simp) (rv y) _ (fun _ h => h.2.1) Tryd.underlying24 rfl (rv_size y)) s2 ?_
        refine wpAnyH_take (i := 15) (v := .agg (rv x).toArray) rfl (by kernel_rfl) (by kernel_rfl) (by kernel_rfl) (fun _ _ _ h => h) (yieldsIf_load_mid (by kernel_rfl) 24 (.tmp 4) rfl w.heap.size 0 (by go_simp) (rv x) _ (fun _ h => h.1) Tryd.underlying24 rfl (rv_size x)) s2 ?_
        refine wpAnyH_take (i := 16) (v := .agg (rv y).toArray) rfl (by kernel_rfl) (by kernel_rfl) (by kernel_rfl) (fun _ _ _ h => h) (yieldsIf_load_mid (by kernel_rfl) 24 (.tmp 5) rfl (w.heap.size + 1) 0 (by go_simp) (rv y) _ (fun _ h => h.2.1) Tryd.underlying24 rfl (rv_size y)) s2 ?_
        refine wpAnyH_ready (rs := [14]) (by kernel_rfl) (by simp) ?_
        refine AllReadyH.cons rfl (fun K hK => ?_) AllReadyH.nil
        rw [if_pos (by kernel_rfl)]
        go_simp
        refine (Same_r x y vb CB.out.od.rx CB.out.od.ry).mono ?_
        rintro e vc ⟨rfl, ba⟩
        have CC := Lib.hid (CB.out.below ba)
        clear ba CB
        have s3 := CC.out.s
        refine hK.out _ _ s3 (fun _ => ?_)
        clear hK K s2
        refine wpAnyH_ready (rs := [17]) (by kernel_rfl) (by simp) ?_
        refine AllReadyH.cons rfl (fun K hK => ?_) AllReadyH.nil
        rw [if_pos (by kernel_rfl)]
        go_simp
        refine (refSame_r x y vc CC.out.od.rx CC.out.od.ry).mono ?_
        rintro e vd ⟨rfl, ba⟩
        have CD := Lib.hid (CC.out.below ba)
        clear ba CC
        have s4 := CD.out.s
        obtain ⟨sb, hsb⟩ : ∃ b, sameR x.r y.r = b := ⟨_, rfl⟩
        rw [hsb]
        have esb : (sb == sb) = true := by simp
        refine hK.out _ _ s4 (fun _ => ?_)
        clear hK K s3 hsb
        refine wpAnyH_take (i := 18) (v := ?_) rfl (by kernel_rfl) (by kernel_rfl) (by kernel_rfl) (fun _ _ _ h => h) (Or.inl ⟨by kernel_rfl, ?_⟩) s4 ?_
        rotate_left 1
        · (intro w hS; clear hS; go_simp; try (with_reducible rfl))
        refine wpAnyH_take (i := 19) (v := ?_) rfl (by kernel_rfl) (by kernel_rfl) (by kernel_rfl) (fun _ _ _ h => h) (Or.inl ⟨by kernel_rfl, ?_⟩) s4 ?_
        rotate_left 1
        · (intro w hS; clear hS; go_simp; try (with_reducible rfl))
        refine wpAnyH_take (i := 20) (v := ?_) rfl (by kernel_rfl) (by kernel_rfl) (by kernel_rfl) (fun _ _ _ h => h) (Or.inl ⟨by kernel_rfl, ?_⟩) s4 ?_
        rotate_left 1
        · (intro w hS; clear hS; go_simp; try (with_reducible rfl))
        refine wpAnyH_take (i := 21) (v := .agg (rv x).toArray) rfl (by kernel_rfl) (by kernel_rfl) (by kernel_rfl) (fun _ _ _ h => h) (yieldsIf_load_mid (by kernel_rfl) 24 (.tmp 4) rfl w.heap.size 0 (by go_simp) (rv x) _ (fun _ h => h.1) Tryd.underlying24 rfl (rv_size x)) s4 ?_
        refine wpAnyH_take (i := 22) (v := .agg (rv x).toArray) rfl (by kernel_rfl) (by kernel_rfl) (by kernel_rfl) (fun _ _ _ h => h) (yieldsIf_load_mid (by kernel_rfl) 24 (.tmp 4) rfl w.heap.size 0 (by go_simp) (rv x) _ (fun _ h => h.1) Tryd.underlying24 rfl (rv_size x)) s4 ?_
        refine wpAnyH_ready (rs := [23]) (by kernel_rfl) (by simp) ?_
        refine AllReadyH.cons rfl (fun K hK => ?_) AllReadyH.nil
        rw [if_pos (by kernel_rfl)]
        go_simp
        refine (Same_r x x vd CD.out.od.rx CD.out.od.rx).mono ?_
        rintro e ve ⟨rfl, ba⟩
        rw [sameR_refl]
        have CE := Lib.hid (CD.out.below ba)
        clear ba CD
        have s5 := CE.out.s
        refine hK.out _ _ s5 (fun _ => ?_)
        clear hK K s4
        refine wpAnyH_take (i := 24) (v := ?_) rfl (by kernel_rfl) (by kernel_rfl) (by kernel_rfl) (fun _ _ _ h => h) (Or.inl ⟨by kernel_rfl, ?_⟩) s5 ?_
        rotate_left 1
        · (intro w hS; clear hS; go_simp; try (with_reducible rfl))
        refine wpAnyH_take (i := 25) (v := ?_) rfl (by kernel_rfl) (by kernel_rfl) (by kernel_rfl) (fun _ _ _ h => h) (Or.inl ⟨by kernel_rfl, ?_⟩) s5 ?_
        rotate_left 1
        · (intro w hS; clear hS; go_simp; try (with_reducible rfl))
        refine wpAnyH_take (i := 26) (v := ?_) rfl (by kernel_rfl) (by kernel_rfl) (by kernel_rfl) (fun _ _ _ h => h) (Or.inl ⟨by kernel_rfl, ?_⟩) s5 ?_
        rotate_left 1
        · (intro w hS; clear hS; go_simp; try (with_reducible rfl))
        refine wpAnyH_take (i := 28) (v := ?_) rfl (by kernel_rfl) (by kernel_rfl) (by kernel_rfl) (fun _ _ _ h => h) (Or.inl ⟨by kernel_rfl, ?_⟩) s5 ?_
        rotate_left 1
        · (intro w hS; clear hS; go_simp; try (with_reducible rfl))
        refine wpAnyH_ready (rs := [27]) (by kernel_rfl) (by simp) ?_
        refine AllReadyH.cons rfl (fun K hK => ?_) AllReadyH.nil
        rw [if_pos (by kernel_rfl)]
        go_simp
        refine (Reads_t kind ve CE.out.od.ut).mono ?_
        rintro e vf ⟨rfl, rfl⟩
        refine hK.out _ _ s5 (fun _ => ?_)
        clear hK K
        refine wpAnyH_ready (rs := [29]) (by kernel_rfl) (by simp) ?_
        refine AllReadyH.cons rfl (fun K hK => ?_) AllReadyH.nil
        rw [if_pos (by kernel_rfl)]
        go_simp
        refine (refReads_t kind ve).mono ?_
        rintro e vf ⟨rfl, rfl⟩
        obtain ⟨rb, hrb⟩ : ∃ b, rdK kind = b := ⟨_, rfl⟩
        rw [hrb]
        have erb : (rb == rb) = true := by simp
        refine hK.out _ _ s5 (fun _ => ?_)
        clear hK K hrb
        refine wpAnyH_take (i := 30) (v := ?_) rfl (by kernel_rfl) (by kernel_rfl) (by kernel_rfl) (fun _ _ _ h => h) (Or.inl ⟨by kernel_rfl, ?_⟩) s5 ?_
        rotate_left 1
        · (intro w hS; clear hS; go_simp; try (with_reducible rfl))
        refine wpAnyH_take (i := 31) (v := ?_) rfl (by kernel_rfl) (by kernel_rfl) (by kernel_rfl) (fun _ _ _ h => h) (Or.inl ⟨by kernel_rfl, ?_⟩) s5 ?_
        rotate_left 1
        · (intro w hS; clear hS; go_simp; try (with_reducible rfl))
        refine wpAnyH_take (i := 32) (v := ?_) rfl (by kernel_rfl) (by kernel_rfl) (by kernel_rfl) (fun _ _ _ h => h) (Or.inl ⟨by kernel_rfl, ?_⟩) s5 ?_
        rotate_left 1
        · (intro w hS; clear hS; go_simp; try (with_reducible rfl))
        refine wpAnyH_take (i := 33) (v := ?_) rfl (by kernel_rfl) (by kernel_rfl) (by kernel_rfl) (fun _ _ _ h => h) (Or.inl ⟨by kernel_rfl, ?_⟩) s5 ?_
        rotate_left 1
        · (intro w hS; clear hS; go_simp; try (with_reducible rfl))
        refine wpAnyH_take (i := 35) (v := ?_) rfl (by kernel_rfl) (by kernel_rfl) (by kernel_rfl) (fun _ _ _ h => h) (Or.inl ⟨by kernel_rfl, ?_⟩) s5 ?_
        rotate_left 1
        · (intro w hS; clear hS; go_simp; try (with_reducible rfl))
        refine wpAnyH_ready (rs := [34]) (by kernel_rfl) (by simp) ?_
        refine AllReadyH.cons rfl (fun K hK => ?_) AllReadyH.nil
        rw [if_pos (by kernel_rfl)]
        go_simp
        refine (Writes_t kind ve CE.out.od.ut).mono ?_
        rintro e vf ⟨rfl, rfl⟩
        refine hK.out _ _ s5 (fun _ => ?_)
        clear hK K
        refine wpAnyH_ready (rs := [36]) (by kernel_rfl) (by simp) ?_
        refine AllReadyH.cons rfl (fun K hK => ?_) AllReadyH.nil
        rw [if_pos (by kernel_rfl)]
        go_simp
        refine (refWrites_t kind ve).mono ?_
        rintro e vf ⟨rfl, rfl⟩
        obtain ⟨wb, hwb⟩ : ∃ b, wrK kind = b := ⟨_, rfl⟩
        rw [hwb]
        have ewb : (wb == wb) = true := by simp
        refine hK.out _ _ s5 (fun _ => ?_)
        clear hK K hwb
        refine wpAnyH_take (i := 37) (v := ?_) rfl (by kernel_rfl) (by kernel_rfl) (by kernel_rfl) (fun _ _ _ h => h) (Or.inl ⟨by kernel_rfl, ?_⟩) s5 ?_
        rotate_left 1
        · (intro w hS; clear hS; go_simp; try (with_reducible rfl))
        refine wpAnyH_take (i := 38) (v := ?_) rfl (by kernel_rfl) (by kernel_rfl) (by kernel_rfl) (fun _ _ _ h => h) (Or.inl ⟨by kernel_rfl, ?_⟩) s5 ?_
        rotate_left 1
        · (intro w hS; clear hS; go_simp; try (with_reducible rfl))
        refine wpAnyH_take (i := 39) (v := ?_) rfl (by kernel_rfl) (by kernel_rfl) (by kernel_rfl) (fun _ _ _ h => h) (Or.inl ⟨by kernel_rfl, ?_⟩) s5 ?_
        rotate_left 1
        · (intro w hS; clear hS; go_simp; try (with_reducible rfl))
        refine wpAnyH_done (by kernel_rfl) ?_ _
        go_simp
        go_wp2_with fail
        go_ret
        exact ⟨by simp, CE.out.od.bel⟩
    | true =>
      have HM := Lib.hid hmb
      have PB := Lib.hid (putR_bytes x.r)
      have PY := Lib.hid (fun W (c : OE w W x y r bs) => PutR_yes x W c.od.ut c.od.rx hmb)
      have PR := Lib.hid (fun W (c : OE w W x y r bs) => refPut_r x W c.od.rx hmb)
      obtain ⟨ps, hps⟩ : ∃ xs, putR x.r = xs := ⟨_, rfl⟩
      rw [hps] at PB
      simp only [hps] at PY PR
      clear hps hmb
      go_enter Tryd.func3, Tryd.ntmps3
      have G0 := Lib.hid C0.out.od.a
      go_wp2_with ((with_reducible refine load_blk_gdO 16 24 (.tmp 4) w.heap.size 24 (rv x) _ ?_ ?_ rfl ?_ Tryd.underlying24 ?_ ?_ ?_ ?_); exact rfl; kernel_rfl; exact G0.out; exact rfl; exact rv_size x; exact rfl)
      refine FW.out.mono ?_
      rintro e w1 ⟨rfl, b1⟩
      have C1 := Lib.hid (C0.out.below b1)
      clear b1 C0 G0 FW
      have G1 := Lib.hid C1.out.od.b
      go_wp2_with ((with_reducible refine load_blk_gdO 20 24 (.tmp 5) (w.heap.size + 1) 24 (rv y) _ ?_ ?_ rfl ?_ Tryd.underlying24 ?_ ?_ ?_ ?_); exact rfl; kernel_rfl; exact G1.out; exact rfl; exact rv_size y; exact rfl)
      refine (FQ.out _ C1.out).mono ?_
      rintro e w2 ⟨rfl, b2⟩
      have C2 := Lib.hid (C1.out.below b2)
      clear b2 C1 G1 FQ
      have G2 := Lib.hid C2.out.od.a
      go_wp2_with ((with_reducible refine load_blk_gdO 30 24 (.tmp 4) w.heap.size 24 (rv x) _ ?_ ?_ rfl ?_ Tryd.underlying24 ?_ ?_ ?_ ?_); exact rfl; kernel_rfl; exact G2.out; exact rfl; exact rv_size x; exact rfl)
      refine (refMay_r x w2 C2.out.od.rx).mono ?_
      rintro e w3 ⟨rfl, b3⟩
      rw [HM.out]
      have C3 := Lib.hid (C2.out.below b3)
      have G3 := Lib.hid C3.out.od.a
      clear b3 C2 G2 i3
      go_wp2_with ((with_reducible refine load_blk_gdO 33 24 (.tmp 4) w.heap.size 24 (rv x) _ ?_ ?_ rfl ?_ Tryd.underlying24 ?_ ?_ ?_ ?_); exact rfl; kernel_rfl; exact G3.out; exact rfl; exact rv_size x; exact rfl)
      refine (PY.out w3 C3.out).mono ?_
      rintro e w4 ⟨u, rfl, o4, b4⟩
      obtain ⟨A4, k4, rfl, _⟩ := own_form o4
      have C4 := Lib.hid (C3.out.below b4); have S4 := Lib.hid (Sr.of_own o4)
      have G4 := Lib.hid C4.out.od.a
      clear o4 b4 C3 G3 PY
      go_wp2_with ((with_reducible refine load_blk_gdO 37 24 (.tmp 4) w.heap.size 24 (rv x) _ ?_ ?_ rfl ?_ Tryd.underlying24 ?_ ?_ ?_ ?_); exact rfl; kernel_rfl; exact G4.out; exact rfl; exact rv_size x; exact rfl)
      refine (May_r x w4 C4.out.od.ut C4.out.od.rx).mono ?_
      rintro e w5 ⟨rfl, b5⟩
      rw [HM.out]
      have C5 := Lib.hid (C4.out.below b5); have S5 := Lib.hid (S4.out.below b5)
      have G5 := Lib.hid C5.out.od.a
      clear b5 C4 S4 G4 HM
      go_wp2_with ((with_reducible refine load_blk_gdO 64 24 (.tmp 4) w.heap.size 24 (rv x) _ ?_ ?_ rfl ?_ Tryd.underlying24 ?_ ?_ ?_ ?_); exact rfl; kernel_rfl; exact G5.out; exact rfl; exact rv_size x; exact rfl)
      refine (PR.out w5 C5.out).mono ?_
      rintro e w6 ⟨u, rfl, fr⟩
      obtain ⟨A6, k6, rfl, _, s6, b6⟩ := fresh_opO fr
      have C6 := Lib.hid (C5.out.below b6); have S6 := Lib.hid (S5.out.below b6); have T6 := Lib.hid s6
      clear fr s6 b6 C5 S5 G5 PR
      go_wp2_with fail
      refine (same_textsT ps ps _ _ _ _ k4 k6 w6 rfl rfl S6.out T6.out PB.out PB.out).mono ?_
      rintro e w7 ⟨rfl, rfl⟩
      rw [show decide (ps = ps) = true from decide_eq_true rfl]
      clear S6 T6 PB
      go_wp2_with fail
      refine (GB.out _ C6.out).mono ?_
      rintro e v1 ⟨d1, hh⟩
      rcases hh with ⟨hbad, rfl⟩ | ⟨hgood, p1, hp1, rfl, rp1⟩
      · have D1 := Lib.hid ((C6.out.below d1).below (below_boxed v1 (rv zRv)))
        clear d1 C6
        have Z2 := Lib.hid (Blk.new v1 24 (rv zRv))
        have FO2 := Lib.hid (rv_one zRv)
        go_upto_region 8 with ((with_reducible refine store_blk 24 (.tmp 12) (.tmp 73) v1.heap.size 24 (rv zRv) (rv zRv) rfl rfl ?_ ?_ ?_ ?_ ?_ ?_ ?_); exact Z2.out; exact rfl; exact rv_size zRv; exact FO2.out; exact rfl; exact rfl)
        clear Z2 FO2
        refine world_at (fun Y => OE w Y x y r bs ∧ OU Y v1.heap.size zRv) ⟨D1.out, ⟨(Blk.new v1 24 (rv zRv)).setRow (rv zRv), zRv_w _⟩⟩ ?_
        rintro Y ⟨dY, uY⟩
        obtain ⟨g1, hg1⟩ : ∃ b, v1.heap.size = b := ⟨_, rfl⟩
        rw [hg1] at uY ⊢
        have DY := Lib.hid dY; have UY := Lib.hid uY
        clear dY uY hg1 D1
        go_wp2_with fail
        refine (RG.out _ DY.out).mono ?_
        rintro e v2 ⟨d2, hh⟩
        obtain rfl : e = .returned (.tuple #[.agg (rv zRv).toArray, .int .i64 2]) := by
          rcases hh with ⟨_, h⟩ | ⟨h1, _⟩
          · exact h
          · rw [hbad] at h1; cases h1
        have D2 := Lib.hid ((DY.out.below d2).below (below_boxed v2 (rv zRv))); have V2 := Lib.hid ((UY.out.below d2).below (below_boxed v2 (rv zRv)))
        clear d2 hh hbad DY UY
        have Z2 := Lib.hid (Blk.new v2 24 (rv zRv))
        have FO2 := Lib.hid (rv_one zRv)
        go_upto_region 9 with ((with_reducible refine store_blk 24 (.tmp 14) (.tmp 78) v2.heap.size 24 (rv zRv) (rv zRv) rfl rfl ?_ ?_ ?_ ?_ ?_ ?_ ?_); exact Z2.out; exact rfl; exact rv_size zRv; exact FO2.out; exact rfl; exact rfl)
        clear Z2 FO2
        refine world_at (fun Y => OQ w Y x y g1 v2.heap.size zRv zRv) ⟨D2.out.od, V2.out, ⟨(Blk.new v2 24 (rv zRv)).setRow (rv zRv), zRv_w _⟩⟩ ?_
        rintro Z cq
        obtain ⟨g2, hg2⟩ : ∃ b, v2.heap.size = b := ⟨_, rfl⟩
        rw [hg2] at cq ⊢
        have CQ := Lib.hid cq
        have SYZ := Lib.hid (sameR_refl zRv.r)
        clear cq hg2 D2 V2
        go_upto_region 9 with (fail)
        refine wp_region_held (S := OQS w x y g1 g2 zRv zRv) (by kernel_rfl) ?_
        change wpAnyH _ _ _ _ _ _ _ _ Z.drew
        obtain ⟨U, hU⟩ : ∃ U, (Z).drew = U := ⟨_, rfl⟩
        have C9 := Lib.hid (show OQ w U x y g1 g2 zRv zRv from by rw [← hU]; exact CQ.out.below (Below.refl _ _).drew)
        rw [hU]
        clear hU CQ
        refine wpAnyH_ready (rs := [0]) (by kernel_rfl) (by simp) ?_
        refine AllReadyH.cons rfl (fun K hK => ?_) AllReadyH.nil
        go_simp
        refine (otold_t U C9.out.od.ut).mono ?_
        rintro e va ⟨rfl, ba⟩
        have CA := Lib.hid (C9.out.below ba)
        clear ba C9
        have s1 := CA.out.s
        refine hK.out _ _ s1 (fun _ => ?_)
        clear hK K
        refine wpAnyH_take (i := 1) (v := ?_) rfl (by kernel_rfl) (by kernel_rfl) (by kernel_rfl) (fun _ _ _ h => h) (Or.inl ⟨by kernel_rfl, ?_⟩) s1 ?_
        rotate_left 1
        · (intro w hS; clear hS; go_simp; try (with_reducible rfl))
        refine wpAnyH_take (i := 2) (v := ?_) rfl (by kernel_rfl) (by kernel_rfl) (by kernel_rfl) (fun _ _ _ h => h) (Or.inl ⟨by kernel_rfl, ?_⟩) s1 ?_
        rotate_left 1
        · (intro w hS; clear hS; go_simp; try (with_reducible rfl))
        refine wpAnyH_take (i := 3) (v := ?_) rfl (by kernel_rfl) (by kernel_rfl) (by kernel_rfl) (fun _ _ _ h => h) (Or.inl ⟨by kernel_rfl, ?_⟩) s1 ?_
        rotate_left 1
        · (intro w hS; clear hS; go_simp; try (with_reducible rfl))
        refine wpAnyH_take (i := 4) (v := ?_) rfl (by kernel_rfl) (by kernel_rfl) (by kernel_rfl) (fun _ _ _ h => h) (Or.inl ⟨by kernel_rfl, ?_⟩) s1 ?_
        rotate_left 1
        · (intro w hS; clear hS; go_simp; try (with_reducible rfl))
        refine wpAnyH_take (i := 5) (v := ?_) rfl (by kernel_rfl) (by kernel_rfl) (by kernel_rfl) (fun _ _ _ h => h) (Or.inl ⟨by kernel_rfl, ?_⟩) s1 ?_
        rotate_left 1
        · (intro w hS; clear hS; go_simp; try (with_reducible rfl))
        refine wpAnyH_take (i := 6) (v := ?_) rfl (by kernel_rfl) (by kernel_rfl) (by kernel_rfl) (fun _ _ _ h => h) (Or.inl ⟨by kernel_rfl, ?_⟩) s1 ?_
        rotate_left 1
        · (intro w hS; clear hS; go_simp; try (with_reducible rfl))
        refine wpAnyH_take (i := 7) (v := .agg (rv zRv).toArray) rfl (by kernel_rfl) (by kernel_rfl) (by kernel_rfl) (fun _ _ _ h => h) (yieldsIf_load_mid (by kernel_rfl) 24 (.tmp 12) rfl g1 0 (by go_simp) (rv zRv) _ (fun _ h => h.2.2.1) Tryd.underlying24 rfl (rv_size zRv)) s1 ?_
        refine wpAnyH_take (i := 8) (v := .agg (rv zRv).toArray) rfl (by kernel_rfl) (by kernel_rfl) (by kernel_rfl) (fun _ _ _ h => h) (yieldsIf_load_mid (by kernel_rfl) 24 (.tmp 14) rfl g2 0 (by go_simp) (rv zRv) _ (fun _ h => h.2.2.2) Tryd.underlying24 rfl (rv_size zRv)) s1 ?_
        refine wpAnyH_ready (rs := [9]) (by kernel_rfl) (by simp) ?_
        refine AllReadyH.cons rfl (fun K hK => ?_) AllReadyH.nil
        rw [if_pos (by kernel_rfl)]
        go_simp
        refine (refSame_r zRv zRv va CA.out.u1.rx CA.out.u2.rx).mono ?_
        rintro e vb ⟨rfl, ba⟩
        rw [SYZ.out]
        have CB := Lib.hid (CA.out.below ba)
        clear ba CA
        have s2 := CB.out.s
        refine hK.out _ _ s2 (fun _ => ?_)
        clear hK K s1
        refine wpAnyH_take (i := 10) (v := ?_) rfl (by kernel_rfl) (by kernel_rfl) (by kernel_rfl) (fun _ _ _ h => h) (Or.inl ⟨by kernel_rfl, ?_⟩) s2 ?_
        rotate_left 1
        · (intro w hS; clear hS; go_simp; try (with_reducible rfl))
        refine wpAnyH_take (i := 11) (v := ?_) rfl (by kernel_rfl) (by kernel_rfl) (by kernel_rfl) (fun _ _ _ h => h) (Or.inl ⟨by kernel_rfl, ?_⟩) s2 ?_
        rotate_left 1
        · (intro w hS; clear hS; go_simp; try (with_reducible rfl))
        refine wpAnyH_take (i := 12) (v := .agg (rv x).toArray) rfl (by kernel_rfl) (by kernel_rfl) (by kernel_rfl) (fun _ _ _ h => h) (yieldsIf_load_mid (by kernel_rfl) 24 (.tmp 4) rfl w.heap.size 0 (by go_simp) (rv x) _ (fun _ h => h.1) Tryd.underlying24 rfl (rv_size x)) s2 ?_
        refine wpAnyH_take (i := 13) (v := .agg (rv y).toArray) rfl (by kernel_rfl) (by kernel_rfl) (by kernel_rfl) (fun _ _ _ h => h) (yieldsIf_load_mid (by kernel_rfl) 24 (.tmp 5) rfl (w.heap.size + 1) 0 (by go_simp) (rv y) _ (fun _ h => h.2.1) Tryd.underlying24 rfl (rv_size y)) s2 ?_
        refine wpAnyH_take (i := 15) (v := .agg (rv x).toArray) rfl (by kernel_rfl) (by kernel_rfl) (by kernel_rfl) (fun _ _ _ h => h) (yieldsIf_load_mid (by kernel_rfl) 24 (.tmp 4) rfl w.heap.size 0 (by go_simp) (rv x) _ (fun _ h => h.1) Tryd.underlying24 rfl (rv_size x)) s2 ?_
        refine wpAnyH_take (i := 16) (v := .agg (rv y).toArray) rfl (by kernel_rfl) (by kernel_rfl) (by kernel_rfl) (fun _ _ _ h => h) (yieldsIf_load_mid (by kernel_rfl) 24 (.tmp 5) rfl (w.heap.size + 1) 0 (by go_simp) (rv y) _ (fun _ h => h.2.1) Tryd.underlying24 rfl (rv_size y)) s2 ?_
        refine wpAnyH_ready (rs := [14]) (by kernel_rfl) (by simp) ?_
        refine AllReadyH.cons rfl (fun K hK => ?_) AllReadyH.nil
        rw [if_pos (by kernel_rfl)]
        go_simp
        refine (Same_r x y vb CB.out.od.rx CB.out.od.ry).mono ?_
        rintro e vc ⟨rfl, ba⟩
        have CC := Lib.hid (CB.out.below ba)
        clear ba CB
        have s3 := CC.out.s
        refine hK.out _ _ s3 (fun _ => ?_)
        clear hK K s2
        refine wpAnyH_ready (rs := [17]) (by kernel_rfl) (by simp) ?_
        refine AllReadyH.cons rfl (fun K hK => ?_) AllReadyH.nil
        rw [if_pos (by kernel_rfl)]
        go_simp
        refine (refSame_r x y vc CC.out.od.rx CC.out.od.ry).mono ?_
        rintro e vd ⟨rfl, ba⟩
        have CD := Lib.hid (CC.out.below ba)
        clear ba CC
        have s4 := CD.out.s
        obtain ⟨sb, hsb⟩ : ∃ b, sameR x.r y.r = b := ⟨_, rfl⟩
        rw [hsb]
        have esb : (sb == sb) = true := by simp
        refine hK.out _ _ s4 (fun _ => ?_)
        clear hK K s3 hsb
        refine wpAnyH_take (i := 18) (v := ?_) rfl (by kernel_rfl) (by kernel_rfl) (by kernel_rfl) (fun _ _ _ h => h) (Or.inl ⟨by kernel_rfl, ?_⟩) s4 ?_
        rotate_left 1
        · (intro w hS; clear hS; go_simp; try (with_reducible rfl))
        refine wpAnyH_take (i := 19) (v := ?_) rfl (by kernel_rfl) (by kernel_rfl) (by kernel_rfl) (fun _ _ _ h => h) (Or.inl ⟨by kernel_rfl, ?_⟩) s4 ?_
        rotate_left 1
        · (intro w hS; clear hS; go_simp; try (with_reducible rfl))
        refine wpAnyH_take (i := 20) (v := ?_) rfl (by kernel_rfl) (by kernel_rfl) (by kernel_rfl) (fun _ _ _ h => h) (Or.inl ⟨by kernel_rfl, ?_⟩) s4 ?_
        rotate_left 1
        · (intro w hS; clear hS; go_simp; try (with_reducible rfl))
        refine wpAnyH_take (i := 21) (v := .agg (rv x).toArray) rfl (by kernel_rfl) (by kernel_rfl) (by kernel_rfl) (fun _ _ _ h => h) (yieldsIf_load_mid (by kernel_rfl) 24 (.tmp 4) rfl w.heap.size 0 (by go_simp) (rv x) _ (fun _ h => h.1) Tryd.underlying24 rfl (rv_size x)) s4 ?_
        refine wpAnyH_take (i := 22) (v := .agg (rv x).toArray) rfl (by kernel_rfl) (by kernel_rfl) (by kernel_rfl) (fun _ _ _ h => h) (yieldsIf_load_mid (by kernel_rfl) 24 (.tmp 4) rfl w.heap.size 0 (by go_simp) (rv x) _ (fun _ h => h.1) Tryd.underlying24 rfl (rv_size x)) s4 ?_
        refine wpAnyH_ready (rs := [23]) (by kernel_rfl) (by simp) ?_
        refine AllReadyH.cons rfl (fun K hK => ?_) AllReadyH.nil
        rw [if_pos (by kernel_rfl)]
        go_simp
        refine (Same_r x x vd CD.out.od.rx CD.out.od.rx).mono ?_
        rintro e ve ⟨rfl, ba⟩
        rw [sameR_refl]
        have CE := Lib.hid (CD.out.below ba)
        clear ba CD
        have s5 := CE.out.s
        refine hK.out _ _ s5 (fun _ => ?_)
        clear hK K s4
        refine wpAnyH_take (i := 24) (v := ?_) rfl (by kernel_rfl) (by kernel_rfl) (by kernel_rfl) (fun _ _ _ h => h) (Or.inl ⟨by kernel_rfl, ?_⟩) s5 ?_
        rotate_left 1
        · (intro w hS; clear hS; go_simp; try (with_reducible rfl))
        refine wpAnyH_take (i := 25) (v := ?_) rfl (by kernel_rfl) (by kernel_rfl) (by kernel_rfl) (fun _ _ _ h => h) (Or.inl ⟨by kernel_rfl, ?_⟩) s5 ?_
        rotate_left 1
        · (intro w hS; clear hS; go_simp; try (with_reducible rfl))
        refine wpAnyH_take (i := 26) (v := ?_) rfl (by kernel_rfl) (by kernel_rfl) (by kernel_rfl) (fun _ _ _ h => h) (Or.inl ⟨by kernel_rfl, ?_⟩) s5 ?_
        rotate_left 1
        · (intro w hS; clear hS; go_simp; try (with_reducible rfl))
        refine wpAnyH_take (i := 28) (v := ?_) rfl (by kernel_rfl) (by kernel_rfl) (by kernel_rfl) (fun _ _ _ h => h) (Or.inl ⟨by kernel_rfl, ?_⟩) s5 ?_
        rotate_left 1
        · (intro w hS; clear hS; go_simp; try (with_reducible rfl))
        refine wpAnyH_ready (rs := [27]) (by kernel_rfl) (by simp) ?_
        refine AllReadyH.cons rfl (fun K hK => ?_) AllReadyH.nil
        rw [if_pos (by kernel_rfl)]
        go_simp
        refine (Reads_t kind ve CE.out.od.ut).mono ?_
        rintro e vf ⟨rfl, rfl⟩
        refine hK.out _ _ s5 (fun _ => ?_)
        clear hK K
        refine wpAnyH_ready (rs := [29]) (by kernel_rfl) (by simp) ?_
        refine AllReadyH.cons rfl (fun K hK => ?_) AllReadyH.nil
        rw [if_pos (by kernel_rfl)]
        go_simp
        refine (refReads_t kind ve).mono ?_
        rintro e vf ⟨rfl, rfl⟩
        obtain ⟨rb, hrb⟩ : ∃ b, rdK kind = b := ⟨_, rfl⟩
        rw [hrb]
        have erb : (rb == rb) = true := by simp
        refine hK.out _ _ s5 (fun _ => ?_)
        clear hK K hrb
        refine wpAnyH_take (i := 30) (v := ?_) rfl (by kernel_rfl) (by kernel_rfl) (by kernel_rfl) (fun _ _ _ h => h) (Or.inl ⟨by kernel_rfl, ?_⟩) s5 ?_
        rotate_left 1
        · (intro w hS; clear hS; go_simp; try (with_reducible rfl))
        refine wpAnyH_take (i := 31) (v := ?_) rfl (by kernel_rfl) (by kernel_rfl) (by kernel_rfl) (fun _ _ _ h => h) (Or.inl ⟨by kernel_rfl, ?_⟩) s5 ?_
        rotate_left 1
        · (intro w hS; clear hS; go_simp; try (with_reducible rfl))
        refine wpAnyH_take (i := 32) (v := ?_) rfl (by kernel_rfl) (by kernel_rfl) (by kernel_rfl) (fun _ _ _ h => h) (Or.inl ⟨by kernel_rfl, ?_⟩) s5 ?_
        rotate_left 1
        · (intro w hS; clear hS; go_simp; try (with_reducible rfl))
        refine wpAnyH_take (i := 33) (v := ?_) rfl (by kernel_rfl) (by kernel_rfl) (by kernel_rfl) (fun _ _ _ h => h) (Or.inl ⟨by kernel_rfl, ?_⟩) s5 ?_
        rotate_left 1
        · (intro w hS; clear hS; go_simp; try (with_reducible rfl))
        refine wpAnyH_take (i := 35) (v := ?_) rfl (by kernel_rfl) (by kernel_rfl) (by kernel_rfl) (fun _ _ _ h => h) (Or.inl ⟨by kernel_rfl, ?_⟩) s5 ?_
        rotate_left 1
        · (intro w hS; clear hS; go_simp; try (with_reducible rfl))
        refine wpAnyH_ready (rs := [34]) (by kernel_rfl) (by simp) ?_
        refine AllReadyH.cons rfl (fun K hK => ?_) AllReadyH.nil
        rw [if_pos (by kernel_rfl)]
        go_simp
        refine (Writes_t kind ve CE.out.od.ut).mono ?_
        rintro e vf ⟨rfl, rfl⟩
        refine hK.out _ _ s5 (fun _ => ?_)
        clear hK K
        refine wpAnyH_ready (rs := [36]) (by kernel_rfl) (by simp) ?_
        refine AllReadyH.cons rfl (fun K hK => ?_) AllReadyH.nil
        rw [if_pos (by kernel_rfl)]
        go_simp
        refine (refWrites_t kind ve).mono ?_
        rintro e vf ⟨rfl, rfl⟩
        obtain ⟨wb, hwb⟩ : ∃ b, wrK kind = b := ⟨_, rfl⟩
        rw [hwb]
        have ewb : (wb == wb) = true := by simp
        refine hK.out _ _ s5 (fun _ => ?_)
        clear hK K hwb
        refine wpAnyH_take (i := 37) (v := ?_) rfl (by kernel_rfl) (by kernel_rfl) (by kernel_rfl) (fun _ _ _ h => h) (Or.inl ⟨by kernel_rfl, ?_⟩) s5 ?_
        rotate_left 1
        · (intro w hS; clear hS; go_simp; try (with_reducible rfl))
        refine wpAnyH_take (i := 38) (v := ?_) rfl (by kernel_rfl) (by kernel_rfl) (by kernel_rfl) (fun _ _ _ h => h) (Or.inl ⟨by kernel_rfl, ?_⟩) s5 ?_
        rotate_left 1
        · (intro w hS; clear hS; go_simp; try (with_reducible rfl))
        refine wpAnyH_take (i := 39) (v := ?_) rfl (by kernel_rfl) (by kernel_rfl) (by kernel_rfl) (fun _ _ _ h => h) (Or.inl ⟨by kernel_rfl, ?_⟩) s5 ?_
        rotate_left 1
        · (intro w hS; clear hS; go_simp; try (with_reducible rfl))
        refine wpAnyH_done (by kernel_rfl) ?_ _
        go_simp
        go_wp2_with fail
        go_ret
        exact ⟨by simp, CE.out.od.bel⟩
      · have D1 := Lib.hid ((C6.out.below d1).below (below_boxed v1 (rv p1)))
        have U1 := Lib.hid (show OU ((v1.alloc (.cells (rv zRv).toArray 24)).setRow v1.heap.size (rv p1).toArray) v1.heap.size p1 from ⟨(Blk.new v1 24 (rv zRv)).setRow (rv p1), rp1.below (below_boxed v1 (rv p1))⟩)
        clear d1 rp1 C6
        have Z2 := Lib.hid (Blk.new v1 24 (rv zRv))
        have FO2 := Lib.hid (rv_one p1)
        go_upto_region 8 with ((with_reducible refine store_blk 24 (.tmp 12) (.tmp 73) v1.heap.size 24 (rv zRv) (rv p1) rfl rfl ?_ ?_ ?_ ?_ ?_ ?_ ?_); exact Z2.out; exact rfl; exact rv_size p1; exact FO2.out; exact rfl; exact rfl)
        clear Z2 FO2
        refine world_at (fun Y => OE w Y x y r bs ∧ OU Y v1.heap.size p1) ⟨D1.out, U1.out⟩ ?_
        rintro Y ⟨dY, uY⟩
        obtain ⟨g1, hg1⟩ : ∃ b, v1.heap.size = b := ⟨_, rfl⟩
        rw [hg1] at uY ⊢
        have DY := Lib.hid dY; have UY := Lib.hid uY
        clear dY uY hg1 D1 U1
        go_wp2_with fail
        refine (RG.out _ DY.out).mono ?_
        rintro e v2 ⟨d2, hh⟩
        rcases hh with ⟨h1, _⟩ | ⟨_, p2, hp2, rfl, rp2⟩
        · rw [hgood] at h1; cases h1
        have D2 := Lib.hid ((DY.out.below d2).below (below_boxed v2 (rv p2))); have V2 := Lib.hid ((UY.out.below d2).below (below_boxed v2 (rv p2)))
        have U2 := Lib.hid (show OU ((v2.alloc (.cells (rv zRv).toArray 24)).setRow v2.heap.size (rv p2).toArray) v2.heap.size p2 from ⟨(Blk.new v2 24 (rv zRv)).setRow (rv p2), rp2.below (below_boxed v2 (rv p2))⟩)
        have SYZ := Lib.hid (show sameR p1.r p2.r = true by rw [hp1, hp2]; exact sameR_refl _)
        clear d2 rp2 hgood hp1 hp2 DY UY
        have Z2 := Lib.hid (Blk.new v2 24 (rv zRv))
        have FO2 := Lib.hid (rv_one p2)
        go_upto_region 9 with ((with_reducible refine store_blk 24 (.tmp 14) (.tmp 78) v2.heap.size 24 (rv zRv) (rv p2) rfl rfl ?_ ?_ ?_ ?_ ?_ ?_ ?_); exact Z2.out; exact rfl; exact rv_size p2; exact FO2.out; exact rfl; exact rfl)
        clear Z2 FO2
        refine world_at (fun Y => OQ w Y x y g1 v2.heap.size p1 p2) ⟨D2.out.od, V2.out, U2.out⟩ ?_
        rintro Z cq
        obtain ⟨g2, hg2⟩ : ∃ b, v2.heap.size = b := ⟨_, rfl⟩
        rw [hg2] at cq ⊢
        have CQ := Lib.hid cq
        clear cq hg2 D2 V2 U2
        go_upto_region 9 with (fail)
        refine wp_region_held (S := OQS w x y g1 g2 p1 p2) (by kernel_rfl) ?_
        change wpAnyH _ _ _ _ _ _ _ _ Z.drew
        obtain ⟨U, hU⟩ : ∃ U, (Z).drew = U := ⟨_, rfl⟩
        have C9 := Lib.hid (show OQ w U x y g1 g2 p1 p2 from by rw [← hU]; exact CQ.out.below (Below.refl _ _).drew)
        rw [hU]
        clear hU CQ
        refine wpAnyH_ready (rs := [0]) (by kernel_rfl) (by simp) ?_
        refine AllReadyH.cons rfl (fun K hK => ?_) AllReadyH.nil
        go_simp
        refine (otold_t U C9.out.od.ut).mono ?_
        rintro e va ⟨rfl, ba⟩
        have CA := Lib.hid (C9.out.below ba)
        clear ba C9
        have s1 := CA.out.s
        refine hK.out _ _ s1 (fun _ => ?_)
        clear hK K
        refine wpAnyH_take (i := 1) (v := ?_) rfl (by kernel_rfl) (by kernel_rfl) (by kernel_rfl) (fun _ _ _ h => h) (Or.inl ⟨by kernel_rfl, ?_⟩) s1 ?_
        rotate_left 1
        · (intro w hS; clear hS; go_simp; try (with_reducible rfl))
        refine wpAnyH_take (i := 2) (v := ?_) rfl (by kernel_rfl) (by kernel_rfl) (by kernel_rfl) (fun _ _ _ h => h) (Or.inl ⟨by kernel_rfl, ?_⟩) s1 ?_
        rotate_left 1
        · (intro w hS; clear hS; go_simp; try (with_reducible rfl))
        refine wpAnyH_take (i := 3) (v := ?_) rfl (by kernel_rfl) (by kernel_rfl) (by kernel_rfl) (fun _ _ _ h => h) (Or.inl ⟨by kernel_rfl, ?_⟩) s1 ?_
        rotate_left 1
        · (intro w hS; clear hS; go_simp; try (with_reducible rfl))
        refine wpAnyH_take (i := 4) (v := ?_) rfl (by kernel_rfl) (by kernel_rfl) (by kernel_rfl) (fun _ _ _ h => h) (Or.inl ⟨by kernel_rfl, ?_⟩) s1 ?_
        rotate_left 1
        · (intro w hS; clear hS; go_simp; try (with_reducible rfl))
        refine wpAnyH_take (i := 5) (v := ?_) rfl (by kernel_rfl) (by kernel_rfl) (by kernel_rfl) (fun _ _ _ h => h) (Or.inl ⟨by kernel_rfl, ?_⟩) s1 ?_
        rotate_left 1
        · (intro w hS; clear hS; go_simp; try (with_reducible rfl))
        refine wpAnyH_take (i := 6) (v := ?_) rfl (by kernel_rfl) (by kernel_rfl) (by kernel_rfl) (fun _ _ _ h => h) (Or.inl ⟨by kernel_rfl, ?_⟩) s1 ?_
        rotate_left 1
        · (intro w hS; clear hS; go_simp; try (with_reducible rfl))
        refine wpAnyH_take (i := 7) (v := .agg (rv p1).toArray) rfl (by kernel_rfl) (by kernel_rfl) (by kernel_rfl) (fun _ _ _ h => h) (yieldsIf_load_mid (by kernel_rfl) 24 (.tmp 12) rfl g1 0 (by go_simp) (rv p1) _ (fun _ h => h.2.2.1) Tryd.underlying24 rfl (rv_size p1)) s1 ?_
        refine wpAnyH_take (i := 8) (v := .agg (rv p2).toArray) rfl (by kernel_rfl) (by kernel_rfl) (by kernel_rfl) (fun _ _ _ h => h) (yieldsIf_load_mid (by kernel_rfl) 24 (.tmp 14) rfl g2 0 (by go_simp) (rv p2) _ (fun _ h => h.2.2.2) Tryd.underlying24 rfl (rv_size p2)) s1 ?_
        refine wpAnyH_ready (rs := [9]) (by kernel_rfl) (by simp) ?_
        refine AllReadyH.cons rfl (fun K hK => ?_) AllReadyH.nil
        rw [if_pos (by kernel_rfl)]
        go_simp
        refine (refSame_r p1 p2 va CA.out.u1.rx CA.out.u2.rx).mono ?_
        rintro e vb ⟨rfl, ba⟩
        rw [SYZ.out]
        have CB := Lib.hid (CA.out.below ba)
        clear ba CA
        have s2 := CB.out.s
        refine hK.out _ _ s2 (fun _ => ?_)
        clear hK K s1
        refine wpAnyH_take (i := 10) (v := ?_) rfl (by kernel_rfl) (by kernel_rfl) (by kernel_rfl) (fun _ _ _ h => h) (Or.inl ⟨by kernel_rfl, ?_⟩) s2 ?_
        rotate_left 1
        · (intro w hS; clear hS; go_simp; try (with_reducible rfl))
        refine wpAnyH_take (i := 11) (v := ?_) rfl (by kernel_rfl) (by kernel_rfl) (by kernel_rfl) (fun _ _ _ h => h) (Or.inl ⟨by kernel_rfl, ?_⟩) s2 ?_
        rotate_left 1
        · (intro w hS; clear hS; go_simp; try (with_reducible rfl))
        refine wpAnyH_take (i := 12) (v := .agg (rv x).toArray) rfl (by kernel_rfl) (by kernel_rfl) (by kernel_rfl) (fun _ _ _ h => h) (yieldsIf_load_mid (by kernel_rfl) 24 (.tmp 4) rfl w.heap.size 0 (by go_simp) (rv x) _ (fun _ h => h.1) Tryd.underlying24 rfl (rv_size x)) s2 ?_
        refine wpAnyH_take (i := 13) (v := .agg (rv y).toArray) rfl (by kernel_rfl) (by kernel_rfl) (by kernel_rfl) (fun _ _ _ h => h) (yieldsIf_load_mid (by kernel_rfl) 24 (.tmp 5) rfl (w.heap.size + 1) 0 (by go_simp) (rv y) _ (fun _ h => h.2.1) Tryd.underlying24 rfl (rv_size y)) s2 ?_
        refine wpAnyH_take (i := 15) (v := .agg (rv x).toArray) rfl (by kernel_rfl) (by kernel_rfl) (by kernel_rfl) (fun _ _ _ h => h) (yieldsIf_load_mid (by kernel_rfl) 24 (.tmp 4) rfl w.heap.size 0 (by go_simp) (rv x) _ (fun _ h => h.1) Tryd.underlying24 rfl (rv_size x)) s2 ?_
        refine wpAnyH_take (i := 16) (v := .agg (rv y).toArray) rfl (by kernel_rfl) (by kernel_rfl) (by kernel_rfl) (fun _ _ _ h => h) (yieldsIf_load_mid (by kernel_rfl) 24 (.tmp 5) rfl (w.heap.size + 1) 0 (by go_simp) (rv y) _ (fun _ h => h.2.1) Tryd.underlying24 rfl (rv_size y)) s2 ?_
        refine wpAnyH_ready (rs := [14]) (by kernel_rfl) (by simp) ?_
        refine AllReadyH.cons rfl (fun K hK => ?_) AllReadyH.nil
        rw [if_pos (by kernel_rfl)]
        go_simp
        refine (Same_r x y vb CB.out.od.rx CB.out.od.ry).mono ?_
        rintro e vc ⟨rfl, ba⟩
        have CC := Lib.hid (CB.out.below ba)
        clear ba CB
        have s3 := CC.out.s
        refine hK.out _ _ s3 (fun _ => ?_)
        clear hK K s2
        refine wpAnyH_ready (rs := [17]) (by kernel_rfl) (by simp) ?_
        refine AllReadyH.cons rfl (fun K hK => ?_) AllReadyH.nil
        rw [if_pos (by kernel_rfl)]
        go_simp
        refine (refSame_r x y vc CC.out.od.rx CC.out.od.ry).mono ?_
        rintro e vd ⟨rfl, ba⟩
        have CD := Lib.hid (CC.out.below ba)
        clear ba CC
        have s4 := CD.out.s
        obtain ⟨sb, hsb⟩ : ∃ b, sameR x.r y.r = b := ⟨_, rfl⟩
        rw [hsb]
        have esb : (sb == sb) = true := by simp
        refine hK.out _ _ s4 (fun _ => ?_)
        clear hK K s3 hsb
        refine wpAnyH_take (i := 18) (v := ?_) rfl (by kernel_rfl) (by kernel_rfl) (by kernel_rfl) (fun _ _ _ h => h) (Or.inl ⟨by kernel_rfl, ?_⟩) s4 ?_
        rotate_left 1
        · (intro w hS; clear hS; go_simp; try (with_reducible rfl))
        refine wpAnyH_take (i := 19) (v := ?_) rfl (by kernel_rfl) (by kernel_rfl) (by kernel_rfl) (fun _ _ _ h => h) (Or.inl ⟨by kernel_rfl, ?_⟩) s4 ?_
        rotate_left 1
        · (intro w hS; clear hS; go_simp; try (with_reducible rfl))
        refine wpAnyH_take (i := 20) (v := ?_) rfl (by kernel_rfl) (by kernel_rfl) (by kernel_rfl) (fun _ _ _ h => h) (Or.inl ⟨by kernel_rfl, ?_⟩) s4 ?_
        rotate_left 1
        · (intro w hS; clear hS; go_simp; try (with_reducible rfl))
        refine wpAnyH_take (i := 21) (v := .agg (rv x).toArray) rfl (by kernel_rfl) (by kernel_rfl) (by kernel_rfl) (fun _ _ _ h => h) (yieldsIf_load_mid (by kernel_rfl) 24 (.tmp 4) rfl w.heap.size 0 (by go_simp) (rv x) _ (fun _ h => h.1) Tryd.underlying24 rfl (rv_size x)) s4 ?_
        refine wpAnyH_take (i := 22) (v := .agg (rv x).toArray) rfl (by kernel_rfl) (by kernel_rfl) (by kernel_rfl) (fun _ _ _ h => h) (yieldsIf_load_mid (by kernel_rfl) 24 (.tmp 4) rfl w.heap.size 0 (by go_simp) (rv x) _ (fun _ h => h.1) Tryd.underlying24 rfl (rv_size x)) s4 ?_
        refine wpAnyH_ready (rs := [23]) (by kernel_rfl) (by simp) ?_
        refine AllReadyH.cons rfl (fun K hK => ?_) AllReadyH.nil
        rw [if_pos (by kernel_rfl)]
        go_simp
        refine (Same_r x x vd CD.out.od.rx CD.out.od.rx).mono ?_
        rintro e ve ⟨rfl, ba⟩
        rw [sameR_refl]
        have CE := Lib.hid (CD.out.below ba)
        clear ba CD
        have s5 := CE.out.s
        refine hK.out _ _ s5 (fun _ => ?_)
        clear hK K s4
        refine wpAnyH_take (i := 24) (v := ?_) rfl (by kernel_rfl) (by kernel_rfl) (by kernel_rfl) (fun _ _ _ h => h) (Or.inl ⟨by kernel_rfl, ?_⟩) s5 ?_
        rotate_left 1
        · (intro w hS; clear hS; go_simp; try (with_reducible rfl))
        refine wpAnyH_take (i := 25) (v := ?_) rfl (by kernel_rfl) (by kernel_rfl) (by kernel_rfl) (fun _ _ _ h => h) (Or.inl ⟨by kernel_rfl, ?_⟩) s5 ?_
        rotate_left 1
        · (intro w hS; clear hS; go_simp; try (with_reducible rfl))
        refine wpAnyH_take (i := 26) (v := ?_) rfl (by kernel_rfl) (by kernel_rfl) (by kernel_rfl) (fun _ _ _ h => h) (Or.inl ⟨by kernel_rfl, ?_⟩) s5 ?_
        rotate_left 1
        · (intro w hS; clear hS; go_simp; try (with_reducible rfl))
        refine wpAnyH_take (i := 28) (v := ?_) rfl (by kernel_rfl) (by kernel_rfl) (by kernel_rfl) (fun _ _ _ h => h) (Or.inl ⟨by kernel_rfl, ?_⟩) s5 ?_
        rotate_left 1
        · (intro w hS; clear hS; go_simp; try (with_reducible rfl))
        refine wpAnyH_ready (rs := [27]) (by kernel_rfl) (by simp) ?_
        refine AllReadyH.cons rfl (fun K hK => ?_) AllReadyH.nil
        rw [if_pos (by kernel_rfl)]
        go_simp
        refine (Reads_t kind ve CE.out.od.ut).mono ?_
        rintro e vf ⟨rfl, rfl⟩
        refine hK.out _ _ s5 (fun _ => ?_)
        clear hK K
        refine wpAnyH_ready (rs := [29]) (by kernel_rfl) (by simp) ?_
        refine AllReadyH.cons rfl (fun K hK => ?_) AllReadyH.nil
        rw [if_pos (by kernel_rfl)]
        go_simp
        refine (refReads_t kind ve).mono ?_
        rintro e vf ⟨rfl, rfl⟩
        obtain ⟨rb, hrb⟩ : ∃ b, rdK kind = b := ⟨_, rfl⟩
        rw [hrb]
        have erb : (rb == rb) = true := by simp
        refine hK.out _ _ s5 (fun _ => ?_)
        clear hK K hrb
        refine wpAnyH_take (i := 30) (v := ?_) rfl (by kernel_rfl) (by kernel_rfl) (by kernel_rfl) (fun _ _ _ h => h) (Or.inl ⟨by kernel_rfl, ?_⟩) s5 ?_
        rotate_left 1
        · (intro w hS; clear hS; go_simp; try (with_reducible rfl))
        refine wpAnyH_take (i := 31) (v := ?_) rfl (by kernel_rfl) (by kernel_rfl) (by kernel_rfl) (fun _ _ _ h => h) (Or.inl ⟨by kernel_rfl, ?_⟩) s5 ?_
        rotate_left 1
        · (intro w hS; clear hS; go_simp; try (with_reducible rfl))
        refine wpAnyH_take (i := 32) (v := ?_) rfl (by kernel_rfl) (by kernel_rfl) (by kernel_rfl) (fun _ _ _ h => h) (Or.inl ⟨by kernel_rfl, ?_⟩) s5 ?_
        rotate_left 1
        · (intro w hS; clear hS; go_simp; try (with_reducible rfl))
        refine wpAnyH_take (i := 33) (v := ?_) rfl (by kernel_rfl) (by kernel_rfl) (by kernel_rfl) (fun _ _ _ h => h) (Or.inl ⟨by kernel_rfl, ?_⟩) s5 ?_
        rotate_left 1
        · (intro w hS; clear hS; go_simp; try (with_reducible rfl))
        refine wpAnyH_take (i := 35) (v := ?_) rfl (by kernel_rfl) (by kernel_rfl) (by kernel_rfl) (fun _ _ _ h => h) (Or.inl ⟨by kernel_rfl, ?_⟩) s5 ?_
        rotate_left 1
        · (intro w hS; clear hS; go_simp; try (with_reducible rfl))
        refine wpAnyH_ready (rs := [34]) (by kernel_rfl) (by simp) ?_
        refine AllReadyH.cons rfl (fun K hK => ?_) AllReadyH.nil
        rw [if_pos (by kernel_rfl)]
        go_simp
        refine (Writes_t kind ve CE.out.od.ut).mono ?_
        rintro e vf ⟨rfl, rfl⟩
        refine hK.out _ _ s5 (fun _ => ?_)
        clear hK K
        refine wpAnyH_ready (rs := [36]) (by kernel_rfl) (by simp) ?_
        refine AllReadyH.cons rfl (fun K hK => ?_) AllReadyH.nil
        rw [if_pos (by kernel_rfl)]
        go_simp
        refine (refWrites_t kind ve).mono ?_
        rintro e vf ⟨rfl, rfl⟩
        obtain ⟨wb, hwb⟩ : ∃ b, wrK kind = b := ⟨_, rfl⟩
        rw [hwb]
        have ewb : (wb == wb) = true := by simp
        refine hK.out _ _ s5 (fun _ => ?_)
        clear hK K hwb
        refine wpAnyH_take (i := 37) (v := ?_) rfl (by kernel_rfl) (by kernel_rfl) (by kernel_rfl) (fun _ _ _ h => h) (Or.inl ⟨by kernel_rfl, ?_⟩) s5 ?_
        rotate_left 1
        · (intro w hS; clear hS; go_simp; try (with_reducible rfl))
        refine wpAnyH_take (i := 38) (v := ?_) rfl (by kernel_rfl) (by kernel_rfl) (by kernel_rfl) (fun _ _ _ h => h) (Or.inl ⟨by kernel_rfl, ?_⟩) s5 ?_
        rotate_left 1
        · (intro w hS; clear hS; go_simp; try (with_reducible rfl))
        refine wpAnyH_take (i := 39) (v := ?_) rfl (by kernel_rfl) (by kernel_rfl) (by kernel_rfl) (fun _ _ _ h => h) (Or.inl ⟨by kernel_rfl, ?_⟩) s5 ?_
        rotate_left 1
        · (intro w hS; clear hS; go_simp; try (with_reducible rfl))
        refine wpAnyH_done (by kernel_rfl) ?_ _
        go_simp
        go_wp2_with fail
        go_ret
        exact ⟨by simp, CE.out.od.bel⟩
end Go.Proofs.YtigbnjgmdgkgjaaDoor
