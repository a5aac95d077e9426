/-
  OperBack walked.
-/
import Derived.Test.YtigbnjgmdgkgjaaDoorOpTurned
import Derived.Test.YtigbnjgmdgkgjaaDoorTpBack
namespace Go.Proofs.YtigbnjgmdgkgjaaDoor
open Go Go.RowKit Sh

theorem rngO {w : World} {g : Nat} {t : TypeId} {cs : List Value} (h : Blk w g t cs) : w.rangeAt g 0 cs := fun j v hv => by rw [Nat.zero_add]; exact (h.cell j).trans hv
/-- Two requests at hand, boxed. -/
structure OD (w0 W : World) (x y : Rv) : Prop where
  a : Blk W w0.heap.size 24 (rv x)
  b : Blk W (w0.heap.size + 1) 24 (rv y)
  rx : RvW W x
  ry : RvW W y
  ut : UT W
  bel : Below w0.heap.size w0 W
theorem OD.below {w0 W W' : World} {x y : Rv} (h : OD w0 W x y) (hb : Below W.heap.size W W') : OD w0 W' x y :=
  ⟨h.a.below hb h.a.lt, h.b.below hb h.b.lt, h.rx.below hb, h.ry.below hb, h.ut.below hb, h.bel.trans (hb.mono h.bel.size)⟩
theorem OD.new {w : World} {x y : Rv} (hx : RvW w x) (hy : RvW w y) (hu : UT w) : OD w ((w.alloc (.cells (rv x).toArray 24)).alloc (.cells (rv y).toArray 24)) x y := by
  have b1 := (Below.refl w.heap.size w).alloc (Nat.le_refl _) (.cells (rv x).toArray 24)
  have b2 := b1.alloc (by simp) (.cells (rv y).toArray 24)
  exact ⟨(Blk.new w 24 (rv x)).alloc _, Blk.new2 w _ _ _, hx.below b2, hy.below b2, hu.below b2, b2⟩
/-- With the bytes of the first. -/
structure OE (w0 W : World) (x y : Rv) (A : Option Addr) (xs : List Nat) : Prop where
  od : OD w0 W x y
  sr : Sr W A xs
theorem OE.below {w0 W W' : World} {x y : Rv} {A : Option Addr} {xs : List Nat} (h : OE w0 W x y A xs) (hb : Below W.heap.size W W') : OE w0 W' x y A xs := ⟨h.od.below hb, h.sr.below hb⟩
/-- A new block, written whole. -/
theorem below_boxed (w : World) (cs : List Value) : Below w.heap.size w ((w.alloc (.cells (rv zRv).toArray 24)).setRow w.heap.size cs.toArray) :=
  below_setRow ((Below.refl _ _).alloc (Nat.le_refl _) _) (Nat.le_refl _) _
set_option maxRecDepth 100000 in
set_option maxHeartbeats 4000000 in
theorem oback_t (x y : Rv) (at_ : Int) (z : Nat) (w : World) (hx : RvW w x) (hy : RvW w y) (hix : InRq x.r) (hiy : InRq y.r) (hz : z < 256) (hu : UT w) :
    Calls Tryd.prog 4 #[.agg (rv x).toArray, .agg (rv y).toArray, .int .i64 at_, .int .u8 (z : Int)] w fun e w' => e = .returned (.bool true) ∧ Below w.heap.size w w' := by
  have C0 := Lib.hid (OD.new hx hy hu)
  have FW := Lib.hid (fewR_t x _ C0.out.rx)
  have FQ := Lib.hid (fun W (c : OD w W x y) => fewR_t y W c.ry)
  obtain ⟨fb, hfb⟩ : ∃ b, fewR x = b := ⟨_, rfl⟩
  obtain ⟨fq, hfq⟩ : ∃ b, fewR y = b := ⟨_, rfl⟩
  rw [hfb] at FW
  rw [hfq] at FQ
  clear hfb hfq hx hy hu
  cases fb with
  | false =>
    clear FQ
    go_enter Tryd.func4, Tryd.ntmps4
    have G0 := Lib.hid C0.out.a
    go_wp2_with ((with_reducible refine load_blk_gdO 19 24 (.tmp 4) w.heap.size 24 (rv x) _ ?_ ?_ rfl ?_ Tryd.underlying24 ?_ ?_ ?_ ?_); exact rfl; kernel_rfl; exact G0.out; exact rfl; exact rv_size x; exact rfl)
    refine FW.out.mono ?_
    rintro e w1 ⟨rfl, b1⟩
    have C1 := Lib.hid (C0.out.below b1)
    clear b1 C0 G0 FW
    go_wp2_with fail
    refine (otold_t _ C1.out.ut).mono ?_
    rintro e w9 ⟨rfl, b9⟩
    have B9 := Lib.hid (C1.out.below b9)
    clear b9
    go_wp2_with fail
    go_ret
    exact ⟨rfl, B9.out.bel⟩
  | true =>
  cases fq with
  | false =>
    go_enter Tryd.func4, Tryd.ntmps4
    have G0 := Lib.hid C0.out.a
    go_wp2_with ((with_reducible refine load_blk_gdO 19 24 (.tmp 4) w.heap.size 24 (rv x) _ ?_ ?_ rfl ?_ Tryd.underlying24 ?_ ?_ ?_ ?_); exact rfl; kernel_rfl; exact G0.out; exact rfl; exact rv_size x; exact rfl)
    refine FW.out.mono ?_
    rintro e w1 ⟨rfl, b1⟩
    have C1 := Lib.hid (C0.out.below b1)
    clear b1 C0 G0 FW
    have G1 := Lib.hid C1.out.b
    go_wp2_with ((with_reducible refine load_blk_gdO 23 24 (.tmp 5) (w.heap.size + 1) 24 (rv y) _ ?_ ?_ rfl ?_ Tryd.underlying24 ?_ ?_ ?_ ?_); exact rfl; kernel_rfl; exact G1.out; exact rfl; exact rv_size y; exact rfl)
    refine (FQ.out _ C1.out).mono ?_
    rintro e w2 ⟨rfl, b2⟩
    have C2 := Lib.hid (C1.out.below b2)
    clear b2 C1 G1 FQ
    go_wp2_with fail
    refine (otold_t _ C2.out.ut).mono ?_
    rintro e w9 ⟨rfl, b9⟩
    have B9 := Lib.hid (C2.out.below b9)
    clear b9
    go_wp2_with fail
    go_ret
    exact ⟨rfl, B9.out.bel⟩
  | true =>
  cases hmb : mayR x.r with
  | false =>
    have HM := Lib.hid hmb
    clear hmb
    go_enter Tryd.func4, Tryd.ntmps4
    have G0 := Lib.hid C0.out.a
    go_wp2_with ((with_reducible refine load_blk_gdO 19 24 (.tmp 4) w.heap.size 24 (rv x) _ ?_ ?_ rfl ?_ Tryd.underlying24 ?_ ?_ ?_ ?_); exact rfl; kernel_rfl; exact G0.out; exact rfl; exact rv_size x; exact rfl)
    refine FW.out.mono ?_
    rintro e w1 ⟨rfl, b1⟩
    have C1 := Lib.hid (C0.out.below b1)
    clear b1 C0 G0 FW
    have G1 := Lib.hid C1.out.b
    go_wp2_with ((with_reducible refine load_blk_gdO 23 24 (.tmp 5) (w.heap.size + 1) 24 (rv y) _ ?_ ?_ rfl ?_ Tryd.underlying24 ?_ ?_ ?_ ?_); exact rfl; kernel_rfl; exact G1.out; exact rfl; exact rv_size y; exact rfl)
    refine (FQ.out _ C1.out).mono ?_
    rintro e w2 ⟨rfl, b2⟩
    have C2 := Lib.hid (C1.out.below b2)
    clear b2 C1 G1 FQ
    have G2 := Lib.hid C2.out.a
    go_wp2_with ((with_reducible refine load_blk_gdO 29 24 (.tmp 4) w.heap.size 24 (rv x) _ ?_ ?_ rfl ?_ Tryd.underlying24 ?_ ?_ ?_ ?_); exact rfl; kernel_rfl; exact G2.out; exact rfl; exact rv_size x; exact rfl)
    refine (PutR_no x w2 C2.out.ut C2.out.rx HM.out).mono ?_
    rintro e w3 ⟨rfl, b3⟩
    have C3 := Lib.hid (C2.out.below b3)
    clear b3 C2 G2
    go_wp2_with fail
    refine (otold_t _ C3.out.ut).mono ?_
    rintro e w9 ⟨rfl, b9⟩
    have B9 := Lib.hid (C3.out.below b9)
    clear b9
    have G4 := Lib.hid B9.out.a
    go_wp2_with ((with_reducible refine load_blk_gdO 37 24 (.tmp 4) w.heap.size 24 (rv x) _ ?_ ?_ rfl ?_ Tryd.underlying24 ?_ ?_ ?_ ?_); exact rfl; kernel_rfl; exact G4.out; exact rfl; exact rv_size x; exact rfl)
    refine (May_r x w9 B9.out.ut B9.out.rx).mono ?_
    rintro e w4 ⟨rfl, b4⟩
    rw [HM.out]
    have C4 := Lib.hid (B9.out.below b4)
    clear b4 B9 C3 G4
    go_wp2_with fail
    go_ret
    exact ⟨rfl, C4.out.bel⟩
  | true =>
    have PL := Lib.hid (putR_length hmb)
    have PB := Lib.hid (putR_bytes x.r)
    have GF := Lib.hid (frontR_ok hmb hix)
    have TN := Lib.hid (fun j hj => take_noR (j := j) hmb hix hj)
    have GN := Lib.hid (frontR_no [z] hmb hix (Nat.zero_lt_succ 0))
    have PI := Lib.hid (fun km => putR_inj hmb hix km hiy)
    have PY := Lib.hid (fun W (c : OD w W x y) => PutR_yes x W c.ut c.rx hmb)
    obtain ⟨xs, hxs⟩ : ∃ xs, putR x.r = xs := ⟨_, rfl⟩
    rw [hxs] at PL PB GF GN
    simp only [hxs] at TN PI PY
    obtain ⟨L, hL⟩ : ∃ L, xs.length = L := ⟨_, rfl⟩
    rw [hL] at PL
    simp only [hL] at TN PY
    obtain ⟨j, hj, hje⟩ := mod_bigT L (by have := PL.out; omega) (by have := PL.out; omega) at_
    have HL := Lib.hid hL
    have HX := Lib.hid (show L ≤ 600 ∧ 0 < L from by have := PL.out; omega)
    have TJ := Lib.hid (TN.out j hj)
    clear hxs hL PL hmb TN
    go_enter Tryd.func4, Tryd.ntmps4
    have G0 := Lib.hid C0.out.a
    go_wp2_with ((with_reducible refine load_blk_gdO 19 24 (.tmp 4) w.heap.size 24 (rv x) _ ?_ ?_ rfl ?_ Tryd.underlying24 ?_ ?_ ?_ ?_); exact rfl; kernel_rfl; exact G0.out; exact rfl; exact rv_size x; exact rfl)
    refine FW.out.mono ?_
    rintro e w1 ⟨rfl, b1⟩
    have C1 := Lib.hid (C0.out.below b1)
    clear b1 C0 G0 FW
    have G1 := Lib.hid C1.out.b
    go_wp2_with ((with_reducible refine load_blk_gdO 23 24 (.tmp 5) (w.heap.size + 1) 24 (rv y) _ ?_ ?_ rfl ?_ Tryd.underlying24 ?_ ?_ ?_ ?_); exact rfl; kernel_rfl; exact G1.out; exact rfl; exact rv_size y; exact rfl)
    refine (FQ.out _ C1.out).mono ?_
    rintro e w2 ⟨rfl, b2⟩
    have C2 := Lib.hid (C1.out.below b2)
    clear b2 C1 G1 FQ
    have G2 := Lib.hid C2.out.a
    go_wp2_with ((with_reducible refine load_blk_gdO 29 24 (.tmp 4) w.heap.size 24 (rv x) _ ?_ ?_ rfl ?_ Tryd.underlying24 ?_ ?_ ?_ ?_); exact rfl; kernel_rfl; exact G2.out; exact rfl; exact rv_size x; exact rfl)
    refine (PY.out w2 C2.out).mono ?_
    rintro e w3 ⟨u, rfl, o3, b3⟩
    obtain ⟨g, ca, rfl, hca⟩ := own_formT o3 HX.out.2
    have C3 := Lib.hid (show OE w w3 x y (some ⟨g, 0, none⟩) xs from ⟨C2.out.below b3, Sr.of_own o3⟩)
    clear o3 b3 PY C2 G2
    go_wp2_with fail
    refine (Get_r xs _ L ca w3 HL.out C3.out.sr PB.out (by have := HX.out; omega) C3.out.od.ut).mono ?_
    rintro e w4 ⟨b4, hh⟩
    rcases hh with ⟨h1, _⟩ | ⟨_, q, hq, rfl, rq⟩
    · rw [GF.out.1] at h1; cases h1
    have SQ := Lib.hid (show sameR q.r x.r = true by rw [hq]; exact sameR_symm GF.out.2)
    have C4 := Lib.hid ((C3.out.below b4).below (below_boxed w4 (rv q)))
    have U4 := Lib.hid (show OU ((w4.alloc (.cells (rv zRv).toArray 24)).setRow w4.heap.size (rv q).toArray) w4.heap.size q from ⟨(Blk.new w4 24 (rv zRv)).setRow (rv q), rq.below (below_boxed w4 (rv q))⟩)
    clear b4 rq hq C3 GF
    have Z2 := Lib.hid (Blk.new w4 24 (rv zRv))
    have FO2 := Lib.hid (rv_one q)
    go_upto_region 7 with ((with_reducible refine store_blk 24 (.tmp 11) (.tmp 44) w4.heap.size 24 (rv zRv) (rv q) rfl rfl ?_ ?_ ?_ ?_ ?_ ?_ ?_); exact Z2.out; exact rfl; exact rv_size q; exact FO2.out; exact rfl; exact rfl)
    clear Z2 FO2
    refine world_at (fun Y => OE w Y x y (some ⟨g, 0, none⟩) xs ∧ OU Y w4.heap.size q) ⟨C4.out, U4.out⟩ ?_
    rintro V ⟨cV, uV⟩
    obtain ⟨b2, hb2⟩ : ∃ b, w4.heap.size = b := ⟨_, rfl⟩
    rw [hb2] at uV ⊢
    have CV := Lib.hid cV; have UV := Lib.hid uV; have XV := Lib.hid uV.box; have GV := Lib.hid cV.od.a
    clear cV uV hb2 C4 U4
    have i2 : ((L : Int) == 0) = false := by rw [beq_eq_false_iff_ne]; have := HX.out; omega
    have i3 : (L : Int) ≠ 0 := by have := HX.out; omega
    have i4 : IntKind.u64.wrap (L : Int) = (L : Int) := IntWalk.u64_in _ (by have := HX.out; omega)
    have hs1 := slice_high (P := Tryd.prog) (t := 25) (e := 5) Tryd.underlying25 byte_size (some ⟨g, 0, none⟩) L ca .i64 j (by omega)
    go_wp2_with (first
      | ((with_reducible refine load_blk_gdO 49 24 (.tmp 11) b2 24 (rv q) _ ?_ ?_ rfl ?_ Tryd.underlying24 ?_ ?_ ?_ ?_); exact rfl; kernel_rfl; exact XV.out; exact rfl; exact rv_size q; exact rfl)
      | ((with_reducible refine load_blk_gdO 50 24 (.tmp 4) w.heap.size 24 (rv x) _ ?_ ?_ rfl ?_ Tryd.underlying24 ?_ ?_ ?_ ?_); exact rfl; kernel_rfl; exact GV.out; exact rfl; exact rv_size x; exact rfl))
    refine (Same_r q x V UV.out.rx CV.out.od.rx).mono ?_
    rintro e w5 ⟨rfl, b5⟩
    rw [SQ.out]
    have C5 := Lib.hid (CV.out.below b5)
    clear b5 CV UV XV GV SQ
    go_wp2_with fail
    clear i2 i3 i4 hs1 hje
    have HTL := Lib.hid (show (xs.take j).length = j by rw [List.length_take, HL.out]; omega)
    refine (Get_r (xs.take j) _ j ca w5 HTL.out (C5.out.sr.take j) (bytes_take PB.out j) (by have := HX.out; omega) C5.out.od.ut).mono ?_
    rintro e w6 ⟨b6, hh⟩
    have C6 := Lib.hid ((C5.out.below b6).below (below_boxed w6 (rv zRv)))
    obtain rfl : e = .returned (.tuple #[.agg (rv zRv).toArray, .int .i64 2]) := by
      rcases hh with ⟨_, h⟩ | ⟨h1, _⟩
      · exact h
      · rw [TJ.out] at h1; cases h1
    clear b6 C5 HTL TJ hh
    have Z2 := Lib.hid (Blk.new w6 24 (rv zRv))
    have FO2 := Lib.hid (rv_one zRv)
    go_upto_region 10 with ((with_reducible refine store_blk 24 (.tmp 13) (.tmp 70) w6.heap.size 24 (rv zRv) (rv zRv) rfl rfl ?_ ?_ ?_ ?_ ?_ ?_ ?_); exact Z2.out; exact rfl; exact rv_size zRv; exact FO2.out; exact rfl; exact rfl)
    clear Z2 FO2
    refine world_at (fun Y => OE w Y x y (some ⟨g, 0, none⟩) xs) C6.out ?_
    rintro V cV
    have CV := Lib.hid cV
    clear cV C6
    have SA := Lib.hid (CV.out.sr.below ((Below.refl V.heap.size V).alloc (Nat.le_refl _) (.cells #[] 5)))
    have l1 : L ≤ 1000 := by have := HX.out; omega
    go_wp2_with (first
      | ((with_reducible refine at_op (.call { callee := .builtin .append, args := #[.tmp 73, .tmp 74], argTypes := #[25, 25] }) rfl ?_); go_must (refine append_bytes (.tmp 73) (.tmp 74) 25 rfl rfl 5 Tryd.underlying25 byte_info V.heap.size (.slice (some ⟨V.heap.size, 0, none⟩) 0 0) 0 [] xs rfl (own_emptyT _ _ (Nat.le_refl _)) (some ⟨g, 0, none⟩) L ca rfl HL.out SA.out (by omega) (by simp) ?_); intro v1 w5 a1 a2 a3; have O5 := Lib.hid (own_below (own_zero a1.out) ((Below.refl _ _).alloc (Nat.le_refl _) (.cells #[.int .u8 (z : Int)] 5))); have HB5 := Lib.hid (grown_size a2.out (.cells #[.int .u8 (z : Int)] 5)); have SM5 := Lib.hid (Sr.made [z] w5 5 (0, 0)))
      | ((with_reducible refine at_op (.call { callee := .builtin .append, args := #[.tmp 75, .tmp 77], argTypes := #[25, 25] }) rfl ?_); go_must (refine append_bytes (.tmp 75) (.tmp 77) 25 rfl rfl 5 Tryd.underlying25 byte_info V.heap.size v1 L xs [z] rfl O5.out (some ⟨w5.heap.size, 0, none⟩) 1 1 rfl rfl SM5.out (by omega) HB5.out ?_); intro v2 w6 a4 a5 a6))
    have bk1 : Below V.heap.size V w5 := ((Below.refl V.heap.size V).alloc (Nat.le_refl _) (.cells #[] 5)).grown a2.out (by simp) (fun k e => by have := Option.some.inj e; simp at this; omega)
    have bk : Below V.heap.size V w6 := (bk1.alloc bk1.size _).grown a5.out HB5.out (fun k e => (O5.out.lt k e).1)
    obtain ⟨A2, c3, rfl, _⟩ := own_form a4.out
    have C7 := Lib.hid (CV.out.below bk); have S7 := Lib.hid (Sr.of_own a4.out)
    have AB := Lib.hid (app_bytes PB.out (one_bytesT z hz))
    have AL := Lib.hid (show (xs ++ [z]).length = L + 1 by rw [List.length_append, HL.out]; rfl)
    clear bk1 bk a1 a2 a3 a4 a5 a6 O5 HB5 SM5 SA CV
    refine (Get_r (xs ++ [z]) A2 (L + 1) c3 w6 AL.out S7.out AB.out (by omega) C7.out.od.ut).mono ?_
    rintro e w7 ⟨b7, hh⟩
    have C8 := Lib.hid ((C7.out.below b7).below (below_boxed w7 (rv zRv)))
    obtain rfl : e = .returned (.tuple #[.agg (rv zRv).toArray, .int .i64 2]) := by
      rcases hh with ⟨_, h⟩ | ⟨h1, _⟩
      · exact h
      · rw [GN.out] at h1; cases h1
    clear b7 C7 hh S7 AB AL GN
    have Z2 := Lib.hid (Blk.new w7 24 (rv zRv))
    have FO2 := Lib.hid (rv_one zRv)
    go_upto_region 11 with ((with_reducible refine store_blk 24 (.tmp 15) (.tmp 80) w7.heap.size 24 (rv zRv) (rv zRv) rfl rfl ?_ ?_ ?_ ?_ ?_ ?_ ?_); exact Z2.out; exact rfl; exact rv_size zRv; exact FO2.out; exact rfl; exact rfl)
    clear Z2 FO2
    refine world_at (fun Y => OE w Y x y (some ⟨g, 0, none⟩) xs) C8.out ?_
    rintro Y cY
    have CY := Lib.hid cY; have GY := Lib.hid cY.od.b
    clear cY C8
    cases hmb : mayR y.r with
    | false =>
      have HM := Lib.hid hmb
      clear hmb PI
      go_wp2_with ((with_reducible refine load_blk_gdO 83 24 (.tmp 5) (w.heap.size + 1) 24 (rv y) _ ?_ ?_ rfl ?_ Tryd.underlying24 ?_ ?_ ?_ ?_); exact rfl; kernel_rfl; exact GY.out; exact rfl; exact rv_size y; exact rfl)
      refine (PutR_no y Y CY.out.od.ut CY.out.od.ry HM.out).mono ?_
      rintro e w8 ⟨rfl, b8⟩
      have C9 := Lib.hid ((CY.out.below b8).below (Below.refl _ _).drew)
      clear b8 CY GY
      go_upto_region 12 with (fail)
      refine wp_region_held (S := fun _ => True) (by kernel_rfl) ?_
      change wpAnyH _ _ _ _ _ _ _ _ w8.drew
      obtain ⟨U, hU⟩ : ∃ U, w8.drew = U := ⟨_, rfl⟩
      rw [hU] at C9 ⊢
      clear hU
      refine wpAnyH_ready (rs := [0]) (by kernel_rfl) (by simp) ?_
      refine AllReadyH.cons rfl (fun K hK => ?_) AllReadyH.nil
      go_simp
      refine (otold_t U C9.out.od.ut).mono ?_
      rintro e w9 ⟨rfl, b9⟩
      have CA := Lib.hid (C9.out.below b9)
      clear b9 C9
      refine hK.out _ _ trivial (fun _ => ?_)
      clear hK K
      refine wpAnyH_take (i := 1) (v := ?_) rfl (by kernel_rfl) (by kernel_rfl) (by kernel_rfl) (fun _ _ _ h => h) (Or.inl ⟨by kernel_rfl, ?_⟩) trivial ?_
      rotate_left 1
      · (intro w hS; clear hS; go_simp; try (with_reducible rfl))
      refine wpAnyH_take (i := 2) (v := ?_) rfl (by kernel_rfl) (by kernel_rfl) (by kernel_rfl) (fun _ _ _ h => h) (Or.inl ⟨by kernel_rfl, ?_⟩) trivial ?_
      rotate_left 1
      · (intro w hS; clear hS; go_simp; try (with_reducible rfl))
      refine wpAnyH_take (i := 3) (v := ?_) rfl (by kernel_rfl) (by kernel_rfl) (by kernel_rfl) (fun _ _ _ h => h) (Or.inl ⟨by kernel_rfl, ?_⟩) trivial ?_
      rotate_left 1
      · (intro w hS; clear hS; go_simp; try (with_reducible rfl))
      refine wpAnyH_take (i := 4) (v := ?_) rfl (by kernel_rfl) (by kernel_rfl) (by kernel_rfl) (fun _ _ _ h => h) (Or.inl ⟨by kernel_rfl, ?_⟩) trivial ?_
      rotate_left 1
      · (intro w hS; clear hS; go_simp; try (with_reducible rfl))
      refine wpAnyH_take (i := 5) (v := ?_) rfl (by kernel_rfl) (by kernel_rfl) (by kernel_rfl) (fun _ _ _ h => h) (Or.inl ⟨by kernel_rfl, ?_⟩) trivial ?_
      rotate_left 1
      · (intro w hS; clear hS; go_simp; try (with_reducible rfl))
      refine wpAnyH_take (i := 6) (v := ?_) rfl (by kernel_rfl) (by kernel_rfl) (by kernel_rfl) (fun _ _ _ h => h) (Or.inl ⟨by kernel_rfl, ?_⟩) trivial ?_
      rotate_left 1
      · (intro w hS; clear hS; go_simp; try (with_reducible rfl))
      refine wpAnyH_take (i := 7) (v := ?_) rfl (by kernel_rfl) (by kernel_rfl) (by kernel_rfl) (fun _ _ _ h => h) (Or.inl ⟨by kernel_rfl, ?_⟩) trivial ?_
      rotate_left 1
      · (intro w hS; clear hS; go_simp; try (with_reducible rfl))
      refine wpAnyH_take (i := 8) (v := ?_) rfl (by kernel_rfl) (by kernel_rfl) (by kernel_rfl) (fun _ _ _ h => h) (Or.inl ⟨by kernel_rfl, ?_⟩) trivial ?_
      rotate_left 1
      · (intro w hS; clear hS; go_simp; try (with_reducible rfl))
      refine wpAnyH_take (i := 9) (v := ?_) rfl (by kernel_rfl) (by kernel_rfl) (by kernel_rfl) (fun _ _ _ h => h) (Or.inl ⟨by kernel_rfl, ?_⟩) trivial ?_
      rotate_left 1
      · (intro w hS; clear hS; go_simp; try (with_reducible rfl))
      refine wpAnyH_take (i := 10) (v := ?_) rfl (by kernel_rfl) (by kernel_rfl) (by kernel_rfl) (fun _ _ _ h => h) (Or.inl ⟨by kernel_rfl, ?_⟩) trivial ?_
      rotate_left 1
      · (intro w hS; clear hS; go_simp; try (with_reducible rfl))
      refine wpAnyH_take (i := 11) (v := ?_) rfl (by kernel_rfl) (by kernel_rfl) (by kernel_rfl) (fun _ _ _ h => h) (Or.inl ⟨by kernel_rfl, ?_⟩) trivial ?_
      rotate_left 1
      · (intro w hS; clear hS; go_simp; try (with_reducible rfl))
      refine wpAnyH_take (i := 12) (v := ?_) rfl (by kernel_rfl) (by kernel_rfl) (by kernel_rfl) (fun _ _ _ h => h) (Or.inl ⟨by kernel_rfl, ?_⟩) trivial ?_
      rotate_left 1
      · (intro w hS; clear hS; go_simp; try (with_reducible rfl))
      refine wpAnyH_take (i := 13) (v := undef) rfl (by kernel_rfl) (by kernel_rfl) (by kernel_rfl) (fun _ _ _ h => h) (Or.inr ⟨by kernel_rfl, rfl⟩) trivial ?_
      refine wpAnyH_take (i := 14) (v := undef) rfl (by kernel_rfl) (by kernel_rfl) (by kernel_rfl) (fun _ _ _ h => h) (Or.inr ⟨by kernel_rfl, rfl⟩) trivial ?_
      refine wpAnyH_take (i := 15) (v := undef) rfl (by kernel_rfl) (by kernel_rfl) (by kernel_rfl) (fun _ _ _ h => h) (Or.inr ⟨by kernel_rfl, rfl⟩) trivial ?_
      refine wpAnyH_take (i := 16) (v := undef) rfl (by kernel_rfl) (by kernel_rfl) (by kernel_rfl) (fun _ _ _ h => h) (Or.inr ⟨by kernel_rfl, rfl⟩) trivial ?_
      refine wpAnyH_take (i := 17) (v := undef) rfl (by kernel_rfl) (by kernel_rfl) (by kernel_rfl) (fun _ _ _ h => h) (Or.inr ⟨by kernel_rfl, rfl⟩) trivial ?_
      refine wpAnyH_take (i := 18) (v := undef) rfl (by kernel_rfl) (by kernel_rfl) (by kernel_rfl) (fun _ _ _ h => h) (Or.inr ⟨by kernel_rfl, rfl⟩) trivial ?_
      refine wpAnyH_take (i := 19) (v := undef) rfl (by kernel_rfl) (by kernel_rfl) (by kernel_rfl) (fun _ _ _ h => h) (Or.inr ⟨by kernel_rfl, rfl⟩) trivial ?_
      refine wpAnyH_take (i := 20) (v := ?_) rfl (by kernel_rfl) (by kernel_rfl) (by kernel_rfl) (fun _ _ _ h => h) (Or.inl ⟨by kernel_rfl, ?_⟩) trivial ?_
      rotate_left 1
      · (intro w hS; clear hS; go_simp; try (with_reducible rfl))
      refine wpAnyH_take (i := 21) (v := ?_) rfl (by kernel_rfl) (by kernel_rfl) (by kernel_rfl) (fun _ _ _ h => h) (Or.inl ⟨by kernel_rfl, ?_⟩) trivial ?_
      rotate_left 1
      · (intro w hS; clear hS; go_simp; try (with_reducible rfl))
      refine wpAnyH_take (i := 22) (v := ?_) rfl (by kernel_rfl) (by kernel_rfl) (by kernel_rfl) (fun _ _ _ h => h) (Or.inl ⟨by kernel_rfl, ?_⟩) trivial ?_
      rotate_left 1
      · (intro w hS; clear hS; go_simp; try (with_reducible rfl))
      refine wpAnyH_done (by kernel_rfl) ?_ _
      go_simp
      go_wp2_with fail
      go_ret
      exact ⟨rfl, CA.out.od.bel⟩
    | true =>
      have PE := Lib.hid (PI.out hmb)
      have PB2 := Lib.hid (putR_bytes y.r)
      have PY2 := Lib.hid (PutR_yes y Y CY.out.od.ut CY.out.od.ry hmb)
      have PL2 := Lib.hid (putR_length hmb)
      obtain ⟨ys, hys⟩ : ∃ ys, putR y.r = ys := ⟨_, rfl⟩
      rw [hys] at PE PB2 PY2 PL2
      clear hys hmb PI
      go_wp2_with ((with_reducible refine load_blk_gdO 83 24 (.tmp 5) (w.heap.size + 1) 24 (rv y) _ ?_ ?_ rfl ?_ Tryd.underlying24 ?_ ?_ ?_ ?_); exact rfl; kernel_rfl; exact GY.out; exact rfl; exact rv_size y; exact rfl)
      refine PY2.out.mono ?_
      rintro e w8 ⟨u, rfl, o8, b8⟩
      obtain ⟨A8, c8, rfl, _⟩ := own_form o8
      have C9 := Lib.hid ((CY.out.below b8).below (Below.refl _ _).drew); have S9 := Lib.hid ((Sr.of_own o8).below (Below.refl w8.heap.size w8).drew)
      clear o8 b8 CY GY PY2
      go_upto_region 12 with (fail)
      refine wp_region_held (S := fun W => W.rangeAt w.heap.size 0 (rv x) ∧ W.rangeAt (w.heap.size + 1) 0 (rv y)) (by kernel_rfl) ?_
      change wpAnyH _ _ _ _ _ _ _ _ w8.drew
      obtain ⟨U, hU⟩ : ∃ U, w8.drew = U := ⟨_, rfl⟩
      rw [hU] at C9 S9 ⊢
      clear hU
      refine wpAnyH_ready (rs := [0]) (by kernel_rfl) (by simp) ?_
      refine AllReadyH.cons rfl (fun K hK => ?_) AllReadyH.nil
      go_simp
      refine (otold_t U C9.out.od.ut).mono ?_
      rintro e w9 ⟨rfl, b9⟩
      have CA := Lib.hid (C9.out.below b9); have SA := Lib.hid (S9.out.below b9)
      clear b9 C9 S9
      have r1 : w9.rangeAt w.heap.size 0 (rv x) ∧ w9.rangeAt (w.heap.size + 1) 0 (rv y) := ⟨rngO CA.out.od.a, rngO CA.out.od.b⟩
      refine hK.out _ _ r1 (fun _ => ?_)
      clear hK K
      refine wpAnyH_take (i := 1) (v := ?_) rfl (by kernel_rfl) (by kernel_rfl) (by kernel_rfl) (fun _ _ _ h => h) (Or.inl ⟨by kernel_rfl, ?_⟩) r1 ?_
      rotate_left 1
      · (intro w hS; clear hS; go_simp; try (with_reducible rfl))
      refine wpAnyH_take (i := 2) (v := ?_) rfl (by kernel_rfl) (by kernel_rfl) (by kernel_rfl) (fun _ _ _ h => h) (Or.inl ⟨by kernel_rfl, ?_⟩) r1 ?_
      rotate_left 1
      · (intro w hS; clear hS; go_simp; try (with_reducible rfl))
      refine wpAnyH_take (i := 3) (v := ?_) rfl (by kernel_rfl) (by kernel_rfl) (by kernel_rfl) (fun _ _ _ h => h) (Or.inl ⟨by kernel_rfl, ?_⟩) r1 ?_
      rotate_left 1
      · (intro w hS; clear hS; go_simp; try (with_reducible rfl))
      refine wpAnyH_take (i := 4) (v := ?_) rfl (by kernel_rfl) (by kernel_rfl) (by kernel_rfl) (fun _ _ _ h => h) (Or.inl ⟨by kernel_rfl, ?_⟩) r1 ?_
      rotate_left 1
      · (intro w hS; clear hS; go_simp; try (with_reducible rfl))
      refine wpAnyH_take (i := 5) (v := ?_) rfl (by kernel_rfl) (by kernel_rfl) (by kernel_rfl) (fun _ _ _ h => h) (Or.inl ⟨by kernel_rfl, ?_⟩) r1 ?_
      rotate_left 1
      · (intro w hS; clear hS; go_simp; try (with_reducible rfl))
      refine wpAnyH_take (i := 6) (v := ?_) rfl (by kernel_rfl) (by kernel_rfl) (by kernel_rfl) (fun _ _ _ h => h) (Or.inl ⟨by kernel_rfl, ?_⟩) r1 ?_
      rotate_left 1
      · (intro w hS; clear hS; go_simp; try (with_reducible rfl))
      refine wpAnyH_take (i := 7) (v := ?_) rfl (by kernel_rfl) (by kernel_rfl) (by kernel_rfl) (fun _ _ _ h => h) (Or.inl ⟨by kernel_rfl, ?_⟩) r1 ?_
      rotate_left 1
      · (intro w hS; clear hS; go_simp; try (with_reducible rfl))
      refine wpAnyH_take (i := 8) (v := ?_) rfl (by kernel_rfl) (by kernel_rfl) (by kernel_rfl) (fun _ _ _ h => h) (Or.inl ⟨by kernel_rfl, ?_⟩) r1 ?_
      rotate_left 1
      · (intro w hS; clear hS; go_simp; try (with_reducible rfl))
      refine wpAnyH_take (i := 9) (v := ?_) rfl (by kernel_rfl) (by kernel_rfl) (by kernel_rfl) (fun _ _ _ h => h) (Or.inl ⟨by kernel_rfl, ?_⟩) r1 ?_
      rotate_left 1
      · (intro w hS; clear hS; go_simp; try (with_reducible rfl))
      refine wpAnyH_take (i := 10) (v := ?_) rfl (by kernel_rfl) (by kernel_rfl) (by kernel_rfl) (fun _ _ _ h => h) (Or.inl ⟨by kernel_rfl, ?_⟩) r1 ?_
      rotate_left 1
      · (intro w hS; clear hS; go_simp; try (with_reducible rfl))
      refine wpAnyH_take (i := 11) (v := ?_) rfl (by kernel_rfl) (by kernel_rfl) (by kernel_rfl) (fun _ _ _ h => h) (Or.inl ⟨by kernel_rfl, ?_⟩) r1 ?_
      rotate_left 1
      · (intro w hS; clear hS; go_simp; try (with_reducible rfl))
      refine wpAnyH_take (i := 12) (v := ?_) rfl (by kernel_rfl) (by kernel_rfl) (by kernel_rfl) (fun _ _ _ h => h) (Or.inl ⟨by kernel_rfl, ?_⟩) r1 ?_
      rotate_left 1
      · (intro w hS; clear hS; go_simp; try (with_reducible rfl))
      refine wpAnyH_take (i := 13) (v := ?_) rfl (by kernel_rfl) (by kernel_rfl) (by kernel_rfl) (fun _ _ _ h => h) (Or.inl ⟨by kernel_rfl, ?_⟩) r1 ?_
      rotate_left 1
      · (intro w hS; clear hS; go_simp; try (with_reducible rfl))
      refine wpAnyH_take (i := 14) (v := ?_) rfl (by kernel_rfl) (by kernel_rfl) (by kernel_rfl) (fun _ _ _ h => h) (Or.inl ⟨by kernel_rfl, ?_⟩) r1 ?_
      rotate_left 1
      · (intro w hS; clear hS; go_simp; try (with_reducible rfl))
      refine wpAnyH_take (i := 16) (v := .agg (rv x).toArray) rfl (by kernel_rfl) (by kernel_rfl) (by kernel_rfl) (fun _ _ _ h => h) (yieldsIf_load_mid (by kernel_rfl) 24 (.tmp 4) rfl w.heap.size 0 (by go_simp) (rv x) _ (fun _ h => h.1) Tryd.underlying24 rfl (rv_size x)) r1 ?_
      refine wpAnyH_take (i := 17) (v := .agg (rv y).toArray) rfl (by kernel_rfl) (by kernel_rfl) (by kernel_rfl) (fun _ _ _ h => h) (yieldsIf_load_mid (by kernel_rfl) 24 (.tmp 5) rfl (w.heap.size + 1) 0 (by go_simp) (rv y) _ (fun _ h => h.2) Tryd.underlying24 rfl (rv_size y)) r1 ?_
      refine wpAnyH_ready (rs := [15]) (by kernel_rfl) (by simp) ?_
      refine AllReadyH.cons rfl (fun K hK => ?_) AllReadyH.nil
      rw [if_pos (by kernel_rfl)]
      go_simp
      refine (same_textsT xs ys _ _ L ys.length ca c8 w9 HL.out rfl CA.out.sr SA.out PB.out PB2.out).mono ?_
      rintro e wa ⟨rfl, rfl⟩
      refine hK.out _ _ r1 (fun _ => ?_)
      clear hK K
      refine wpAnyH_ready (rs := [18]) (by kernel_rfl) (by simp) ?_
      refine AllReadyH.cons rfl (fun K hK => ?_) AllReadyH.nil
      rw [if_pos (by kernel_rfl)]
      go_simp
      refine (Same_r x y w9 CA.out.od.rx CA.out.od.ry).mono ?_
      rintro e wb ⟨rfl, bb⟩
      rw [PE.out]
      have CB := Lib.hid (CA.out.below bb)
      obtain ⟨zb, hzb⟩ : ∃ z, decide (xs = ys) = z := ⟨_, rfl⟩
      rw [hzb]
      have r2 : wb.rangeAt w.heap.size 0 (rv x) ∧ wb.rangeAt (w.heap.size + 1) 0 (rv y) := ⟨rngO CB.out.od.a, rngO CB.out.od.b⟩
      clear bb hzb CA SA PE r1
      refine hK.out _ _ r2 (fun _ => ?_)
      clear hK K
      refine wpAnyH_take (i := 19) (v := ?_) rfl (by kernel_rfl) (by kernel_rfl) (by kernel_rfl) (fun _ _ _ h => h) (Or.inl ⟨by kernel_rfl, ?_⟩) r2 ?_
      rotate_left 1
      · (intro w hS; clear hS; go_simp; try (with_reducible rfl))
      refine wpAnyH_take (i := 20) (v := ?_) rfl (by kernel_rfl) (by kernel_rfl) (by kernel_rfl) (fun _ _ _ h => h) (Or.inl ⟨by kernel_rfl, ?_⟩) r2 ?_
      rotate_left 1
      · (intro w hS; clear hS; go_simp; try (with_reducible rfl))
      refine wpAnyH_take (i := 21) (v := ?_) rfl (by kernel_rfl) (by kernel_rfl) (by kernel_rfl) (fun _ _ _ h => h) (Or.inl ⟨by kernel_rfl, ?_⟩) r2 ?_
      rotate_left 1
      · (intro w hS; clear hS; go_simp; try (with_reducible rfl))
      refine wpAnyH_take (i := 22) (v := ?_) rfl (by kernel_rfl) (by kernel_rfl) (by kernel_rfl) (fun _ _ _ h => h) (Or.inl ⟨by kernel_rfl, ?_⟩) r2 ?_
      rotate_left 1
      · (intro w hS; clear hS; go_simp; try (with_reducible rfl))
      refine wpAnyH_done (by kernel_rfl) ?_ _
      go_simp
      go_wp2_with fail
      go_ret
      exact ⟨by simp, CB.out.od.bel⟩
end Go.Proofs.YtigbnjgmdgkgjaaDoor
