/-
  THE LAW VoteBack
-/
import Derived.Test.YtlipjglehongeabGreatDoorVb42
import Derived.Test.YtlipjglehongeabGreatDoorVb44
namespace Go.Proofs.YtlipjglehongeabGreatDoor
open Go Go.RowKit Sh

structure VA (w0 W : World) (x y : Vv) : Prop where
  a : Blk W w0.heap.size 26 (vv x)
  b : Blk W (w0.heap.size + 1) 26 (vv y)
  rx : VvI W x
  ry : VvI W y
  bel : Below w0.heap.size w0 W
theorem VA.below {w0 W W' : World} {x y : Vv} (h : VA w0 W x y) (hb : Below W.heap.size W W') : VA w0 W' x y := ⟨h.a.below hb h.a.lt, h.b.below hb h.b.lt, h.rx.below hb, h.ry.below hb, h.bel.trans (hb.mono h.bel.size)⟩
set_option maxRecDepth 100000 in
set_option maxHeartbeats 4000000 in
theorem vback_t (x y : Vv) (n2 : Int) (w : World) (hx : VvI w x) (hy : VvI w y) (hi : KI w) (hk : KAt w) :
    Calls Tryz.prog 3 #[.agg (vv x).toArray, .agg (vv y).toArray, .int .i64 n2] w fun e w' => e = .returned (.bool true) ∧ Below w.heap.size w w' := by
  have A0 := Lib.hid (show VA w ((w.alloc (.cells (vv x).toArray 26)).alloc (.cells (vv y).toArray 26)) x y from by
    have b0 : Below w.heap.size w ((w.alloc (.cells (vv x).toArray 26)).alloc (.cells (vv y).toArray 26)) := ((Below.refl _ _).alloc (Nat.le_refl _) _).alloc (by simp) _
    exact ⟨(Blk.new w 26 (vv x)).alloc _, Blk.new2 w _ 26 (vv y), hx.below b0, hy.below b0, b0⟩)
  have HI := Lib.hid hi; have HK := Lib.hid hk; have HG := Lib.hid hk.lt
  have FX := Lib.hid (vv_size hx.ll); have FY := Lib.hid (vv_size hy.ll); have LX := Lib.hid hx.ll; have LY := Lib.hid hy.ll
  clear hx hy hi hk
  go_enter Tryz.func3, Tryz.ntmps3
  go_upto_region 1 with (fail)
  refine world_at (fun Y => VA w Y x y) A0.out ?_
  rintro V a1
  have A1 := Lib.hid a1
  clear a1 A0
  obtain ⟨_, _, c34⟩ := vv_cells A1.out.a LX.out
  obtain ⟨_, _, d34⟩ := vv_cells A1.out.b LY.out
  by_cases s1 : 100 < x.s.length
  · have i1 : (100 : Int) < (x.s.length : Int) := by omega
    have TD := Lib.hid (told13_t V (HI.out.kept A1.out.bel) (HK.out.below A1.out.bel HG.out))
    go_wp2_with fail
    refine TD.out.mono ?_
    rintro e wT ⟨rfl, bT⟩
    go_wp2_with fail
    go_ret
    exact ⟨rfl, A1.out.bel.trans (bT.mono A1.out.bel.size)⟩
  have i1 : ¬ ((100 : Int) < (x.s.length : Int)) := by omega
  by_cases s2 : 100 < y.s.length
  · have i2 : (100 : Int) < (y.s.length : Int) := by omega
    have TD := Lib.hid (told13_t V (HI.out.kept A1.out.bel) (HK.out.below A1.out.bel HG.out))
    go_wp2_with fail
    refine TD.out.mono ?_
    rintro e wT ⟨rfl, bT⟩
    go_wp2_with fail
    go_ret
    exact ⟨rfl, A1.out.bel.trans (bT.mono A1.out.bel.size)⟩
  have i2 : ¬ ((100 : Int) < (y.s.length : Int)) := by omega
  have WX := Lib.hid (A1.out.rx.w (by omega)); have WY := Lib.hid (A1.out.ry.w (by omega))
  have PT := Lib.hid (vPut_t x V WX.out)
  have PY := Lib.hid (fun W h => vPut_t y W h)
  obtain ⟨ey, hey⟩ : ∃ n, erV y = n := ⟨_, rfl⟩
  obtain ⟨bl, hbl⟩ : ∃ l, byV y = l := ⟨_, rfl⟩
  rw [hey, hbl] at PY
  have HEY := Lib.hid hey; have HBL := Lib.hid hbl
  clear hey hbl
  unfold erV byV at PT
  obtain ⟨mb, hmb⟩ : ∃ b, mayVo x.vt = b := ⟨_, rfl⟩
  rw [hmb] at PT
  have HM := Lib.hid hmb
  have GA := Lib.hid A1.out.a
  clear hmb s1 s2
  cases mb with
  | false =>
    rw [if_neg (by decide), if_neg (by decide)] at PT
    go_wp2_with ((with_reducible refine load_blk 26 (.tmp 3) w.heap.size 26 (vv x) _ rfl rfl ?_ Tryz.underlying26 ?_ ?_ ?_ ?_); exact GA.out; exact rfl; exact FX.out; exact rfl)
    refine PT.out.mono ?_
    rintro e w3 ⟨u, rfl, fr⟩
    have A2 := Lib.hid (A1.out.below fr.2)
    clear fr PT A1 GA WX WY c34 d34
    have TD := Lib.hid (told13_t w3 (HI.out.kept A2.out.bel) (HK.out.below A2.out.bel HG.out))
    go_wp2_with fail
    refine TD.out.mono ?_
    rintro e wT ⟨rfl, bT⟩
    go_wp2_with fail
    go_ret
    exact ⟨rfl, A2.out.bel.trans (bT.mono A2.out.bel.size)⟩
  | true =>
  rw [if_pos rfl, if_pos rfl] at PT
  go_wp2_with ((with_reducible refine load_blk 26 (.tmp 3) w.heap.size 26 (vv x) _ rfl rfl ?_ Tryz.underlying26 ?_ ?_ ?_ ?_); exact GA.out; exact rfl; exact FX.out; exact rfl)
  refine PT.out.mono ?_
  rintro e w3 ⟨u, rfl, fr⟩
  have PL := Lib.hid (show (putV x.vt).length = 41 + x.s.length from putV_le WX.out.ll)
  have PB := Lib.hid (show Bytes (putV x.vt) from app_bytes (beN_bytes _ _) (app_bytes (beN_bytes _ _) (app_bytes WX.out.lb (app_bytes (beN_bytes _ _) WX.out.sb))))
  have VL := Lib.hid (show x.vt.l.length = 32 from LX.out)
  have FO := Lib.hid (frontV_ok HM.out VL.out)
  have TK := Lib.hid (fun j (hj : j < (putV x.vt).length) => take_noV HM.out VL.out PB.out hj)
  have INJ := Lib.hid (fun (h : mayVo y.vt = true) => putV_inj HM.out VL.out h (show y.vt.l.length = 32 from LY.out))
  obtain ⟨xs, hxs⟩ : ∃ l, putV x.vt = l := ⟨_, rfl⟩
  rw [hxs] at fr PL PB FO
  simp only [hxs] at TK INJ
  obtain ⟨L, hL⟩ : ∃ L, xs.length = L := ⟨_, rfl⟩
  simp only [hL] at TK
  rw [hL] at PL
  have L0 : 0 < L := by have := PL.out; omega
  have L9 : L ≤ 200 := by have := PL.out; omega
  have HL := Lib.hid hL
  have fr1 := fr.1
  rw [hL] at fr1
  obtain ⟨ga, c5, hu, hc5⟩ := own_formTX fr1 L0
  subst hu
  have S2 := Lib.hid (Sr.of_own fr1); have HC5 := Lib.hid hc5
  have A2 := Lib.hid (A1.out.below fr.2); have WX2 := Lib.hid (WX.out.below fr.2); have WY2 := Lib.hid (WY.out.below fr.2)
  obtain ⟨k, hkk, hke⟩ := mod_bigTX L L0 (by omega) n2
  have HKL := Lib.hid hkk; have HKE := Lib.hid hke
  clear fr fr1 hc5 PT A1 GA WX WY c34 d34 i1 i2 hxs hL hkk hke
  have GT := Lib.hid (vGet_t xs (some ⟨ga, 0, none⟩) L c5 w3 HL.out S2.out PB.out (by omega))
  go_wp2_with fail
  refine GT.out.mono ?_
  rintro e w4 ⟨b4, hh⟩
  obtain ⟨z, hz, rfl, wz⟩ : ∃ z : Vv, z.vt = x.vt ∧ e = .returned (.tuple #[.agg (vv z).toArray, .int .i64 0]) ∧ VvW w4 z := by
    rcases hh with ⟨h1, _⟩ | ⟨_, y, h1, h2, h3⟩
    · rw [FO.out.2] at h1; cases h1
    · exact ⟨y, h1.trans FO.out.1, h2, h3⟩
  have A3 := Lib.hid (A2.out.below b4); have WX3 := Lib.hid (WX2.out.below b4); have WY3 := Lib.hid (WY2.out.below b4); have S3 := Lib.hid (S2.out.below b4); have HZ := Lib.hid hz; have WZ := Lib.hid wz
  clear hh GT b4 hz wz A2 WX2 WY2 S2 FO
  have FX_z := Lib.hid (vv_size (x := z) WZ.out.ll); have FO_z := Lib.hid (vv_one z)
  have L_z := Lib.hid (show (vv zVv).length = (vv z).length from by rw [vv_len WZ.out.ll, vv_len (x := zVv) rfl])
  have Z_z := Lib.hid (Blk.new w4 26 (vv zVv))
  have K_z := Lib.hid (Z_z.out.setRow (vv z))
  have B_z := Lib.hid (below_setRow ((Below.refl (w4).heap.size w4).alloc (Nat.le_refl _) (.cells (vv zVv).toArray 26)) (Nat.le_refl _) (vv z).toArray)
  go_upto_region 7 with ((with_reducible refine at_op (.store 26 (.tmp 9) (.tmp 41)) rfl ?_); go_must (refine store_blk 26 (.tmp 9) (.tmp 41) (w4).heap.size 26 (vv zVv) (vv z) rfl rfl Z_z.out L_z.out FX_z.out FO_z.out rfl rfl ?_))
  obtain ⟨V4, hV4⟩ : ∃ V, ((w4).alloc (.cells (vv zVv).toArray 26)).setRow (w4).heap.size (vv z).toArray = V := ⟨_, rfl⟩
  change Code.wp _ _ _ _ (((w4).alloc (.cells (vv zVv).toArray 26)).setRow (w4).heap.size (vv z).toArray)
  rw [hV4] at K_z B_z ⊢
  clear hV4 Z_z FO_z L_z
  obtain ⟨g9, hg9⟩ : ∃ g, w4.heap.size = g := ⟨_, rfl⟩
  rw [hg9] at K_z ⊢
  have A4 := Lib.hid (A3.out.below B_z.out); have WX4 := Lib.hid (WX3.out.below B_z.out); have WY4 := Lib.hid (WY3.out.below B_z.out); have S4 := Lib.hid (S3.out.below B_z.out); have WZ4 := Lib.hid (WZ.out.below B_z.out)
  clear hg9 B_z A3 WX3 WY3 S3 WZ
  have GB := Lib.hid A4.out.b
  go_wp2_with ((with_reducible refine load_blk 26 (.tmp 4) (w.heap.size + 1) 26 (vv y) _ rfl rfl ?_ Tryz.underlying26 ?_ ?_ ?_ ?_); exact GB.out; exact rfl; exact FY.out; exact rfl)
  refine (PY.out V4 WY4.out).mono ?_
  rintro e w5 ⟨u, rfl, fr⟩
  have O5 := Lib.hid fr.1
  have A5 := Lib.hid (A4.out.below fr.2); have WX5 := Lib.hid (WX4.out.below fr.2); have WY5 := Lib.hid (WY4.out.below fr.2); have S5 := Lib.hid (S4.out.below fr.2); have WZ5 := Lib.hid (WZ4.out.below fr.2); have K5 := Lib.hid (K_z.out.below fr.2 K_z.out.lt)
  clear fr PY A4 WX4 WY4 S4 WZ4 K_z GB
  have GA := Lib.hid A5.out.a
  have SM := Lib.hid (vSame_t z x w5 WZ5.out WX5.out)
  rw [HZ.out, sameV_iff.2 rfl] at SM
  have iL : ((L : Int) == 0) = false := by rw [beq_eq_false_iff_ne]; omega
  go_wp2_with (first
    | ((with_reducible refine load_blk_gdO 51 26 (.tmp 9) g9 26 (vv z) _ ?_ ?_ rfl ?_ Tryz.underlying26 ?_ ?_ ?_ ?_); exact rfl; kernel_rfl; exact K5.out; exact rfl; exact FX_z.out; exact rfl)
    | ((with_reducible refine load_blk_gdO 52 26 (.tmp 3) w.heap.size 26 (vv x) _ ?_ ?_ rfl ?_ Tryz.underlying26 ?_ ?_ ?_ ?_); exact rfl; kernel_rfl; exact GA.out; exact rfl; exact FX.out; exact rfl))
  refine SM.out.mono ?_
  rintro e w6 ⟨rfl, b6⟩
  have O6 := Lib.hid (own_below O5.out b6); have A6 := Lib.hid (A5.out.below b6); have WX6 := Lib.hid (WX5.out.below b6); have WY6 := Lib.hid (WY5.out.below b6); have S6 := Lib.hid (S5.out.below b6)
  clear b6 SM O5 A5 WX5 WY5 S5 WZ5 K5 GA FX_z
  have i3 : (L : Int) ≠ 0 := by omega
  have i4 : IntKind.u64.wrap (L : Int) = (L : Int) := IntWalk.u64_in _ (by omega)
  have hke := HKE.out
  have hs1 := slice_high (P := Tryz.prog) (t := 24) (e := 5) Tryz.underlying24 byte_size (some ⟨ga, 0, none⟩) L c5 .i64 k (by have := HKL.out; have := HC5.out; omega)
  go_wp2_with fail
  clear i3 i4 hke hs1 iL
  have HTL := Lib.hid (show (xs.take k).length = k by rw [List.length_take, HL.out]; have := HKL.out; omega)
  refine (vGet_t (xs.take k) _ k c5 w6 HTL.out (S6.out.take k) (bytes_take PB.out k) (by have := HKL.out; omega)).mono ?_
  rintro e w7 ⟨b7, hh⟩
  rcases hh with ⟨_, rfl⟩ | ⟨hbad, _⟩
  rotate_left 1
  · rw [TK.out k HKL.out] at hbad; cases hbad
  have O7 := Lib.hid (own_below O6.out b7); have A7 := Lib.hid (A6.out.below b7); have WX7 := Lib.hid (WX6.out.below b7); have WY7 := Lib.hid (WY6.out.below b7); have S7 := Lib.hid (S6.out.below b7)
  clear b7 HTL O6 A6 WX6 WY6 S6 TK
  obtain ⟨zA, hzA⟩ : ∃ y, zVv = y := ⟨_, rfl⟩
  have WA := Lib.hid (show VvW w7 zA from by rw [← hzA]; exact zVv_w w7)
  rw [hzA]
  have HZA := Lib.hid hzA
  clear hzA
  have FX_zA := Lib.hid (vv_size (x := zA) WA.out.ll); have FO_zA := Lib.hid (vv_one zA)
  have L_zA := Lib.hid (show (vv zVv).length = (vv zA).length from by rw [vv_len WA.out.ll, vv_len (x := zVv) rfl])
  have Z_zA := Lib.hid (Blk.new w7 26 (vv zVv))
  have K_zA := Lib.hid (Z_zA.out.setRow (vv zA))
  have B_zA := Lib.hid (below_setRow ((Below.refl (w7).heap.size w7).alloc (Nat.le_refl _) (.cells (vv zVv).toArray 26)) (Nat.le_refl _) (vv zA).toArray)
  go_upto_region 11 with ((with_reducible refine at_op (.store 26 (.tmp 13) (.tmp 72)) rfl ?_); go_must (refine store_blk 26 (.tmp 13) (.tmp 72) (w7).heap.size 26 (vv zVv) (vv zA) rfl rfl Z_zA.out L_zA.out FX_zA.out FO_zA.out rfl rfl ?_))
  obtain ⟨V7, hV7⟩ : ∃ V, ((w7).alloc (.cells (vv zVv).toArray 26)).setRow (w7).heap.size (vv zA).toArray = V := ⟨_, rfl⟩
  change Code.wp _ _ _ _ (((w7).alloc (.cells (vv zVv).toArray 26)).setRow (w7).heap.size (vv zA).toArray)
  rw [hV7] at K_zA B_zA ⊢
  clear hV7 Z_zA FO_zA L_zA
  obtain ⟨U, hU⟩ : ∃ U, V7.drew = U := ⟨_, rfl⟩
  have BU := Lib.hid (show Below w7.heap.size w7 U from by rw [← hU]; exact B_zA.out.drew)
  have AU := Lib.hid (A7.out.below BU.out); have WXU := Lib.hid (WX7.out.below BU.out); have WYU := Lib.hid (WY7.out.below BU.out); have SXU := Lib.hid (S7.out.below BU.out); have OU := Lib.hid (own_below O7.out BU.out)
  clear O7 A7 WX7 WY7 S7 WA B_zA K_zA FX_zA BU HZA
  have SU := Lib.hid (fun (Y : World) (h : VA w Y x y) => show Blk Y w.heap.size 26 (vv x) ∧ Blk Y (w.heap.size + 1) 26 (vv y) from ⟨h.a, h.b⟩)
  have s0 := SU.out U AU.out
  have TD := Lib.hid (told13_t U (HI.out.kept AU.out.bel) (HK.out.below AU.out.bel HG.out))
  refine wp_region_held (S := fun Y => Blk Y w.heap.size 26 (vv x) ∧ Blk Y (w.heap.size + 1) 26 (vv y)) (by kernel_rfl) ?_
  change wpAnyH _ _ _ _ _ _ _ _ V7.drew
  rw [hU]
  clear hU
  obtain ⟨my, hmy⟩ : ∃ b, mayVo y.vt = b := ⟨_, rfl⟩
  have HMY := Lib.hid hmy
  cases my with
  | false =>
    have e1 : ey = 1 := by rw [← HEY.out]; exact if_neg (by rw [hmy]; decide)
    subst e1
    clear hmy
    go_simp
    refine wpAnyH_ready (rs := [0]) (by kernel_rfl) (by simp) ?_
    refine AllReadyH.cons rfl (fun K hK => ?_) AllReadyH.nil
    rw [if_pos (by kernel_rfl)]
    go_simp
    refine TD.out.mono ?_
    rintro e w8 ⟨rfl, b8⟩
    have A8 := Lib.hid (AU.out.below b8)
    have s0 := SU.out _ A8.out
    refine hK.out _ _ s0 (fun _ => ?_)
    clear hK K b8
    refine wpAnyH_take (i := 1) (v := ?_) rfl (by kernel_rfl) (by kernel_rfl) (by kernel_rfl) (fun _ _ _ h => h) (Or.inl ⟨by kernel_rfl, ?_⟩) s0 ?_
    rotate_left 1
    · (intro w hS; clear hS; go_simp; try (with_reducible rfl))
    refine wpAnyH_take (i := 2) (v := ?_) rfl (by kernel_rfl) (by kernel_rfl) (by kernel_rfl) (fun _ _ _ h => h) (Or.inl ⟨by kernel_rfl, ?_⟩) s0 ?_
    rotate_left 1
    · (intro w hS; clear hS; go_simp; try (with_reducible rfl))
    refine wpAnyH_take (i := 3) (v := ?_) rfl (by kernel_rfl) (by kernel_rfl) (by kernel_rfl) (fun _ _ _ h => h) (Or.inl ⟨by kernel_rfl, ?_⟩) s0 ?_
    rotate_left 1
    · (intro w hS; clear hS; go_simp; try (with_reducible rfl))
    refine wpAnyH_take (i := 4) (v := ?_) rfl (by kernel_rfl) (by kernel_rfl) (by kernel_rfl) (fun _ _ _ h => h) (Or.inl ⟨by kernel_rfl, ?_⟩) s0 ?_
    rotate_left 1
    · (intro w hS; clear hS; go_simp; try (with_reducible rfl))
    refine wpAnyH_take (i := 5) (v := ?_) rfl (by kernel_rfl) (by kernel_rfl) (by kernel_rfl) (fun _ _ _ h => h) (Or.inl ⟨by kernel_rfl, ?_⟩) s0 ?_
    rotate_left 1
    · (intro w hS; clear hS; go_simp; try (with_reducible rfl))
    refine wpAnyH_take (i := 6) (v := ?_) rfl (by kernel_rfl) (by kernel_rfl) (by kernel_rfl) (fun _ _ _ h => h) (Or.inl ⟨by kernel_rfl, ?_⟩) s0 ?_
    rotate_left 1
    · (intro w hS; clear hS; go_simp; try (with_reducible rfl))
    refine wpAnyH_take (i := 7) (v := ?_) rfl (by kernel_rfl) (by kernel_rfl) (by kernel_rfl) (fun _ _ _ h => h) (Or.inl ⟨by kernel_rfl, ?_⟩) s0 ?_
    rotate_left 1
    · (intro w hS; clear hS; go_simp; try (with_reducible rfl))
    refine wpAnyH_take (i := 8) (v := ?_) rfl (by kernel_rfl) (by kernel_rfl) (by kernel_rfl) (fun _ _ _ h => h) (Or.inl ⟨by kernel_rfl, ?_⟩) s0 ?_
    rotate_left 1
    · (intro w hS; clear hS; go_simp; try (with_reducible rfl))
    refine wpAnyH_take (i := 9) (v := undef) rfl (by kernel_rfl) (by kernel_rfl) (by kernel_rfl) (fun _ _ _ h => h) (Or.inr ⟨by kernel_rfl, rfl⟩) s0 ?_
    refine wpAnyH_take (i := 10) (v := undef) rfl (by kernel_rfl) (by kernel_rfl) (by kernel_rfl) (fun _ _ _ h => h) (Or.inr ⟨by kernel_rfl, rfl⟩) s0 ?_
    refine wpAnyH_take (i := 11) (v := undef) rfl (by kernel_rfl) (by kernel_rfl) (by kernel_rfl) (fun _ _ _ h => h) (Or.inr ⟨by kernel_rfl, rfl⟩) s0 ?_
    refine wpAnyH_take (i := 12) (v := undef) rfl (by kernel_rfl) (by kernel_rfl) (by kernel_rfl) (fun _ _ _ h => h) (Or.inr ⟨by kernel_rfl, rfl⟩) s0 ?_
    refine wpAnyH_take (i := 13) (v := undef) rfl (by kernel_rfl) (by kernel_rfl) (by kernel_rfl) (fun _ _ _ h => h) (Or.inr ⟨by kernel_rfl, rfl⟩) s0 ?_
    refine wpAnyH_take (i := 14) (v := undef) rfl (by kernel_rfl) (by kernel_rfl) (by kernel_rfl) (fun _ _ _ h => h) (Or.inr ⟨by kernel_rfl, rfl⟩) s0 ?_
    refine wpAnyH_take (i := 15) (v := undef) rfl (by kernel_rfl) (by kernel_rfl) (by kernel_rfl) (fun _ _ _ h => h) (Or.inr ⟨by kernel_rfl, rfl⟩) s0 ?_
    refine wpAnyH_take (i := 16) (v := ?_) rfl (by kernel_rfl) (by kernel_rfl) (by kernel_rfl) (fun _ _ _ h => h) (Or.inl ⟨by kernel_rfl, ?_⟩) s0 ?_
    rotate_left 1
    · (intro w hS; clear hS; go_simp; try (with_reducible rfl))
    refine wpAnyH_take (i := 17) (v := ?_) rfl (by kernel_rfl) (by kernel_rfl) (by kernel_rfl) (fun _ _ _ h => h) (Or.inl ⟨by kernel_rfl, ?_⟩) s0 ?_
    rotate_left 1
    · (intro w hS; clear hS; go_simp; try (with_reducible rfl))
    refine wpAnyH_take (i := 18) (v := ?_) rfl (by kernel_rfl) (by kernel_rfl) (by kernel_rfl) (fun _ _ _ h => h) (Or.inl ⟨by kernel_rfl, ?_⟩) s0 ?_
    rotate_left 1
    · (intro w hS; clear hS; go_simp; try (with_reducible rfl))
    refine wpAnyH_done (by kernel_rfl) ?_ _
    go_simp
    go_wp2_with fail
    go_ret
    exact ⟨rfl, A8.out.bel⟩
  | true =>
    have e1 : ey = 0 := by rw [← HEY.out]; exact if_pos hmy
    have e2 : bl = putV y.vt := by rw [← HBL.out]; exact if_pos hmy
    subst e1
    rw [e2] at OU
    clear e2
    have PBY := Lib.hid (show Bytes (putV y.vt) from app_bytes (beN_bytes _ _) (app_bytes (beN_bytes _ _) (app_bytes WYU.out.lb (app_bytes (beN_bytes _ _) WYU.out.sb))))
    have IN := Lib.hid (INJ.out hmy)
    obtain ⟨ys, hys⟩ : ∃ l, putV y.vt = l := ⟨_, rfl⟩
    rw [hys] at OU PBY IN
    obtain ⟨B2, c2, hu2, _⟩ := own_form OU.out
    subst hu2
    have SYU := Lib.hid (Sr.of_own OU.out)
    obtain ⟨sb, hsb⟩ : ∃ b, decide (xs = ys) = b := ⟨_, rfl⟩
    have SV := Lib.hid (show sameV x.vt y.vt = sb from by rw [← hsb, Bool.eq_iff_iff, sameV_iff, decide_eq_true_iff]; exact IN.out.symm)
    have CT := Lib.hid (fun (Y : World) (h1 : Sr Y (some ⟨ga, 0, none⟩) xs) (h2 : Sr Y B2 ys) => same_textsTX xs ys _ _ L ys.length c5 c2 Y HL.out rfl h1 h2 PB.out PBY.out)
    have SM := Lib.hid (fun (Y : World) (h1 : VvW Y x) (h2 : VvW Y y) => vSame_t x y Y h1 h2)
    rw [hsb] at CT
    rw [SV.out] at SM
    clear hmy hys hsb OU IN
    go_simp
    refine wpAnyH_ready (rs := [0]) (by kernel_rfl) (by simp) ?_
    refine AllReadyH.cons rfl (fun K hK => ?_) AllReadyH.nil
    rw [if_pos (by kernel_rfl)]
    go_simp
    refine TD.out.mono ?_
    rintro e w8 ⟨rfl, b8⟩
    have A8 := Lib.hid (AU.out.below b8); have WX8 := Lib.hid (WXU.out.below b8); have WY8 := Lib.hid (WYU.out.below b8); have SX8 := Lib.hid (SXU.out.below b8); have SY8 := Lib.hid (SYU.out.below b8)
    have s0 := SU.out _ A8.out
    refine hK.out _ _ s0 (fun _ => ?_)
    clear hK K b8
    refine wpAnyH_take (i := 1) (v := ?_) rfl (by kernel_rfl) (by kernel_rfl) (by kernel_rfl) (fun _ _ _ h => h) (Or.inl ⟨by kernel_rfl, ?_⟩) s0 ?_
    rotate_left 1
    · (intro w hS; clear hS; go_simp; try (with_reducible rfl))
    refine wpAnyH_take (i := 2) (v := ?_) rfl (by kernel_rfl) (by kernel_rfl) (by kernel_rfl) (fun _ _ _ h => h) (Or.inl ⟨by kernel_rfl, ?_⟩) s0 ?_
    rotate_left 1
    · (intro w hS; clear hS; go_simp; try (with_reducible rfl))
    refine wpAnyH_take (i := 3) (v := ?_) rfl (by kernel_rfl) (by kernel_rfl) (by kernel_rfl) (fun _ _ _ h => h) (Or.inl ⟨by kernel_rfl, ?_⟩) s0 ?_
    rotate_left 1
    · (intro w hS; clear hS; go_simp; try (with_reducible rfl))
    refine wpAnyH_take (i := 4) (v := ?_) rfl (by kernel_rfl) (by kernel_rfl) (by kernel_rfl) (fun _ _ _ h => h) (Or.inl ⟨by kernel_rfl, ?_⟩) s0 ?_
    rotate_left 1
    · (intro w hS; clear hS; go_simp; try (with_reducible rfl))
    refine wpAnyH_take (i := 5) (v := ?_) rfl (by kernel_rfl) (by kernel_rfl) (by kernel_rfl) (fun _ _ _ h => h) (Or.inl ⟨by kernel_rfl, ?_⟩) s0 ?_
    rotate_left 1
    · (intro w hS; clear hS; go_simp; try (with_reducible rfl))
    refine wpAnyH_take (i := 6) (v := ?_) rfl (by kernel_rfl) (by kernel_rfl) (by kernel_rfl) (fun _ _ _ h => h) (Or.inl ⟨by kernel_rfl, ?_⟩) s0 ?_
    rotate_left 1
    · (intro w hS; clear hS; go_simp; try (with_reducible rfl))
    refine wpAnyH_take (i := 7) (v := ?_) rfl (by kernel_rfl) (by kernel_rfl) (by kernel_rfl) (fun _ _ _ h => h) (Or.inl ⟨by kernel_rfl, ?_⟩) s0 ?_
    rotate_left 1
    · (intro w hS; clear hS; go_simp; try (with_reducible rfl))
    refine wpAnyH_take (i := 8) (v := ?_) rfl (by kernel_rfl) (by kernel_rfl) (by kernel_rfl) (fun _ _ _ h => h) (Or.inl ⟨by kernel_rfl, ?_⟩) s0 ?_
    rotate_left 1
    · (intro w hS; clear hS; go_simp; try (with_reducible rfl))
    refine wpAnyH_take (i := 9) (v := ?_) rfl (by kernel_rfl) (by kernel_rfl) (by kernel_rfl) (fun _ _ _ h => h) (Or.inl ⟨by kernel_rfl, ?_⟩) s0 ?_
    rotate_left 1
    · (intro w hS; clear hS; go_simp; try (with_reducible rfl))
    refine wpAnyH_take (i := 10) (v := ?_) rfl (by kernel_rfl) (by kernel_rfl) (by kernel_rfl) (fun _ _ _ h => h) (Or.inl ⟨by kernel_rfl, ?_⟩) s0 ?_
    rotate_left 1
    · (intro w hS; clear hS; go_simp; try (with_reducible rfl))
    refine wpAnyH_take (i := 12) (v := .agg (vv x).toArray) rfl (by kernel_rfl) (by kernel_rfl) (by kernel_rfl) (fun _ _ _ h => h) (yieldsIf_load_mid (by kernel_rfl) 26 (.tmp 3) rfl w.heap.size 0 (by go_simp) (vv x) _ (fun _ h => rows_of_blk h.1) Tryz.underlying26 rfl (FX.out)) s0 ?_
    refine wpAnyH_take (i := 13) (v := .agg (vv y).toArray) rfl (by kernel_rfl) (by kernel_rfl) (by kernel_rfl) (fun _ _ _ h => h) (yieldsIf_load_mid (by kernel_rfl) 26 (.tmp 4) rfl (w.heap.size + 1) 0 (by go_simp) (vv y) _ (fun _ h => rows_of_blk h.2) Tryz.underlying26 rfl (FY.out)) s0 ?_
    refine wpAnyH_ready (rs := [11]) (by kernel_rfl) (by simp) ?_
    refine AllReadyH.cons rfl (fun K hK => ?_) AllReadyH.nil
    rw [if_pos (by kernel_rfl)]
    go_simp
    refine (CT.out w8 SX8.out SY8.out).mono ?_
    rintro e w9 ⟨rfl, rfl⟩
    refine hK.out _ _ s0 (fun _ => ?_)
    clear hK K
    try go_simp
    refine wpAnyH_ready (rs := [14]) (by kernel_rfl) (by simp) ?_
    refine AllReadyH.cons rfl (fun K hK => ?_) AllReadyH.nil
    rw [if_pos (by kernel_rfl)]
    go_simp
    refine (SM.out w8 WX8.out WY8.out).mono ?_
    rintro e w9 ⟨rfl, b_⟩
    have A9 := Lib.hid (A8.out.below b_)
    have s0 := SU.out _ A9.out
    refine hK.out _ _ s0 (fun _ => ?_)
    clear hK K b_
    refine wpAnyH_take (i := 15) (v := ?_) rfl (by kernel_rfl) (by kernel_rfl) (by kernel_rfl) (fun _ _ _ h => h) (Or.inl ⟨by kernel_rfl, ?_⟩) s0 ?_
    rotate_left 1
    · (intro w hS; clear hS; go_simp; try (with_reducible rfl))
    refine wpAnyH_take (i := 16) (v := ?_) rfl (by kernel_rfl) (by kernel_rfl) (by kernel_rfl) (fun _ _ _ h => h) (Or.inl ⟨by kernel_rfl, ?_⟩) s0 ?_
    rotate_left 1
    · (intro w hS; clear hS; go_simp; try (with_reducible rfl))
    refine wpAnyH_take (i := 17) (v := ?_) rfl (by kernel_rfl) (by kernel_rfl) (by kernel_rfl) (fun _ _ _ h => h) (Or.inl ⟨by kernel_rfl, ?_⟩) s0 ?_
    rotate_left 1
    · (intro w hS; clear hS; go_simp; try (with_reducible rfl))
    refine wpAnyH_take (i := 18) (v := ?_) rfl (by kernel_rfl) (by kernel_rfl) (by kernel_rfl) (fun _ _ _ h => h) (Or.inl ⟨by kernel_rfl, ?_⟩) s0 ?_
    rotate_left 1
    · (intro w hS; clear hS; go_simp; try (with_reducible rfl))
    refine wpAnyH_done (by kernel_rfl) ?_ _
    go_simp
    go_wp2_with fail
    go_ret
    exact ⟨by simp, A9.out.bel⟩
end Go.Proofs.YtlipjglehongeabGreatDoor
