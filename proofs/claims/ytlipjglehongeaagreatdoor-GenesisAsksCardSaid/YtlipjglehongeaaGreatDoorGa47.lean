/-
  THE LAW GenesisAsks
-/
import Derived.Test.YtlipjglehongeaaGreatDoorGa46
import Derived.Test.YtlipjglehongeaaGreatDoorGa41
namespace Go.Proofs.YtlipjglehongeaaGreatDoor
open Go Go.RowKit Sh

structure A10 (w0 W : World) (x y : Gv) (p : Option Addr) (xs : List Nat) : Prop where
  a : Blk W w0.heap.size 25 (gv x)
  b : Blk W (w0.heap.size + 1) 25 (gv y)
  rx : GvI W x
  ry : GvI W y
  p : Sr W p xs
  bel : Below w0.heap.size w0 W
theorem A10.below {w0 W W' : World} {x y : Gv} {p : Option Addr} {xs : List Nat} (h : A10 w0 W x y p xs) (hb : Below W.heap.size W W') : A10 w0 W' x y p xs :=
  ⟨h.a.below hb h.a.lt, h.b.below hb h.b.lt, h.rx.below hb, h.ry.below hb, h.p.below hb, h.bel.trans (hb.mono h.bel.size)⟩
set_option maxRecDepth 100000 in
set_option maxHeartbeats 8000000 in
theorem gasks_t (x y : Gv) (xs : List Nat) (p : Option Addr) (m c : Nat) (w : World) (hx : GvI w x) (hy : GvI w y) (hm : xs.length = m) (hc : m ≤ c) (hp : Sr w p xs) (hb : Bytes xs) (hml : c ≤ maxLen) (hi : KI w) (hk : KAt w) :
    Calls Tryz.prog 3 #[.agg (gv x).toArray, .agg (gv y).toArray, .slice p m c] w fun e w' => e = .returned (.bool true) ∧ Below w.heap.size w w' := by
  obtain ⟨V, hV⟩ : ∃ V, (w.alloc (.cells (gv x).toArray 25)).alloc (.cells (gv y).toArray 25) = V := ⟨_, rfl⟩
  have A0 := Lib.hid (show A10 w V x y p xs from by
    have b0 : Below w.heap.size w V := by rw [← hV]; exact ((Below.refl _ _).alloc (Nat.le_refl _) _).alloc (by simp) _
    exact ⟨by rw [← hV]; exact (Blk.new w 25 (gv x)).alloc _, by rw [← hV]; exact Blk.new2 w _ 25 (gv y), hx.below b0, hy.below b0, hp.below b0, b0⟩)
  have FX := Lib.hid (gv_size x); have FY := Lib.hid (gv_size y)
  have HI := Lib.hid hi; have HK := Lib.hid hk; have HG := Lib.hid hk.lt
  have HXL := Lib.hid hm; have HC := Lib.hid hc; have HXB := Lib.hid hb
  have mlen : m ≤ 9223372036854775807 := by unfold maxLen at hml; omega
  clear hx hy hp hi hk hm hc hb hml
  go_enter Tryz.func3, Tryz.ntmps3
  go_upto_region 1 with (fail)
  clear hV
  have F1 := Lib.hid (fewG_t x V A0.out.rx.ks)
  have A0a := Lib.hid A0.out.a
  go_wp2_with ((with_reducible refine load_blk 25 (.tmp 3) w.heap.size 25 (gv x) _ rfl rfl ?_ Tryz.underlying25 ?_ ?_ ?_ ?_); exact A0a.out; exact rfl; exact FX.out; exact rfl)
  refine F1.out.mono ?_
  rintro e w1 ⟨⟨f1, rfl, h1⟩, b1⟩
  have A1 := Lib.hid (A0.out.below b1); have H1 := Lib.hid h1
  clear A0 A0a F1 b1 h1
  cases f1 with
  | false =>
    have TD := Lib.hid (told10_t w1 (HI.out.kept A1.out.bel))
    go_wp2_with fail
    refine TD.out.mono ?_
    rintro e wT ⟨rfl, bT⟩
    go_wp2_with fail
    go_ret
    exact ⟨rfl, A1.out.bel.trans (bT.mono A1.out.bel.size)⟩
  | true =>
  have HFX := Lib.hid (H1.out rfl)
  clear H1
  have F2 := Lib.hid (fewG_t y w1 A1.out.ry.ks)
  have A1b := Lib.hid A1.out.b
  go_wp2_with ((with_reducible refine load_blk_gdO 18 25 (.tmp 4) (w.heap.size + 1) 25 (gv y) _ ?_ ?_ rfl ?_ Tryz.underlying25 ?_ ?_ ?_ ?_); exact rfl; kernel_rfl; exact A1b.out; exact rfl; exact FY.out; exact rfl)
  refine F2.out.mono ?_
  rintro e w2 ⟨⟨f2, rfl, h2⟩, b2⟩
  have A2 := Lib.hid (A1.out.below b2); have H2 := Lib.hid h2
  clear A1 A1b F2 b2 h2
  cases f2 with
  | false =>
    have TD := Lib.hid (told10_t w2 (HI.out.kept A2.out.bel))
    go_wp2_with fail
    refine TD.out.mono ?_
    rintro e wT ⟨rfl, bT⟩
    go_wp2_with fail
    go_ret
    exact ⟨rfl, A2.out.bel.trans (bT.mono A2.out.bel.size)⟩
  | true =>
  have HFY := Lib.hid (H2.out rfl)
  clear H2
  by_cases h800 : 800 < m
  · have i8 : (800 : Int) < (m : Int) := by omega
    have TD := Lib.hid (told10_t w2 (HI.out.kept A2.out.bel))
    go_wp2_with fail
    refine TD.out.mono ?_
    rintro e wT ⟨rfl, bT⟩
    go_wp2_with fail
    go_ret
    exact ⟨rfl, A2.out.bel.trans (bT.mono A2.out.bel.size)⟩
  have i8 : ¬ ((800 : Int) < (m : Int)) := by omega
  have WX2 := Lib.hid (A2.out.rx.w (by have := HFX.out.2.1; omega))
  have MT := Lib.hid (gMayR_t x w2 WX2.out.1 WX2.out.2)
  have A2a := Lib.hid A2.out.a
  go_wp2_with ((with_reducible refine load_blk 25 (.tmp 3) w.heap.size 25 (gv x) _ rfl rfl ?_ Tryz.underlying25 ?_ ?_ ?_ ?_); exact A2a.out; exact rfl; exact FX.out; exact rfl)
  refine MT.out.mono ?_
  rintro e w3 ⟨rfl, b3⟩
  have A3 := Lib.hid (A2.out.below b3); have WX3 := Lib.hid (And.intro (WX2.out.1.below b3) WX2.out.2)
  clear A2 A2a MT b3 WX2 i8
  have PT := Lib.hid (gPut_t x w3 WX3.out.1 (HI.out.kept A3.out.bel))
  unfold erP byP at PT
  have MY := Lib.hid (fun W h1 h2 => gMay_t x W h1 h2)
  obtain ⟨mb, hmb⟩ : ∃ b, begB x = b := ⟨_, rfl⟩
  rw [hmb] at PT MY ⊢
  have HM := Lib.hid hmb
  clear hmb
  have A3a := Lib.hid A3.out.a
  cases mb with
  | false =>
    rw [if_neg (by decide), if_neg (by decide)] at PT
    go_wp2_with ((with_reducible refine load_blk 25 (.tmp 3) w.heap.size 25 (gv x) _ rfl rfl ?_ Tryz.underlying25 ?_ ?_ ?_ ?_); exact A3a.out; exact rfl; exact FX.out; exact rfl)
    refine PT.out.mono ?_
    rintro e w4 ⟨z, rfl, fr⟩
    obtain ⟨Az, cz, hz, _⟩ := own_form fr.1
    have hz2 : z = .slice Az 0 cz := hz
    subst hz2
    have A4 := Lib.hid (A3.out.below fr.2); have WX4 := Lib.hid (WX3.out.1.below fr.2)
    clear fr hz A3 A3a PT WX3
    have MT := Lib.hid (MY.out w4 WX4.out (HI.out.kept A4.out.bel))
    have A4a := Lib.hid A4.out.a
    go_wp2_with ((with_reducible refine load_blk 25 (.tmp 3) w.heap.size 25 (gv x) _ rfl rfl ?_ Tryz.underlying25 ?_ ?_ ?_ ?_); exact A4a.out; exact rfl; exact FX.out; exact rfl)
    refine MT.out.mono ?_
    rintro e w5 ⟨rfl, b5⟩
    have A6 := Lib.hid (A4.out.below b5)
    clear A4 A4a WX4 b5 MT MY
    have GT := Lib.hid (gGetA xs p m c w5 HXL.out A6.out.p HXB.out (by omega) (HI.out.kept A6.out.bel))
    go_wp2_with fail
    refine GT.out.mono ?_
    rintro e w7 ⟨u, hu, rfl, gu, b7⟩
    have A7 := Lib.hid (A6.out.below b7); have HU := Lib.hid hu
    clear A6 GT b7 hu
    have FX_u := Lib.hid (gv_size u); have FO_u := Lib.hid (gv_one u)
    have Z_u := Lib.hid (Blk.new w7 25 (gv zGv))
    have K_u := Lib.hid (Z_u.out.setRow (gv u))
    have B_u := Lib.hid (below_setRow ((Below.refl (w7).heap.size w7).alloc (Nat.le_refl _) (.cells (gv zGv).toArray 25)) (Nat.le_refl _) (gv u).toArray)
    go_upto_region 8 with ((with_reducible refine at_op (.store 25 (.tmp 10) (.tmp 71)) rfl ?_); go_must (refine store_blk 25 (.tmp 10) (.tmp 71) (w7).heap.size 25 (gv zGv) (gv u) rfl rfl Z_u.out rfl FX_u.out FO_u.out rfl rfl ?_))
    obtain ⟨V7, hV7⟩ : ∃ V, ((w7).alloc (.cells (gv zGv).toArray 25)).setRow (w7).heap.size (gv u).toArray = V := ⟨_, rfl⟩
    change Code.wp _ _ _ _ (((w7).alloc (.cells (gv zGv).toArray 25)).setRow (w7).heap.size (gv u).toArray)
    rw [hV7] at K_u B_u ⊢
    clear hV7 Z_u FO_u
    have GU := Lib.hid (gu.below B_u.out)
    have A8 := Lib.hid (A7.out.below B_u.out)
    obtain ⟨g10, hg10⟩ : ∃ g, w7.heap.size = g := ⟨_, rfl⟩
    rw [hg10] at K_u ⊢
    clear A7 gu B_u hg10
    have RT := Lib.hid (refGetA xs p m c V7 HXL.out HC.out A8.out.p HXB.out (by omega))
    go_wp2_with fail
    refine RT.out.mono ?_
    rintro e w8 ⟨v, hv, rfl, gz, b8⟩
    have A9 := Lib.hid (A8.out.below b8); have HV := Lib.hid hv; have GU9 := Lib.hid (GU.out.below b8); have K9 := Lib.hid (K_u.out.below b8 K_u.out.lt)
    clear A8 RT b8 hv GU K_u
    have FX_v := Lib.hid (gv_size v); have FO_v := Lib.hid (gv_one v)
    have Z_v := Lib.hid (Blk.new w8 25 (gv zGv))
    have K_v := Lib.hid (Z_v.out.setRow (gv v))
    have B_v := Lib.hid (below_setRow ((Below.refl (w8).heap.size w8).alloc (Nat.le_refl _) (.cells (gv zGv).toArray 25)) (Nat.le_refl _) (gv v).toArray)
    go_upto_region 9 with ((with_reducible refine at_op (.store 25 (.tmp 12) (.tmp 76)) rfl ?_); go_must (refine store_blk 25 (.tmp 12) (.tmp 76) (w8).heap.size 25 (gv zGv) (gv v) rfl rfl Z_v.out rfl FX_v.out FO_v.out rfl rfl ?_))
    obtain ⟨V8, hV8⟩ : ∃ V, ((w8).alloc (.cells (gv zGv).toArray 25)).setRow (w8).heap.size (gv v).toArray = V := ⟨_, rfl⟩
    change Code.wp _ _ _ _ (((w8).alloc (.cells (gv zGv).toArray 25)).setRow (w8).heap.size (gv v).toArray)
    rw [hV8] at K_v B_v ⊢
    clear hV8 Z_v FO_v
    obtain ⟨g12, hg12⟩ : ∃ g, w8.heap.size = g := ⟨_, rfl⟩
    obtain ⟨U, hU⟩ : ∃ U, V8.drew = U := ⟨_, rfl⟩
    have BV := Lib.hid (show Below w8.heap.size w8 U from by rw [← hU]; exact B_v.out.drew)
    have BVU := Lib.hid (show Below V8.heap.size V8 U from by rw [← hU]; exact (Below.refl _ _).drew)
    have AU := Lib.hid (A9.out.below BV.out); have GU := Lib.hid (GU9.out.below BV.out); have GV := Lib.hid (gz.below BV.out)
    have KU := Lib.hid (K9.out.below BV.out K9.out.lt); have KV := Lib.hid (K_v.out.below BVU.out K_v.out.lt)
    rw [hg12] at KV ⊢
    clear hg12 A9 GU9 gz K9 K_v B_v BV BVU
    have WX := Lib.hid (AU.out.rx.w (by have := HFX.out.2.1; omega)); have WY := Lib.hid (AU.out.ry.w (by have := HFY.out.2.1; omega))
    have SL := Lib.hid (show x.st.length ≤ 900000 from by have := HFX.out.2.1; omega)
    have SU := Lib.hid (fun (Y : World) (hb : Below U.heap.size U Y) => show Blk Y w.heap.size 25 (gv x) ∧ Blk Y (w.heap.size + 1) 25 (gv y) ∧ Blk Y g10 25 (gv u) ∧ Blk Y g12 25 (gv v) from
      ⟨AU.out.a.below hb AU.out.a.lt, AU.out.b.below hb AU.out.b.lt, KU.out.below hb KU.out.lt, KV.out.below hb KV.out.lt⟩)
    have TT := Lib.hid (fun (Y : World) (hb : Below U.heap.size U Y) => told10_t Y (HI.out.kept (AU.out.bel.trans (hb.mono AU.out.bel.size))))
    have SE : ∀ e : Ge, sameE e e = true := sameE_self
    have SM1 := Lib.hid (fun (Y : World) (hb : Below U.heap.size U Y) => gSame_t u v Y (GU.out.below hb) (GV.out.below hb))
    rw [HU.out, HV.out, SE] at SM1
    have SM2 := Lib.hid (fun (Y : World) (hb : Below U.heap.size U Y) => gSameR_t u v Y (GU.out.below hb) (GV.out.below hb))
    rw [HU.out, HV.out, SE] at SM2
    have SM3 := Lib.hid (fun (Y : World) (hb : Below U.heap.size U Y) => gSame_t x y Y (WX.out.1.below hb) (WY.out.1.below hb))
    have SM4 := Lib.hid (fun (Y : World) (hb : Below U.heap.size U Y) => gSameR_t x y Y (WX.out.1.below hb) (WY.out.1.below hb))
    obtain ⟨sb, hsb⟩ : ∃ b, sameE x.ge y.ge = b := ⟨_, rfl⟩
    rw [hsb] at SM3 SM4
    have AN1 := Lib.hid (fun (Y : World) (hb : Below U.heap.size U Y) => gAnchorA x Y (WX.out.1.below hb) (HI.out.kept (AU.out.bel.trans (hb.mono AU.out.bel.size))) (HK.out.below (AU.out.bel.trans (hb.mono AU.out.bel.size)) HG.out))
    have AN2 := Lib.hid (fun (Y : World) (hb : Below U.heap.size U Y) => gAnchorRA x Y (WX.out.1.below hb) WX.out.2 SL.out)
    have LI1 := Lib.hid (fun (Y : World) (hb : Below U.heap.size U Y) => gLinkA x Y (WX.out.1.below hb) (HI.out.kept (AU.out.bel.trans (hb.mono AU.out.bel.size))) (HK.out.below (AU.out.bel.trans (hb.mono AU.out.bel.size)) HG.out))
    have LI2 := Lib.hid (fun (Y : World) (hb : Below U.heap.size U Y) => gLinkRA x Y (WX.out.1.below hb) WX.out.2 SL.out)
    have eqA := eqIn_hash (anA x) (anA_len x); have eqL := eqIn_hash (liA x) (liA_len x)
    obtain ⟨AA, hAA⟩ : ∃ l, anA x = l := ⟨_, rfl⟩
    obtain ⟨LA, hLA⟩ : ∃ l, liA x = l := ⟨_, rfl⟩
    rw [hAA] at AN1 AN2 eqA
    rw [hLA] at LI1 LI2 eqL
    have FI1 := Lib.hid (fun (Y : World) (hb : Below U.heap.size U Y) => gFirst_t x Y (WX.out.1.below hb) (HI.out.kept (AU.out.bel.trans (hb.mono AU.out.bel.size))))
    have FI2 := Lib.hid (fun (Y : World) (hb : Below U.heap.size U Y) => gFirstR_t x Y (WX.out.1.below hb) WX.out.2)
    have SPS := Lib.hid (fun (z z' : Spv) (Y : World) (h1 : SpW Y z) (h2 : SpW Y z') (e1 : z.sp = begS x) (e2 : z'.sp = begS x) => show Calls Tryz.prog 24 #[.agg (sv z).toArray, .agg (sv z').toArray] Y fun e w' => e = .returned (.bool true) ∧ Below Y.heap.size Y w' from by
      have h := refSameSpace_t z z' Y h1 h2
      rw [spS_iff.2 (e1.trans e2.symm)] at h
      exact h)
    obtain ⟨ee, hee⟩ : ∃ n, erA xs = n := ⟨_, rfl⟩
    rw [hee]
    clear hsb SE hAA hLA hee
    have B0 := Lib.hid (Below.refl U.heap.size U)
    have s0 := SU.out U B0.out
    refine wp_region_held (S := fun Y => Blk Y w.heap.size 25 (gv x) ∧ Blk Y (w.heap.size + 1) 25 (gv y) ∧ Blk Y g10 25 (gv u) ∧ Blk Y g12 25 (gv v)) (by kernel_rfl) ?_
    change wpAnyH _ _ _ _ _ _ _ _ V8.drew
    rw [hU]
    clear hU
    try go_simp
    refine wpAnyH_ready (rs := [0]) (by kernel_rfl) (by simp) ?_
    refine AllReadyH.cons rfl (fun K hK => ?_) AllReadyH.nil
    rw [if_pos (by kernel_rfl)]
    go_simp
    refine (TT.out U B0.out).mono ?_
    rintro e ua ⟨rfl, b_⟩
    have Ba := Lib.hid (show Below U.heap.size U ua from B0.out.trans (b_.mono B0.out.size))
    have s0 := SU.out _ Ba.out
    refine hK.out _ _ s0 (fun _ => ?_)
    clear hK K b_
    refine wpAnyH_take (i := 1) (v := ?_) rfl (by kernel_rfl) (by kernel_rfl) (by kernel_rfl) (fun _ _ _ h => h) (Or.inl ⟨by kernel_rfl, ?_⟩) s0 ?_
    rotate_left 1
    · (intro w hS; clear hS; go_simp; try (with_reducible rfl))
    refine wpAnyH_take (i := 2) (v := ?_) rfl (by kernel_rfl) (by kernel_rfl) (by kernel_rfl) (fun _ _ _ h => h) (Or.inl ⟨by kernel_rfl, ?_⟩) s0 ?_
    rotate_left 1
    · (intro w hS; clear hS; go_simp; try (with_reducible rfl))
    refine wpAnyH_take (i := 3) (v := ?_) rfl (by kernel_rfl) (by kernel_rfl) (by kernel_rfl) (fun _ _ _ h => h) (Or.inl ⟨by kernel_rfl, ?_⟩) s0 ?_
    rotate_left 1
    · (intro w hS; clear hS; go_simp; try (with_reducible rfl))
    refine wpAnyH_take (i := 4) (v := ?_) rfl (by kernel_rfl) (by kernel_rfl) (by kernel_rfl) (fun _ _ _ h => h) (Or.inl ⟨by kernel_rfl, ?_⟩) s0 ?_
    rotate_left 1
    · (intro w hS; clear hS; go_simp; try (with_reducible rfl))
    refine wpAnyH_take (i := 5) (v := ?_) rfl (by kernel_rfl) (by kernel_rfl) (by kernel_rfl) (fun _ _ _ h => h) (Or.inl ⟨by kernel_rfl, ?_⟩) s0 ?_
    rotate_left 1
    · (intro w hS; clear hS; go_simp; try (with_reducible rfl))
    refine wpAnyH_take (i := 6) (v := ?_) rfl (by kernel_rfl) (by kernel_rfl) (by kernel_rfl) (fun _ _ _ h => h) (Or.inl ⟨by kernel_rfl, ?_⟩) s0 ?_
    rotate_left 1
    · (intro w hS; clear hS; go_simp; try (with_reducible rfl))
    refine wpAnyH_take (i := 7) (v := .agg (gv u).toArray) rfl (by kernel_rfl) (by kernel_rfl) (by kernel_rfl) (fun _ _ _ h => h) (yieldsIf_load_mid (by kernel_rfl) 25 (.tmp 10) rfl g10 0 (by go_simp) (gv u) _ (fun _ h => rows_of_blk h.2.2.1) Tryz.underlying25 rfl (FX_u.out)) s0 ?_
    refine wpAnyH_take (i := 8) (v := .agg (gv v).toArray) rfl (by kernel_rfl) (by kernel_rfl) (by kernel_rfl) (fun _ _ _ h => h) (yieldsIf_load_mid (by kernel_rfl) 25 (.tmp 12) rfl g12 0 (by go_simp) (gv v) _ (fun _ h => rows_of_blk h.2.2.2) Tryz.underlying25 rfl (FX_v.out)) s0 ?_
    try go_simp
    refine wpAnyH_ready (rs := [9]) (by kernel_rfl) (by simp) ?_
    refine AllReadyH.cons rfl (fun K hK => ?_) AllReadyH.nil
    rw [if_pos (by kernel_rfl)]
    go_simp
    refine (SM1.out ua Ba.out).mono ?_
    rintro e ub ⟨rfl, b_⟩
    have Bb := Lib.hid (show Below U.heap.size U ub from Ba.out.trans (b_.mono Ba.out.size))
    have s0 := SU.out _ Bb.out
    refine hK.out _ _ s0 (fun _ => ?_)
    clear hK K b_
    refine wpAnyH_take (i := 10) (v := ?_) rfl (by kernel_rfl) (by kernel_rfl) (by kernel_rfl) (fun _ _ _ h => h) (Or.inl ⟨by kernel_rfl, ?_⟩) s0 ?_
    rotate_left 1
    · (intro w hS; clear hS; go_simp; try (with_reducible rfl))
    refine wpAnyH_take (i := 11) (v := ?_) rfl (by kernel_rfl) (by kernel_rfl) (by kernel_rfl) (fun _ _ _ h => h) (Or.inl ⟨by kernel_rfl, ?_⟩) s0 ?_
    rotate_left 1
    · (intro w hS; clear hS; go_simp; try (with_reducible rfl))
    refine wpAnyH_take (i := 12) (v := .agg (gv u).toArray) rfl (by kernel_rfl) (by kernel_rfl) (by kernel_rfl) (fun _ _ _ h => h) (yieldsIf_load_mid (by kernel_rfl) 25 (.tmp 10) rfl g10 0 (by go_simp) (gv u) _ (fun _ h => rows_of_blk h.2.2.1) Tryz.underlying25 rfl (FX_u.out)) s0 ?_
    refine wpAnyH_take (i := 13) (v := .agg (gv v).toArray) rfl (by kernel_rfl) (by kernel_rfl) (by kernel_rfl) (fun _ _ _ h => h) (yieldsIf_load_mid (by kernel_rfl) 25 (.tmp 12) rfl g12 0 (by go_simp) (gv v) _ (fun _ h => rows_of_blk h.2.2.2) Tryz.underlying25 rfl (FX_v.out)) s0 ?_
    try go_simp
    refine wpAnyH_ready (rs := [14]) (by kernel_rfl) (by simp) ?_
    refine AllReadyH.cons rfl (fun K hK => ?_) AllReadyH.nil
    rw [if_pos (by kernel_rfl)]
    go_simp
    refine (SM2.out ub Bb.out).mono ?_
    rintro e uc ⟨rfl, b_⟩
    have Bc := Lib.hid (show Below U.heap.size U uc from Bb.out.trans (b_.mono Bb.out.size))
    have s0 := SU.out _ Bc.out
    refine hK.out _ _ s0 (fun _ => ?_)
    clear hK K b_
    refine wpAnyH_take (i := 15) (v := ?_) rfl (by kernel_rfl) (by kernel_rfl) (by kernel_rfl) (fun _ _ _ h => h) (Or.inl ⟨by kernel_rfl, ?_⟩) s0 ?_
    rotate_left 1
    · (intro w hS; clear hS; go_simp; try (with_reducible rfl))
    refine wpAnyH_take (i := 16) (v := ?_) rfl (by kernel_rfl) (by kernel_rfl) (by kernel_rfl) (fun _ _ _ h => h) (Or.inl ⟨by kernel_rfl, ?_⟩) s0 ?_
    rotate_left 1
    · (intro w hS; clear hS; go_simp; try (with_reducible rfl))
    refine wpAnyH_take (i := 17) (v := .agg (gv x).toArray) rfl (by kernel_rfl) (by kernel_rfl) (by kernel_rfl) (fun _ _ _ h => h) (yieldsIf_load_mid (by kernel_rfl) 25 (.tmp 3) rfl w.heap.size 0 (by go_simp) (gv x) _ (fun _ h => rows_of_blk h.1) Tryz.underlying25 rfl (FX.out)) s0 ?_
    refine wpAnyH_take (i := 18) (v := .agg (gv y).toArray) rfl (by kernel_rfl) (by kernel_rfl) (by kernel_rfl) (fun _ _ _ h => h) (yieldsIf_load_mid (by kernel_rfl) 25 (.tmp 4) rfl (w.heap.size + 1) 0 (by go_simp) (gv y) _ (fun _ h => rows_of_blk h.2.1) Tryz.underlying25 rfl (FY.out)) s0 ?_
    refine wpAnyH_take (i := 20) (v := .agg (gv x).toArray) rfl (by kernel_rfl) (by kernel_rfl) (by kernel_rfl) (fun _ _ _ h => h) (yieldsIf_load_mid (by kernel_rfl) 25 (.tmp 3) rfl w.heap.size 0 (by go_simp) (gv x) _ (fun _ h => rows_of_blk h.1) Tryz.underlying25 rfl (FX.out)) s0 ?_
    refine wpAnyH_take (i := 21) (v := .agg (gv y).toArray) rfl (by kernel_rfl) (by kernel_rfl) (by kernel_rfl) (fun _ _ _ h => h) (yieldsIf_load_mid (by kernel_rfl) 25 (.tmp 4) rfl (w.heap.size + 1) 0 (by go_simp) (gv y) _ (fun _ h => rows_of_blk h.2.1) Tryz.underlying25 rfl (FY.out)) s0 ?_
    try go_simp
    refine wpAnyH_ready (rs := [19]) (by kernel_rfl) (by simp) ?_
    refine AllReadyH.cons rfl (fun K hK => ?_) AllReadyH.nil
    rw [if_pos (by kernel_rfl)]
    go_simp
    refine (SM3.out uc Bc.out).mono ?_
    rintro e ud ⟨rfl, b_⟩
    have Bd := Lib.hid (show Below U.heap.size U ud from Bc.out.trans (b_.mono Bc.out.size))
    have s0 := SU.out _ Bd.out
    refine hK.out _ _ s0 (fun _ => ?_)
    clear hK K b_
    try go_simp
    refine wpAnyH_ready (rs := [22]) (by kernel_rfl) (by simp) ?_
    refine AllReadyH.cons rfl (fun K hK => ?_) AllReadyH.nil
    rw [if_pos (by kernel_rfl)]
    go_simp
    refine (SM4.out ud Bd.out).mono ?_
    rintro e ue ⟨rfl, b_⟩
    have Be := Lib.hid (show Below U.heap.size U ue from Bd.out.trans (b_.mono Bd.out.size))
    have s0 := SU.out _ Be.out
    refine hK.out _ _ s0 (fun _ => ?_)
    clear hK K b_
    refine wpAnyH_take (i := 23) (v := ?_) rfl (by kernel_rfl) (by kernel_rfl) (by kernel_rfl) (fun _ _ _ h => h) (Or.inl ⟨by kernel_rfl, ?_⟩) s0 ?_
    rotate_left 1
    · (intro w hS; clear hS; go_simp; try (with_reducible rfl))
    refine wpAnyH_take (i := 24) (v := ?_) rfl (by kernel_rfl) (by kernel_rfl) (by kernel_rfl) (fun _ _ _ h => h) (Or.inl ⟨by kernel_rfl, ?_⟩) s0 ?_
    rotate_left 1
    · (intro w hS; clear hS; go_simp; try (with_reducible rfl))
    refine wpAnyH_take (i := 25) (v := ?_) rfl (by kernel_rfl) (by kernel_rfl) (by kernel_rfl) (fun _ _ _ h => h) (Or.inl ⟨by kernel_rfl, ?_⟩) s0 ?_
    rotate_left 1
    · (intro w hS; clear hS; go_simp; try (with_reducible rfl))
    refine wpAnyH_take (i := 26) (v := .agg (gv x).toArray) rfl (by kernel_rfl) (by kernel_rfl) (by kernel_rfl) (fun _ _ _ h => h) (yieldsIf_load_mid (by kernel_rfl) 25 (.tmp 3) rfl w.heap.size 0 (by go_simp) (gv x) _ (fun _ h => rows_of_blk h.1) Tryz.underlying25 rfl (FX.out)) s0 ?_
    refine wpAnyH_take (i := 28) (v := .agg (gv x).toArray) rfl (by kernel_rfl) (by kernel_rfl) (by kernel_rfl) (fun _ _ _ h => h) (yieldsIf_load_mid (by kernel_rfl) 25 (.tmp 3) rfl w.heap.size 0 (by go_simp) (gv x) _ (fun _ h => rows_of_blk h.1) Tryz.underlying25 rfl (FX.out)) s0 ?_
    try go_simp
    refine wpAnyH_ready (rs := [27]) (by kernel_rfl) (by simp) ?_
    refine AllReadyH.cons rfl (fun K hK => ?_) AllReadyH.nil
    rw [if_pos (by kernel_rfl)]
    go_simp
    refine (AN1.out ue Be.out).mono ?_
    rintro e uf ⟨rfl, b_⟩
    have Bf := Lib.hid (show Below U.heap.size U uf from Be.out.trans (b_.mono Be.out.size))
    have s0 := SU.out _ Bf.out
    refine hK.out _ _ s0 (fun _ => ?_)
    clear hK K b_
    try go_simp
    refine wpAnyH_ready (rs := [29]) (by kernel_rfl) (by simp) ?_
    refine AllReadyH.cons rfl (fun K hK => ?_) AllReadyH.nil
    rw [if_pos (by kernel_rfl)]
    go_simp
    refine (AN2.out uf Bf.out).mono ?_
    rintro e ug ⟨rfl, b_⟩
    have Bg := Lib.hid (show Below U.heap.size U ug from Bf.out.trans (b_.mono Bf.out.size))
    have s0 := SU.out _ Bg.out
    refine hK.out _ _ s0 (fun _ => ?_)
    clear hK K b_
    refine wpAnyH_take (i := 30) (v := ?_) rfl (by kernel_rfl) (by kernel_rfl) (by kernel_rfl) (fun _ _ _ h => h) (Or.inl ⟨by kernel_rfl, ?_⟩) s0 ?_
    rotate_left 1
    · (intro w hS; clear hS; go_simp; try (with_reducible rfl))
    refine wpAnyH_take (i := 31) (v := ?_) rfl (by kernel_rfl) (by kernel_rfl) (by kernel_rfl) (fun _ _ _ h => h) (Or.inl ⟨by kernel_rfl, ?_⟩) s0 ?_
    rotate_left 1
    · (intro w hS; clear hS; go_simp; try (with_reducible rfl))
    refine wpAnyH_take (i := 32) (v := ?_) rfl (by kernel_rfl) (by kernel_rfl) (by kernel_rfl) (fun _ _ _ h => h) (Or.inl ⟨by kernel_rfl, ?_⟩) s0 ?_
    rotate_left 1
    · (intro w hS; clear hS; go_simp; try (with_reducible rfl))
    refine wpAnyH_take (i := 33) (v := .agg (gv x).toArray) rfl (by kernel_rfl) (by kernel_rfl) (by kernel_rfl) (fun _ _ _ h => h) (yieldsIf_load_mid (by kernel_rfl) 25 (.tmp 3) rfl w.heap.size 0 (by go_simp) (gv x) _ (fun _ h => rows_of_blk h.1) Tryz.underlying25 rfl (FX.out)) s0 ?_
    refine wpAnyH_take (i := 35) (v := .agg (gv x).toArray) rfl (by kernel_rfl) (by kernel_rfl) (by kernel_rfl) (fun _ _ _ h => h) (yieldsIf_load_mid (by kernel_rfl) 25 (.tmp 3) rfl w.heap.size 0 (by go_simp) (gv x) _ (fun _ h => rows_of_blk h.1) Tryz.underlying25 rfl (FX.out)) s0 ?_
    try go_simp
    refine wpAnyH_ready (rs := [34]) (by kernel_rfl) (by simp) ?_
    refine AllReadyH.cons rfl (fun K hK => ?_) AllReadyH.nil
    rw [if_pos (by kernel_rfl)]
    go_simp
    refine (LI1.out ug Bg.out).mono ?_
    rintro e uh ⟨rfl, b_⟩
    have Bh := Lib.hid (show Below U.heap.size U uh from Bg.out.trans (b_.mono Bg.out.size))
    have s0 := SU.out _ Bh.out
    refine hK.out _ _ s0 (fun _ => ?_)
    clear hK K b_
    try go_simp
    refine wpAnyH_ready (rs := [36]) (by kernel_rfl) (by simp) ?_
    refine AllReadyH.cons rfl (fun K hK => ?_) AllReadyH.nil
    rw [if_pos (by kernel_rfl)]
    go_simp
    refine (LI2.out uh Bh.out).mono ?_
    rintro e ui ⟨rfl, b_⟩
    have Bi := Lib.hid (show Below U.heap.size U ui from Bh.out.trans (b_.mono Bh.out.size))
    have s0 := SU.out _ Bi.out
    refine hK.out _ _ s0 (fun _ => ?_)
    clear hK K b_
    refine wpAnyH_take (i := 37) (v := ?_) rfl (by kernel_rfl) (by kernel_rfl) (by kernel_rfl) (fun _ _ _ h => h) (Or.inl ⟨by kernel_rfl, ?_⟩) s0 ?_
    rotate_left 1
    · (intro w hS; clear hS; go_simp; try (with_reducible rfl))
    refine wpAnyH_take (i := 38) (v := ?_) rfl (by kernel_rfl) (by kernel_rfl) (by kernel_rfl) (fun _ _ _ h => h) (Or.inl ⟨by kernel_rfl, ?_⟩) s0 ?_
    rotate_left 1
    · (intro w hS; clear hS; go_simp; try (with_reducible rfl))
    refine wpAnyH_take (i := 39) (v := ?_) rfl (by kernel_rfl) (by kernel_rfl) (by kernel_rfl) (fun _ _ _ h => h) (Or.inl ⟨by kernel_rfl, ?_⟩) s0 ?_
    rotate_left 1
    · (intro w hS; clear hS; go_simp; try (with_reducible rfl))
    refine wpAnyH_take (i := 40) (v := .agg (gv x).toArray) rfl (by kernel_rfl) (by kernel_rfl) (by kernel_rfl) (fun _ _ _ h => h) (yieldsIf_load_mid (by kernel_rfl) 25 (.tmp 3) rfl w.heap.size 0 (by go_simp) (gv x) _ (fun _ h => rows_of_blk h.1) Tryz.underlying25 rfl (FX.out)) s0 ?_
    refine wpAnyH_take (i := 42) (v := .agg (gv x).toArray) rfl (by kernel_rfl) (by kernel_rfl) (by kernel_rfl) (fun _ _ _ h => h) (yieldsIf_load_mid (by kernel_rfl) 25 (.tmp 3) rfl w.heap.size 0 (by go_simp) (gv x) _ (fun _ h => rows_of_blk h.1) Tryz.underlying25 rfl (FX.out)) s0 ?_
    try go_simp
    refine wpAnyH_ready (rs := [41]) (by kernel_rfl) (by simp) ?_
    refine AllReadyH.cons rfl (fun K hK => ?_) AllReadyH.nil
    rw [if_pos (by kernel_rfl)]
    go_simp
    refine (FI1.out ui Bi.out).mono ?_
    rintro e uj ⟨z1, rfl, h_, y_, b_⟩
    have Bj := Lib.hid (show Below U.heap.size U uj from Bi.out.trans (b_.mono Bi.out.size))
    have H_z1 := Lib.hid h_; have Y_z1 := Lib.hid y_.w
    have s0 := SU.out _ Bj.out
    refine hK.out _ _ s0 (fun _ => ?_)
    clear hK K b_ h_ y_
    try go_simp
    refine wpAnyH_ready (rs := [43]) (by kernel_rfl) (by simp) ?_
    refine AllReadyH.cons rfl (fun K hK => ?_) AllReadyH.nil
    rw [if_pos (by kernel_rfl)]
    go_simp
    refine (FI2.out uj Bj.out).mono ?_
    rintro e uk ⟨z2, rfl, h_, y_, b_⟩
    have Bk := Lib.hid (show Below U.heap.size U uk from Bj.out.trans (b_.mono Bj.out.size))
    have H_z2 := Lib.hid h_; have Y_z2 := Lib.hid y_.w; have Y_z1 := Lib.hid (Y_z1.out.below b_)
    have s0 := SU.out _ Bk.out
    refine hK.out _ _ s0 (fun _ => ?_)
    clear hK K b_ h_ y_
    try go_simp
    refine wpAnyH_ready (rs := [44]) (by kernel_rfl) (by simp) ?_
    refine AllReadyH.cons rfl (fun K hK => ?_) AllReadyH.nil
    rw [if_pos (by kernel_rfl)]
    go_simp
    refine (SPS.out z1 z2 uk Y_z1.out Y_z2.out H_z1.out H_z2.out).mono ?_
    rintro e ul ⟨rfl, b_⟩
    have Bl := Lib.hid (show Below U.heap.size U ul from Bk.out.trans (b_.mono Bk.out.size))
    have s0 := SU.out _ Bl.out
    refine hK.out _ _ s0 (fun _ => ?_)
    clear hK K b_
    refine wpAnyH_take (i := 45) (v := ?_) rfl (by kernel_rfl) (by kernel_rfl) (by kernel_rfl) (fun _ _ _ h => h) (Or.inl ⟨by kernel_rfl, ?_⟩) s0 ?_
    rotate_left 1
    · (intro w hS; clear hS; go_simp; try (with_reducible rfl))
    refine wpAnyH_take (i := 46) (v := ?_) rfl (by kernel_rfl) (by kernel_rfl) (by kernel_rfl) (fun _ _ _ h => h) (Or.inl ⟨by kernel_rfl, ?_⟩) s0 ?_
    rotate_left 1
    · (intro w hS; clear hS; go_simp; try (with_reducible rfl))
    refine wpAnyH_done (by kernel_rfl) ?_ _
    go_simp
    go_wp2_with fail
    go_ret
    exact ⟨rfl, AU.out.bel.trans (Bl.out.mono AU.out.bel.size)⟩
  | true =>
    rw [if_pos rfl, if_pos rfl] at PT
    go_wp2_with ((with_reducible refine load_blk 25 (.tmp 3) w.heap.size 25 (gv x) _ rfl rfl ?_ Tryz.underlying25 ?_ ?_ ?_ ?_); exact A3a.out; exact rfl; exact FX.out; exact rfl)
    refine PT.out.mono ?_
    rintro e w4 ⟨z, rfl, fr⟩
    have PGB := Lib.hid (pg_bytes WX3.out.1.kb WX3.out.1.sb)
    obtain ⟨n, hn⟩ : ∃ n, (pg x).length = n := ⟨_, rfl⟩
    have HN := Lib.hid hn
    have fr1 := fr.1
    rw [hn] at fr1
    obtain ⟨Az, cz, hz, _⟩ := own_form fr1
    subst hz
    have SZ := Lib.hid (Sr.of_own fr1)
    have A4 := Lib.hid (A3.out.below fr.2); have WX4 := Lib.hid (WX3.out.1.below fr.2)
    clear fr fr1 A3 A3a PT hn
    have MT := Lib.hid (MY.out w4 WX4.out (HI.out.kept A4.out.bel))
    have A4a := Lib.hid A4.out.a
    go_wp2_with ((with_reducible refine load_blk 25 (.tmp 3) w.heap.size 25 (gv x) _ rfl rfl ?_ Tryz.underlying25 ?_ ?_ ?_ ?_); exact A4a.out; exact rfl; exact FX.out; exact rfl)
    refine MT.out.mono ?_
    rintro e w5 ⟨rfl, b5⟩
    have A5 := Lib.hid (A4.out.below b5); have WX5 := Lib.hid (WX4.out.below b5); have SZ5 := Lib.hid (SZ.out.below b5)
    clear A4 A4a WX4 b5 MT MY SZ WX3
    have A5a := Lib.hid A5.out.a
    have PR := Lib.hid (gPutR_t x w5 WX5.out HM.out)
    go_wp2_with ((with_reducible refine load_blk_gdO 62 25 (.tmp 3) w.heap.size 25 (gv x) _ ?_ ?_ rfl ?_ Tryz.underlying25 ?_ ?_ ?_ ?_); exact rfl; kernel_rfl; exact A5a.out; exact rfl; exact FX.out; exact rfl)
    refine PR.out.mono ?_
    rintro e w6 ⟨z2, rfl, fr⟩
    have fr1 := fr.1
    rw [HN.out] at fr1
    obtain ⟨A2, c2, hz2, _⟩ := own_form fr1
    subst hz2
    have S2 := Lib.hid (Sr.of_own fr1)
    have SZ6 := Lib.hid (SZ5.out.below fr.2); have A6 := Lib.hid (A5.out.below fr.2)
    clear fr fr1 A5 A5a PR SZ5 WX5
    go_wp2_with fail
    refine (same_textsTX (pg x) (pg x) Az A2 n n cz c2 w6 HN.out HN.out SZ6.out S2.out PGB.out PGB.out).mono ?_
    rintro e w7 ⟨rfl, rfl⟩
    rw [decide_eq_true rfl]
    clear SZ6 S2 PGB
    have GT := Lib.hid (gGetA xs p m c w6 HXL.out A6.out.p HXB.out (by omega) (HI.out.kept A6.out.bel))
    go_wp2_with fail
    refine GT.out.mono ?_
    rintro e w7 ⟨u, hu, rfl, gu, b7⟩
    have A7 := Lib.hid (A6.out.below b7); have HU := Lib.hid hu
    clear A6 GT b7 hu
    have FX_u := Lib.hid (gv_size u); have FO_u := Lib.hid (gv_one u)
    have Z_u := Lib.hid (Blk.new w7 25 (gv zGv))
    have K_u := Lib.hid (Z_u.out.setRow (gv u))
    have B_u := Lib.hid (below_setRow ((Below.refl (w7).heap.size w7).alloc (Nat.le_refl _) (.cells (gv zGv).toArray 25)) (Nat.le_refl _) (gv u).toArray)
    go_upto_region 8 with ((with_reducible refine at_op (.store 25 (.tmp 10) (.tmp 71)) rfl ?_); go_must (refine store_blk 25 (.tmp 10) (.tmp 71) (w7).heap.size 25 (gv zGv) (gv u) rfl rfl Z_u.out rfl FX_u.out FO_u.out rfl rfl ?_))
    obtain ⟨V7, hV7⟩ : ∃ V, ((w7).alloc (.cells (gv zGv).toArray 25)).setRow (w7).heap.size (gv u).toArray = V := ⟨_, rfl⟩
    change Code.wp _ _ _ _ (((w7).alloc (.cells (gv zGv).toArray 25)).setRow (w7).heap.size (gv u).toArray)
    rw [hV7] at K_u B_u ⊢
    clear hV7 Z_u FO_u
    have GU := Lib.hid (gu.below B_u.out)
    have A8 := Lib.hid (A7.out.below B_u.out)
    obtain ⟨g10, hg10⟩ : ∃ g, w7.heap.size = g := ⟨_, rfl⟩
    rw [hg10] at K_u ⊢
    clear A7 gu B_u hg10
    have RT := Lib.hid (refGetA xs p m c V7 HXL.out HC.out A8.out.p HXB.out (by omega))
    go_wp2_with fail
    refine RT.out.mono ?_
    rintro e w8 ⟨v, hv, rfl, gz, b8⟩
    have A9 := Lib.hid (A8.out.below b8); have HV := Lib.hid hv; have GU9 := Lib.hid (GU.out.below b8); have K9 := Lib.hid (K_u.out.below b8 K_u.out.lt)
    clear A8 RT b8 hv GU K_u
    have FX_v := Lib.hid (gv_size v); have FO_v := Lib.hid (gv_one v)
    have Z_v := Lib.hid (Blk.new w8 25 (gv zGv))
    have K_v := Lib.hid (Z_v.out.setRow (gv v))
    have B_v := Lib.hid (below_setRow ((Below.refl (w8).heap.size w8).alloc (Nat.le_refl _) (.cells (gv zGv).toArray 25)) (Nat.le_refl _) (gv v).toArray)
    go_upto_region 9 with ((with_reducible refine at_op (.store 25 (.tmp 12) (.tmp 76)) rfl ?_); go_must (refine store_blk 25 (.tmp 12) (.tmp 76) (w8).heap.size 25 (gv zGv) (gv v) rfl rfl Z_v.out rfl FX_v.out FO_v.out rfl rfl ?_))
    obtain ⟨V8, hV8⟩ : ∃ V, ((w8).alloc (.cells (gv zGv).toArray 25)).setRow (w8).heap.size (gv v).toArray = V := ⟨_, rfl⟩
    change Code.wp _ _ _ _ (((w8).alloc (.cells (gv zGv).toArray 25)).setRow (w8).heap.size (gv v).toArray)
    rw [hV8] at K_v B_v ⊢
    clear hV8 Z_v FO_v
    obtain ⟨g12, hg12⟩ : ∃ g, w8.heap.size = g := ⟨_, rfl⟩
    obtain ⟨U, hU⟩ : ∃ U, V8.drew = U := ⟨_, rfl⟩
    have BV := Lib.hid (show Below w8.heap.size w8 U from by rw [← hU]; exact B_v.out.drew)
    have BVU := Lib.hid (show Below V8.heap.size V8 U from by rw [← hU]; exact (Below.refl _ _).drew)
    have AU := Lib.hid (A9.out.below BV.out); have GU := Lib.hid (GU9.out.below BV.out); have GV := Lib.hid (gz.below BV.out)
    have KU := Lib.hid (K9.out.below BV.out K9.out.lt); have KV := Lib.hid (K_v.out.below BVU.out K_v.out.lt)
    rw [hg12] at KV ⊢
    clear hg12 A9 GU9 gz K9 K_v B_v BV BVU
    have WX := Lib.hid (AU.out.rx.w (by have := HFX.out.2.1; omega)); have WY := Lib.hid (AU.out.ry.w (by have := HFY.out.2.1; omega))
    have SL := Lib.hid (show x.st.length ≤ 900000 from by have := HFX.out.2.1; omega)
    have SU := Lib.hid (fun (Y : World) (hb : Below U.heap.size U Y) => show Blk Y w.heap.size 25 (gv x) ∧ Blk Y (w.heap.size + 1) 25 (gv y) ∧ Blk Y g10 25 (gv u) ∧ Blk Y g12 25 (gv v) from
      ⟨AU.out.a.below hb AU.out.a.lt, AU.out.b.below hb AU.out.b.lt, KU.out.below hb KU.out.lt, KV.out.below hb KV.out.lt⟩)
    have TT := Lib.hid (fun (Y : World) (hb : Below U.heap.size U Y) => told10_t Y (HI.out.kept (AU.out.bel.trans (hb.mono AU.out.bel.size))))
    have SE : ∀ e : Ge, sameE e e = true := sameE_self
    have SM1 := Lib.hid (fun (Y : World) (hb : Below U.heap.size U Y) => gSame_t u v Y (GU.out.below hb) (GV.out.below hb))
    rw [HU.out, HV.out, SE] at SM1
    have SM2 := Lib.hid (fun (Y : World) (hb : Below U.heap.size U Y) => gSameR_t u v Y (GU.out.below hb) (GV.out.below hb))
    rw [HU.out, HV.out, SE] at SM2
    have SM3 := Lib.hid (fun (Y : World) (hb : Below U.heap.size U Y) => gSame_t x y Y (WX.out.1.below hb) (WY.out.1.below hb))
    have SM4 := Lib.hid (fun (Y : World) (hb : Below U.heap.size U Y) => gSameR_t x y Y (WX.out.1.below hb) (WY.out.1.below hb))
    obtain ⟨sb, hsb⟩ : ∃ b, sameE x.ge y.ge = b := ⟨_, rfl⟩
    rw [hsb] at SM3 SM4
    have AN1 := Lib.hid (fun (Y : World) (hb : Below U.heap.size U Y) => gAnchorA x Y (WX.out.1.below hb) (HI.out.kept (AU.out.bel.trans (hb.mono AU.out.bel.size))) (HK.out.below (AU.out.bel.trans (hb.mono AU.out.bel.size)) HG.out))
    have AN2 := Lib.hid (fun (Y : World) (hb : Below U.heap.size U Y) => gAnchorRA x Y (WX.out.1.below hb) WX.out.2 SL.out)
    have LI1 := Lib.hid (fun (Y : World) (hb : Below U.heap.size U Y) => gLinkA x Y (WX.out.1.below hb) (HI.out.kept (AU.out.bel.trans (hb.mono AU.out.bel.size))) (HK.out.below (AU.out.bel.trans (hb.mono AU.out.bel.size)) HG.out))
    have LI2 := Lib.hid (fun (Y : World) (hb : Below U.heap.size U Y) => gLinkRA x Y (WX.out.1.below hb) WX.out.2 SL.out)
    have eqA := eqIn_hash (anA x) (anA_len x); have eqL := eqIn_hash (liA x) (liA_len x)
    obtain ⟨AA, hAA⟩ : ∃ l, anA x = l := ⟨_, rfl⟩
    obtain ⟨LA, hLA⟩ : ∃ l, liA x = l := ⟨_, rfl⟩
    rw [hAA] at AN1 AN2 eqA
    rw [hLA] at LI1 LI2 eqL
    have FI1 := Lib.hid (fun (Y : World) (hb : Below U.heap.size U Y) => gFirst_t x Y (WX.out.1.below hb) (HI.out.kept (AU.out.bel.trans (hb.mono AU.out.bel.size))))
    have FI2 := Lib.hid (fun (Y : World) (hb : Below U.heap.size U Y) => gFirstR_t x Y (WX.out.1.below hb) WX.out.2)
    have SPS := Lib.hid (fun (z z' : Spv) (Y : World) (h1 : SpW Y z) (h2 : SpW Y z') (e1 : z.sp = begS x) (e2 : z'.sp = begS x) => show Calls Tryz.prog 24 #[.agg (sv z).toArray, .agg (sv z').toArray] Y fun e w' => e = .returned (.bool true) ∧ Below Y.heap.size Y w' from by
      have h := refSameSpace_t z z' Y h1 h2
      rw [spS_iff.2 (e1.trans e2.symm)] at h
      exact h)
    obtain ⟨ee, hee⟩ : ∃ n, erA xs = n := ⟨_, rfl⟩
    rw [hee]
    clear hsb SE hAA hLA hee
    have B0 := Lib.hid (Below.refl U.heap.size U)
    have s0 := SU.out U B0.out
    refine wp_region_held (S := fun Y => Blk Y w.heap.size 25 (gv x) ∧ Blk Y (w.heap.size + 1) 25 (gv y) ∧ Blk Y g10 25 (gv u) ∧ Blk Y g12 25 (gv v)) (by kernel_rfl) ?_
    change wpAnyH _ _ _ _ _ _ _ _ V8.drew
    rw [hU]
    clear hU
    try go_simp
    refine wpAnyH_ready (rs := [0]) (by kernel_rfl) (by simp) ?_
    refine AllReadyH.cons rfl (fun K hK => ?_) AllReadyH.nil
    rw [if_pos (by kernel_rfl)]
    go_simp
    refine (TT.out U B0.out).mono ?_
    rintro e ua ⟨rfl, b_⟩
    have Ba := Lib.hid (show Below U.heap.size U ua from B0.out.trans (b_.mono B0.out.size))
    have s0 := SU.out _ Ba.out
    refine hK.out _ _ s0 (fun _ => ?_)
    clear hK K b_
    refine wpAnyH_take (i := 1) (v := ?_) rfl (by kernel_rfl) (by kernel_rfl) (by kernel_rfl) (fun _ _ _ h => h) (Or.inl ⟨by kernel_rfl, ?_⟩) s0 ?_
    rotate_left 1
    · (intro w hS; clear hS; go_simp; try (with_reducible rfl))
    refine wpAnyH_take (i := 2) (v := ?_) rfl (by kernel_rfl) (by kernel_rfl) (by kernel_rfl) (fun _ _ _ h => h) (Or.inl ⟨by kernel_rfl, ?_⟩) s0 ?_
    rotate_left 1
    · (intro w hS; clear hS; go_simp; try (with_reducible rfl))
    refine wpAnyH_take (i := 3) (v := ?_) rfl (by kernel_rfl) (by kernel_rfl) (by kernel_rfl) (fun _ _ _ h => h) (Or.inl ⟨by kernel_rfl, ?_⟩) s0 ?_
    rotate_left 1
    · (intro w hS; clear hS; go_simp; try (with_reducible rfl))
    refine wpAnyH_take (i := 4) (v := ?_) rfl (by kernel_rfl) (by kernel_rfl) (by kernel_rfl) (fun _ _ _ h => h) (Or.inl ⟨by kernel_rfl, ?_⟩) s0 ?_
    rotate_left 1
    · (intro w hS; clear hS; go_simp; try (with_reducible rfl))
    refine wpAnyH_take (i := 5) (v := ?_) rfl (by kernel_rfl) (by kernel_rfl) (by kernel_rfl) (fun _ _ _ h => h) (Or.inl ⟨by kernel_rfl, ?_⟩) s0 ?_
    rotate_left 1
    · (intro w hS; clear hS; go_simp; try (with_reducible rfl))
    refine wpAnyH_take (i := 6) (v := ?_) rfl (by kernel_rfl) (by kernel_rfl) (by kernel_rfl) (fun _ _ _ h => h) (Or.inl ⟨by kernel_rfl, ?_⟩) s0 ?_
    rotate_left 1
    · (intro w hS; clear hS; go_simp; try (with_reducible rfl))
    refine wpAnyH_take (i := 7) (v := .agg (gv u).toArray) rfl (by kernel_rfl) (by kernel_rfl) (by kernel_rfl) (fun _ _ _ h => h) (yieldsIf_load_mid (by kernel_rfl) 25 (.tmp 10) rfl g10 0 (by go_simp) (gv u) _ (fun _ h => rows_of_blk h.2.2.1) Tryz.underlying25 rfl (FX_u.out)) s0 ?_
    refine wpAnyH_take (i := 8) (v := .agg (gv v).toArray) rfl (by kernel_rfl) (by kernel_rfl) (by kernel_rfl) (fun _ _ _ h => h) (yieldsIf_load_mid (by kernel_rfl) 25 (.tmp 12) rfl g12 0 (by go_simp) (gv v) _ (fun _ h => rows_of_blk h.2.2.2) Tryz.underlying25 rfl (FX_v.out)) s0 ?_
    try go_simp
    refine wpAnyH_ready (rs := [9]) (by kernel_rfl) (by simp) ?_
    refine AllReadyH.cons rfl (fun K hK => ?_) AllReadyH.nil
    rw [if_pos (by kernel_rfl)]
    go_simp
    refine (SM1.out ua Ba.out).mono ?_
    rintro e ub ⟨rfl, b_⟩
    have Bb := Lib.hid (show Below U.heap.size U ub from Ba.out.trans (b_.mono Ba.out.size))
    have s0 := SU.out _ Bb.out
    refine hK.out _ _ s0 (fun _ => ?_)
    clear hK K b_
    refine wpAnyH_take (i := 10) (v := ?_) rfl (by kernel_rfl) (by kernel_rfl) (by kernel_rfl) (fun _ _ _ h => h) (Or.inl ⟨by kernel_rfl, ?_⟩) s0 ?_
    rotate_left 1
    · (intro w hS; clear hS; go_simp; try (with_reducible rfl))
    refine wpAnyH_take (i := 11) (v := ?_) rfl (by kernel_rfl) (by kernel_rfl) (by kernel_rfl) (fun _ _ _ h => h) (Or.inl ⟨by kernel_rfl, ?_⟩) s0 ?_
    rotate_left 1
    · (intro w hS; clear hS; go_simp; try (with_reducible rfl))
    refine wpAnyH_take (i := 12) (v := .agg (gv u).toArray) rfl (by kernel_rfl) (by kernel_rfl) (by kernel_rfl) (fun _ _ _ h => h) (yieldsIf_load_mid (by kernel_rfl) 25 (.tmp 10) rfl g10 0 (by go_simp) (gv u) _ (fun _ h => rows_of_blk h.2.2.1) Tryz.underlying25 rfl (FX_u.out)) s0 ?_
    refine wpAnyH_take (i := 13) (v := .agg (gv v).toArray) rfl (by kernel_rfl) (by kernel_rfl) (by kernel_rfl) (fun _ _ _ h => h) (yieldsIf_load_mid (by kernel_rfl) 25 (.tmp 12) rfl g12 0 (by go_simp) (gv v) _ (fun _ h => rows_of_blk h.2.2.2) Tryz.underlying25 rfl (FX_v.out)) s0 ?_
    try go_simp
    refine wpAnyH_ready (rs := [14]) (by kernel_rfl) (by simp) ?_
    refine AllReadyH.cons rfl (fun K hK => ?_) AllReadyH.nil
    rw [if_pos (by kernel_rfl)]
    go_simp
    refine (SM2.out ub Bb.out).mono ?_
    rintro e uc ⟨rfl, b_⟩
    have Bc := Lib.hid (show Below U.heap.size U uc from Bb.out.trans (b_.mono Bb.out.size))
    have s0 := SU.out _ Bc.out
    refine hK.out _ _ s0 (fun _ => ?_)
    clear hK K b_
    refine wpAnyH_take (i := 15) (v := ?_) rfl (by kernel_rfl) (by kernel_rfl) (by kernel_rfl) (fun _ _ _ h => h) (Or.inl ⟨by kernel_rfl, ?_⟩) s0 ?_
    rotate_left 1
    · (intro w hS; clear hS; go_simp; try (with_reducible rfl))
    refine wpAnyH_take (i := 16) (v := ?_) rfl (by kernel_rfl) (by kernel_rfl) (by kernel_rfl) (fun _ _ _ h => h) (Or.inl ⟨by kernel_rfl, ?_⟩) s0 ?_
    rotate_left 1
    · (intro w hS; clear hS; go_simp; try (with_reducible rfl))
    refine wpAnyH_take (i := 17) (v := .agg (gv x).toArray) rfl (by kernel_rfl) (by kernel_rfl) (by kernel_rfl) (fun _ _ _ h => h) (yieldsIf_load_mid (by kernel_rfl) 25 (.tmp 3) rfl w.heap.size 0 (by go_simp) (gv x) _ (fun _ h => rows_of_blk h.1) Tryz.underlying25 rfl (FX.out)) s0 ?_
    refine wpAnyH_take (i := 18) (v := .agg (gv y).toArray) rfl (by kernel_rfl) (by kernel_rfl) (by kernel_rfl) (fun _ _ _ h => h) (yieldsIf_load_mid (by kernel_rfl) 25 (.tmp 4) rfl (w.heap.size + 1) 0 (by go_simp) (gv y) _ (fun _ h => rows_of_blk h.2.1) Tryz.underlying25 rfl (FY.out)) s0 ?_
    refine wpAnyH_take (i := 20) (v := .agg (gv x).toArray) rfl (by kernel_rfl) (by kernel_rfl) (by kernel_rfl) (fun _ _ _ h => h) (yieldsIf_load_mid (by kernel_rfl) 25 (.tmp 3) rfl w.heap.size 0 (by go_simp) (gv x) _ (fun _ h => rows_of_blk h.1) Tryz.underlying25 rfl (FX.out)) s0 ?_
    refine wpAnyH_take (i := 21) (v := .agg (gv y).toArray) rfl (by kernel_rfl) (by kernel_rfl) (by kernel_rfl) (fun _ _ _ h => h) (yieldsIf_load_mid (by kernel_rfl) 25 (.tmp 4) rfl (w.heap.size + 1) 0 (by go_simp) (gv y) _ (fun _ h => rows_of_blk h.2.1) Tryz.underlying25 rfl (FY.out)) s0 ?_
    try go_simp
    refine wpAnyH_ready (rs := [19]) (by kernel_rfl) (by simp) ?_
    refine AllReadyH.cons rfl (fun K hK => ?_) AllReadyH.nil
    rw [if_pos (by kernel_rfl)]
    go_simp
    refine (SM3.out uc Bc.out).mono ?_
    rintro e ud ⟨rfl, b_⟩
    have Bd := Lib.hid (show Below U.heap.size U ud from Bc.out.trans (b_.mono Bc.out.size))
    have s0 := SU.out _ Bd.out
    refine hK.out _ _ s0 (fun _ => ?_)
    clear hK K b_
    try go_simp
    refine wpAnyH_ready (rs := [22]) (by kernel_rfl) (by simp) ?_
    refine AllReadyH.cons rfl (fun K hK => ?_) AllReadyH.nil
    rw [if_pos (by kernel_rfl)]
    go_simp
    refine (SM4.out ud Bd.out).mono ?_
    rintro e ue ⟨rfl, b_⟩
    have Be := Lib.hid (show Below U.heap.size U ue from Bd.out.trans (b_.mono Bd.out.size))
    have s0 := SU.out _ Be.out
    refine hK.out _ _ s0 (fun _ => ?_)
    clear hK K b_
    refine wpAnyH_take (i := 23) (v := ?_) rfl (by kernel_rfl) (by kernel_rfl) (by kernel_rfl) (fun _ _ _ h => h) (Or.inl ⟨by kernel_rfl, ?_⟩) s0 ?_
    rotate_left 1
    · (intro w hS; clear hS; go_simp; try (with_reducible rfl))
    refine wpAnyH_take (i := 24) (v := ?_) rfl (by kernel_rfl) (by kernel_rfl) (by kernel_rfl) (fun _ _ _ h => h) (Or.inl ⟨by kernel_rfl, ?_⟩) s0 ?_
    rotate_left 1
    · (intro w hS; clear hS; go_simp; try (with_reducible rfl))
    refine wpAnyH_take (i := 25) (v := ?_) rfl (by kernel_rfl) (by kernel_rfl) (by kernel_rfl) (fun _ _ _ h => h) (Or.inl ⟨by kernel_rfl, ?_⟩) s0 ?_
    rotate_left 1
    · (intro w hS; clear hS; go_simp; try (with_reducible rfl))
    refine wpAnyH_take (i := 26) (v := .agg (gv x).toArray) rfl (by kernel_rfl) (by kernel_rfl) (by kernel_rfl) (fun _ _ _ h => h) (yieldsIf_load_mid (by kernel_rfl) 25 (.tmp 3) rfl w.heap.size 0 (by go_simp) (gv x) _ (fun _ h => rows_of_blk h.1) Tryz.underlying25 rfl (FX.out)) s0 ?_
    refine wpAnyH_take (i := 28) (v := .agg (gv x).toArray) rfl (by kernel_rfl) (by kernel_rfl) (by kernel_rfl) (fun _ _ _ h => h) (yieldsIf_load_mid (by kernel_rfl) 25 (.tmp 3) rfl w.heap.size 0 (by go_simp) (gv x) _ (fun _ h => rows_of_blk h.1) Tryz.underlying25 rfl (FX.out)) s0 ?_
    try go_simp
    refine wpAnyH_ready (rs := [27]) (by kernel_rfl) (by simp) ?_
    refine AllReadyH.cons rfl (fun K hK => ?_) AllReadyH.nil
    rw [if_pos (by kernel_rfl)]
    go_simp
    refine (AN1.out ue Be.out).mono ?_
    rintro e uf ⟨rfl, b_⟩
    have Bf := Lib.hid (show Below U.heap.size U uf from Be.out.trans (b_.mono Be.out.size))
    have s0 := SU.out _ Bf.out
    refine hK.out _ _ s0 (fun _ => ?_)
    clear hK K b_
    try go_simp
    refine wpAnyH_ready (rs := [29]) (by kernel_rfl) (by simp) ?_
    refine AllReadyH.cons rfl (fun K hK => ?_) AllReadyH.nil
    rw [if_pos (by kernel_rfl)]
    go_simp
    refine (AN2.out uf Bf.out).mono ?_
    rintro e ug ⟨rfl, b_⟩
    have Bg := Lib.hid (show Below U.heap.size U ug from Bf.out.trans (b_.mono Bf.out.size))
    have s0 := SU.out _ Bg.out
    refine hK.out _ _ s0 (fun _ => ?_)
    clear hK K b_
    refine wpAnyH_take (i := 30) (v := ?_) rfl (by kernel_rfl) (by kernel_rfl) (by kernel_rfl) (fun _ _ _ h => h) (Or.inl ⟨by kernel_rfl, ?_⟩) s0 ?_
    rotate_left 1
    · (intro w hS; clear hS; go_simp; try (with_reducible rfl))
    refine wpAnyH_take (i := 31) (v := ?_) rfl (by kernel_rfl) (by kernel_rfl) (by kernel_rfl) (fun _ _ _ h => h) (Or.inl ⟨by kernel_rfl, ?_⟩) s0 ?_
    rotate_left 1
    · (intro w hS; clear hS; go_simp; try (with_reducible rfl))
    refine wpAnyH_take (i := 32) (v := ?_) rfl (by kernel_rfl) (by kernel_rfl) (by kernel_rfl) (fun _ _ _ h => h) (Or.inl ⟨by kernel_rfl, ?_⟩) s0 ?_
    rotate_left 1
    · (intro w hS; clear hS; go_simp; try (with_reducible rfl))
    refine wpAnyH_take (i := 33) (v := .agg (gv x).toArray) rfl (by kernel_rfl) (by kernel_rfl) (by kernel_rfl) (fun _ _ _ h => h) (yieldsIf_load_mid (by kernel_rfl) 25 (.tmp 3) rfl w.heap.size 0 (by go_simp) (gv x) _ (fun _ h => rows_of_blk h.1) Tryz.underlying25 rfl (FX.out)) s0 ?_
    refine wpAnyH_take (i := 35) (v := .agg (gv x).toArray) rfl (by kernel_rfl) (by kernel_rfl) (by kernel_rfl) (fun _ _ _ h => h) (yieldsIf_load_mid (by kernel_rfl) 25 (.tmp 3) rfl w.heap.size 0 (by go_simp) (gv x) _ (fun _ h => rows_of_blk h.1) Tryz.underlying25 rfl (FX.out)) s0 ?_
    try go_simp
    refine wpAnyH_ready (rs := [34]) (by kernel_rfl) (by simp) ?_
    refine AllReadyH.cons rfl (fun K hK => ?_) AllReadyH.nil
    rw [if_pos (by kernel_rfl)]
    go_simp
    refine (LI1.out ug Bg.out).mono ?_
    rintro e uh ⟨rfl, b_⟩
    have Bh := Lib.hid (show Below U.heap.size U uh from Bg.out.trans (b_.mono Bg.out.size))
    have s0 := SU.out _ Bh.out
    refine hK.out _ _ s0 (fun _ => ?_)
    clear hK K b_
    try go_simp
    refine wpAnyH_ready (rs := [36]) (by kernel_rfl) (by simp) ?_
    refine AllReadyH.cons rfl (fun K hK => ?_) AllReadyH.nil
    rw [if_pos (by kernel_rfl)]
    go_simp
    refine (LI2.out uh Bh.out).mono ?_
    rintro e ui ⟨rfl, b_⟩
    have Bi := Lib.hid (show Below U.heap.size U ui from Bh.out.trans (b_.mono Bh.out.size))
    have s0 := SU.out _ Bi.out
    refine hK.out _ _ s0 (fun _ => ?_)
    clear hK K b_
    refine wpAnyH_take (i := 37) (v := ?_) rfl (by kernel_rfl) (by kernel_rfl) (by kernel_rfl) (fun _ _ _ h => h) (Or.inl ⟨by kernel_rfl, ?_⟩) s0 ?_
    rotate_left 1
    · (intro w hS; clear hS; go_simp; try (with_reducible rfl))
    refine wpAnyH_take (i := 38) (v := ?_) rfl (by kernel_rfl) (by kernel_rfl) (by kernel_rfl) (fun _ _ _ h => h) (Or.inl ⟨by kernel_rfl, ?_⟩) s0 ?_
    rotate_left 1
    · (intro w hS; clear hS; go_simp; try (with_reducible rfl))
    refine wpAnyH_take (i := 39) (v := ?_) rfl (by kernel_rfl) (by kernel_rfl) (by kernel_rfl) (fun _ _ _ h => h) (Or.inl ⟨by kernel_rfl, ?_⟩) s0 ?_
    rotate_left 1
    · (intro w hS; clear hS; go_simp; try (with_reducible rfl))
    refine wpAnyH_take (i := 40) (v := .agg (gv x).toArray) rfl (by kernel_rfl) (by kernel_rfl) (by kernel_rfl) (fun _ _ _ h => h) (yieldsIf_load_mid (by kernel_rfl) 25 (.tmp 3) rfl w.heap.size 0 (by go_simp) (gv x) _ (fun _ h => rows_of_blk h.1) Tryz.underlying25 rfl (FX.out)) s0 ?_
    refine wpAnyH_take (i := 42) (v := .agg (gv x).toArray) rfl (by kernel_rfl) (by kernel_rfl) (by kernel_rfl) (fun _ _ _ h => h) (yieldsIf_load_mid (by kernel_rfl) 25 (.tmp 3) rfl w.heap.size 0 (by go_simp) (gv x) _ (fun _ h => rows_of_blk h.1) Tryz.underlying25 rfl (FX.out)) s0 ?_
    try go_simp
    refine wpAnyH_ready (rs := [41]) (by kernel_rfl) (by simp) ?_
    refine AllReadyH.cons rfl (fun K hK => ?_) AllReadyH.nil
    rw [if_pos (by kernel_rfl)]
    go_simp
    refine (FI1.out ui Bi.out).mono ?_
    rintro e uj ⟨z1, rfl, h_, y_, b_⟩
    have Bj := Lib.hid (show Below U.heap.size U uj from Bi.out.trans (b_.mono Bi.out.size))
    have H_z1 := Lib.hid h_; have Y_z1 := Lib.hid y_.w
    have s0 := SU.out _ Bj.out
    refine hK.out _ _ s0 (fun _ => ?_)
    clear hK K b_ h_ y_
    try go_simp
    refine wpAnyH_ready (rs := [43]) (by kernel_rfl) (by simp) ?_
    refine AllReadyH.cons rfl (fun K hK => ?_) AllReadyH.nil
    rw [if_pos (by kernel_rfl)]
    go_simp
    refine (FI2.out uj Bj.out).mono ?_
    rintro e uk ⟨z2, rfl, h_, y_, b_⟩
    have Bk := Lib.hid (show Below U.heap.size U uk from Bj.out.trans (b_.mono Bj.out.size))
    have H_z2 := Lib.hid h_; have Y_z2 := Lib.hid y_.w; have Y_z1 := Lib.hid (Y_z1.out.below b_)
    have s0 := SU.out _ Bk.out
    refine hK.out _ _ s0 (fun _ => ?_)
    clear hK K b_ h_ y_
    try go_simp
    refine wpAnyH_ready (rs := [44]) (by kernel_rfl) (by simp) ?_
    refine AllReadyH.cons rfl (fun K hK => ?_) AllReadyH.nil
    rw [if_pos (by kernel_rfl)]
    go_simp
    refine (SPS.out z1 z2 uk Y_z1.out Y_z2.out H_z1.out H_z2.out).mono ?_
    rintro e ul ⟨rfl, b_⟩
    have Bl := Lib.hid (show Below U.heap.size U ul from Bk.out.trans (b_.mono Bk.out.size))
    have s0 := SU.out _ Bl.out
    refine hK.out _ _ s0 (fun _ => ?_)
    clear hK K b_
    refine wpAnyH_take (i := 45) (v := ?_) rfl (by kernel_rfl) (by kernel_rfl) (by kernel_rfl) (fun _ _ _ h => h) (Or.inl ⟨by kernel_rfl, ?_⟩) s0 ?_
    rotate_left 1
    · (intro w hS; clear hS; go_simp; try (with_reducible rfl))
    refine wpAnyH_take (i := 46) (v := ?_) rfl (by kernel_rfl) (by kernel_rfl) (by kernel_rfl) (fun _ _ _ h => h) (Or.inl ⟨by kernel_rfl, ?_⟩) s0 ?_
    rotate_left 1
    · (intro w hS; clear hS; go_simp; try (with_reducible rfl))
    refine wpAnyH_done (by kernel_rfl) ?_ _
    go_simp
    go_wp2_with fail
    go_ret
    exact ⟨rfl, AU.out.bel.trans (Bl.out.mono AU.out.bel.size)⟩
end Go.Proofs.YtlipjglehongeaaGreatDoor
