/-
  THE LAW VoteAsks
-/
import Derived.Test.YtidklgicmhdapaaGreatDoorAv38
import Derived.Test.YtidklgicmhdapaaGreatDoorAv44
import Derived.Test.YtidklgicmhdapaaGreatDoorAv45
namespace Go.Proofs.YtidklgicmhdapaaGreatDoor
open Go Go.RowKit Sh

def gV2 (xs : List Nat) : Vt := if okV9 xs then gotV xs else zVv.vt
def erV2 (xs : List Nat) : Int := if okV9 xs then 0 else 2
theorem vGetA (xs : List Nat) (p : Option Addr) (m c : Nat) (w : World) (hx : xs.length = m) (hp : Sr w p xs) (hb : Bytes xs) (hl : m ≤ 1000000) :
    Calls Tryz.prog 7 #[.slice p m c] w fun e W' => ∃ y : Vv, y.vt = gV2 xs ∧ e = .returned (.tuple #[.agg (vv y).toArray, .int .i64 (erV2 xs)]) ∧ VvW W' y ∧ Below w.heap.size w W' := by
  refine (vGet_t xs p m c w hx hp hb hl).mono ?_
  rintro e W' ⟨b, h⟩
  unfold gV2 erV2
  rcases h with ⟨h1, h2⟩ | ⟨h1, y, h2, h3, h4⟩
  · rw [h1]
    exact ⟨zVv, rfl, h2, zVv_w _, b⟩
  · rw [h1]
    exact ⟨y, h2, h3, h4, b⟩
theorem refGetVA (xs : List Nat) (p : Option Addr) (m c : Nat) (w : World) (hx : xs.length = m) (hc : m ≤ c) (hp : Sr w p xs) (hb : Bytes xs) (hl : m ≤ 1000000) :
    Calls Tryz.prog 8 #[.slice p m c] w fun e W' => ∃ y : Vv, y.vt = gV2 xs ∧ e = .returned (.tuple #[.agg (vv y).toArray, .int .i64 (erV2 xs)]) ∧ VvW W' y ∧ Below w.heap.size w W' := by
  refine (refGetV_t xs p m c w hx hc hp hb hl).mono ?_
  rintro e W' ⟨b, h⟩
  unfold gV2 erV2
  rcases h with ⟨h1, h2⟩ | ⟨h1, y, h2, h3, h4⟩
  · rw [h1]
    exact ⟨zVv, rfl, h2, zVv_w _, b⟩
  · rw [h1]
    exact ⟨y, h2, h3, h4, b⟩
theorem wrap_natV (n : Int) : ∃ q : Nat, q < 18446744073709551616 ∧ IntKind.u64.wrap n = (q : Int) := by
  have h0 : 0 ≤ IntKind.u64.wrap n := by simp [IntKind.wrap, IntKind.bits, IntKind.signed]; omega
  have h1 : IntKind.u64.wrap n < 18446744073709551616 := by simp [IntKind.wrap, IntKind.bits, IntKind.signed]; omega
  generalize IntKind.u64.wrap n = x at *
  exact ⟨x.toNat, by omega, by omega⟩
structure A13 (w0 W : World) (al : List Nat) (x y : Vv) (p : Option Addr) (xs : List Nat) : Prop where
  h : Blk W w0.heap.size 23 (u8s al)
  a : Blk W (w0.heap.size + 1) 26 (vv x)
  b : Blk W (w0.heap.size + 2) 26 (vv y)
  rx : VvI W x
  ry : VvI W y
  p : Sr W p xs
  bel : Below w0.heap.size w0 W
theorem A13.below {w0 W W' : World} {al xs : List Nat} {x y : Vv} {p : Option Addr} (h : A13 w0 W al x y p xs) (hb : Below W.heap.size W W') : A13 w0 W' al x y p xs :=
  ⟨h.h.below hb h.h.lt, h.a.below hb h.a.lt, h.b.below hb h.b.lt, h.rx.below hb, h.ry.below hb, h.p.below hb, h.bel.trans (hb.mono h.bel.size)⟩
set_option maxRecDepth 100000 in
set_option maxHeartbeats 8000000 in
theorem vasks_t (al : List Nat) (n1 : Int) (x y : Vv) (xs : List Nat) (p : Option Addr) (m c : Nat) (w : World) (hal : al.length = 32) (hab : Bytes al) (hx : VvI w x) (hy : VvI w y) (hm : xs.length = m) (hc : m ≤ c) (hp : Sr w p xs) (hb : Bytes xs) (hml : c ≤ maxLen) (hi : KI w) (hk : KAt w) :
    Calls Tryz.prog 3 #[.agg (u8s al).toArray, .int .i64 n1, .agg (vv x).toArray, .agg (vv y).toArray, .slice p m c] w fun e w' => e = .returned (.bool true) ∧ Below w.heap.size w w' := by
  obtain ⟨q, hql, hq⟩ := wrap_natV n1
  have A0 := Lib.hid (show A13 w (((w.alloc (.cells (u8s al).toArray 23)).alloc (.cells (vv x).toArray 26)).alloc (.cells (vv y).toArray 26)) al x y p xs from by
    have b0 : Below w.heap.size w (((w.alloc (.cells (u8s al).toArray 23)).alloc (.cells (vv x).toArray 26)).alloc (.cells (vv y).toArray 26)) := (((Below.refl _ _).alloc (Nat.le_refl _) _).alloc (by simp) _).alloc (by simp; omega) _
    exact ⟨((Blk.new w 23 (u8s al)).alloc _).alloc _, (Blk.new2 w _ 26 (vv x)).alloc _, new3V w _ _ _ _, hx.below b0, hy.below b0, hp.below b0, b0⟩)
  have FX := Lib.hid (vv_size hx.ll); have FY := Lib.hid (vv_size hy.ll); have LX := Lib.hid hx.ll; have LY := Lib.hid hy.ll
  have FA := Lib.hid (hash_size al hal)
  have HI := Lib.hid hi; have HK := Lib.hid hk; have HG := Lib.hid hk.lt
  have HXL := Lib.hid hm; have HC := Lib.hid hc; have HXB := Lib.hid hb; have HAL := Lib.hid hal; have HAB := Lib.hid hab; have HQ := Lib.hid hq; have HQL := Lib.hid hql
  have mlen : m ≤ 9223372036854775807 := by unfold maxLen at hml; omega
  clear hx hy hp hi hk hm hc hb hml hal hab hq hql
  go_enter Tryz.func3, Tryz.ntmps3
  go_upto_region 1 with (fail)
  refine world_at (fun Y => A13 w Y al x y p xs) A0.out ?_
  rintro V s1
  have A1 := Lib.hid s1
  clear s1 A0
  obtain ⟨_, _, c34⟩ := vv_cells A1.out.a LX.out
  obtain ⟨_, _, d34⟩ := vv_cells A1.out.b LY.out
  by_cases h1 : 200 < x.s.length
  · have i1 : (200 : Int) < (x.s.length : Int) := by omega
    have TD := Lib.hid (told13_t V (HI.out.kept A1.out.bel) (HK.out.below A1.out.bel HG.out))
    go_wp2_with fail
    refine TD.out.mono ?_
    rintro e wT ⟨rfl, bT⟩
    go_wp2_with fail
    go_ret
    exact ⟨rfl, A1.out.bel.trans (bT.mono A1.out.bel.size)⟩
  have i1 : ¬ ((200 : Int) < (x.s.length : Int)) := by omega
  by_cases h2 : 200 < y.s.length
  · have i2 : (200 : Int) < (y.s.length : Int) := by omega
    have TD := Lib.hid (told13_t V (HI.out.kept A1.out.bel) (HK.out.below A1.out.bel HG.out))
    go_wp2_with fail
    refine TD.out.mono ?_
    rintro e wT ⟨rfl, bT⟩
    go_wp2_with fail
    go_ret
    exact ⟨rfl, A1.out.bel.trans (bT.mono A1.out.bel.size)⟩
  have i2 : ¬ ((200 : Int) < (y.s.length : Int)) := by omega
  by_cases h3 : 300 < m
  · have i3 : (300 : Int) < (m : Int) := by omega
    have TD := Lib.hid (told13_t V (HI.out.kept A1.out.bel) (HK.out.below A1.out.bel HG.out))
    go_wp2_with fail
    refine TD.out.mono ?_
    rintro e wT ⟨rfl, bT⟩
    go_wp2_with fail
    go_ret
    exact ⟨rfl, A1.out.bel.trans (bT.mono A1.out.bel.size)⟩
  have i3 : ¬ ((300 : Int) < (m : Int)) := by omega
  have WX1 := Lib.hid (A1.out.rx.w (by omega))
  have MT := Lib.hid (refMayV_t x V WX1.out)
  have A1a := Lib.hid A1.out.a
  have PT0 := Lib.hid (fun (W : World) (h : VvW W x) => vPut_t x W h)
  unfold erV byV at PT0
  have PR0 := Lib.hid (fun (W : World) (h : VvW W x) => refPutV_t x W h)
  obtain ⟨mb, hmb⟩ : ∃ b, mayVo x.vt = b := ⟨_, rfl⟩
  rw [hmb] at MT PT0 PR0
  clear hmb
  go_wp2_with ((with_reducible refine load_blk 26 (.tmp 7) (w.heap.size + 1) 26 (vv x) _ rfl rfl ?_ Tryz.underlying26 ?_ ?_ ?_ ?_); exact A1a.out; exact rfl; exact FX.out; exact rfl)
  refine MT.out.mono ?_
  rintro e w2 ⟨rfl, b2⟩
  have A2 := Lib.hid (A1.out.below b2); have WX2 := Lib.hid (WX1.out.below b2)
  clear A1 A1a MT b2 WX1 c34 d34 i1 i2 i3
  have A2a := Lib.hid A2.out.a
  cases mb with
  | false =>
    have PT := Lib.hid (PT0.out w2 WX2.out)
    rw [if_neg (by decide), if_neg (by decide)] at PT
    clear PT0 PR0
    go_wp2_with ((with_reducible refine load_blk 26 (.tmp 7) (w.heap.size + 1) 26 (vv x) _ rfl rfl ?_ Tryz.underlying26 ?_ ?_ ?_ ?_); exact A2a.out; exact rfl; exact FX.out; exact rfl)
    refine PT.out.mono ?_
    rintro e w4 ⟨z, rfl, fr⟩
    obtain ⟨Az, cz, hz, _⟩ := own_form fr.1
    have hz2 : z = .slice Az 0 cz := hz
    subst hz2
    have A4 := Lib.hid (A2.out.below fr.2)
    clear fr hz A2 A2a PT WX2
    have GT := Lib.hid (vGetA xs p m c w4 HXL.out A4.out.p HXB.out (by omega))
    go_wp2_with fail
    refine GT.out.mono ?_
    rintro e w7 ⟨u, hu, rfl, gu, b7⟩
    have BZ7 := Lib.hid b7
    have A7 := Lib.hid (A4.out.below b7); have HU := Lib.hid hu; have GU := Lib.hid gu
    clear A4 GT b7 hu gu
    have FX_u := Lib.hid (vv_size (x := u) GU.out.ll); have FO_u := Lib.hid (vv_one u)
    have L_u := Lib.hid (show (vv zVv).length = (vv u).length from by rw [vv_len GU.out.ll, vv_len (x := zVv) rfl])
    have Z_u := Lib.hid (Blk.new w7 26 (vv zVv))
    have K_u := Lib.hid (Z_u.out.setRow (vv u))
    have B_u := Lib.hid (below_setRow ((Below.refl (w7).heap.size w7).alloc (Nat.le_refl _) (.cells (vv zVv).toArray 26)) (Nat.le_refl _) (vv u).toArray)
    go_upto_region 6 with ((with_reducible refine at_op (.store 26 (.tmp 14) (.tmp 44)) rfl ?_); go_must (refine store_blk 26 (.tmp 14) (.tmp 44) (w7).heap.size 26 (vv zVv) (vv u) rfl rfl Z_u.out L_u.out FX_u.out FO_u.out rfl rfl ?_))
    obtain ⟨V7, hV7⟩ : ∃ V, ((w7).alloc (.cells (vv zVv).toArray 26)).setRow (w7).heap.size (vv u).toArray = V := ⟨_, rfl⟩
    change Code.wp _ _ _ _ (((w7).alloc (.cells (vv zVv).toArray 26)).setRow (w7).heap.size (vv u).toArray)
    rw [hV7] at K_u B_u ⊢
    clear hV7 Z_u FO_u L_u
    have GU8 := Lib.hid (GU.out.below B_u.out); have BY7 := Lib.hid (BZ7.out.trans (B_u.out.mono BZ7.out.size))
    have A8 := Lib.hid (A7.out.below B_u.out)
    obtain ⟨g14, hg14⟩ : ∃ g, w7.heap.size = g := ⟨_, rfl⟩
    rw [hg14] at K_u ⊢
    clear A7 GU B_u hg14
    have RT := Lib.hid (refGetVA xs p m c V7 HXL.out HC.out A8.out.p HXB.out (by omega))
    go_wp2_with fail
    refine RT.out.mono ?_
    rintro e w8 ⟨v, hv, rfl, gz, b8⟩
    have BW8 := Lib.hid (BY7.out.trans (b8.mono BY7.out.size))
    clear BZ7 BY7
    have A9 := Lib.hid (A8.out.below b8); have HV := Lib.hid hv; have GU9 := Lib.hid (GU8.out.below b8); have K9 := Lib.hid (K_u.out.below b8 K_u.out.lt); have GZ := Lib.hid gz
    clear A8 RT b8 hv gz GU8 K_u
    have FX_v := Lib.hid (vv_size (x := v) GZ.out.ll); have FO_v := Lib.hid (vv_one v)
    have L_v := Lib.hid (show (vv zVv).length = (vv v).length from by rw [vv_len GZ.out.ll, vv_len (x := zVv) rfl])
    have Z_v := Lib.hid (Blk.new w8 26 (vv zVv))
    have K_v := Lib.hid (Z_v.out.setRow (vv v))
    have B_v := Lib.hid (below_setRow ((Below.refl (w8).heap.size w8).alloc (Nat.le_refl _) (.cells (vv zVv).toArray 26)) (Nat.le_refl _) (vv v).toArray)
    go_upto_region 7 with ((with_reducible refine at_op (.store 26 (.tmp 16) (.tmp 49)) rfl ?_); go_must (refine store_blk 26 (.tmp 16) (.tmp 49) (w8).heap.size 26 (vv zVv) (vv v) rfl rfl Z_v.out L_v.out FX_v.out FO_v.out rfl rfl ?_))
    obtain ⟨V8, hV8⟩ : ∃ V, ((w8).alloc (.cells (vv zVv).toArray 26)).setRow (w8).heap.size (vv v).toArray = V := ⟨_, rfl⟩
    change Code.wp _ _ _ _ (((w8).alloc (.cells (vv zVv).toArray 26)).setRow (w8).heap.size (vv v).toArray)
    rw [hV8] at K_v B_v ⊢
    clear hV8 Z_v FO_v L_v
    have BZ8 := Lib.hid (BW8.out.trans (B_v.out.mono BW8.out.size))
    clear BW8
    obtain ⟨g16, hg16⟩ : ∃ g, w8.heap.size = g := ⟨_, rfl⟩
    have BV := Lib.hid B_v.out
    have A10 := Lib.hid (A9.out.below BV.out); have GU10 := Lib.hid (GU9.out.below BV.out); have GZ10 := Lib.hid (GZ.out.below BV.out); have K10 := Lib.hid (K9.out.below BV.out K9.out.lt)
    have KV10 := Lib.hid K_v.out
    rw [hg16] at KV10 ⊢
    clear A9 GU9 GZ K9 K_v B_v BV hg16
    go_upto_region 9 with (fail)
    obtain ⟨U, hU⟩ : ∃ U, V8.drew = U := ⟨_, rfl⟩
    have BVU := Lib.hid (show Below V8.heap.size V8 U from by rw [← hU]; exact (Below.refl _ _).drew)
    have AU := Lib.hid (A10.out.below BVU.out); have GU := Lib.hid (GU10.out.below BVU.out); have GV := Lib.hid (GZ10.out.below BVU.out)
    have KU := Lib.hid (K10.out.below BVU.out K10.out.lt); have KV := Lib.hid (KV10.out.below BVU.out KV10.out.lt)
    clear A10 GU10 GZ10 K10 KV10 BVU
    have WX := Lib.hid (AU.out.rx.w (by omega)); have WY := Lib.hid (AU.out.ry.w (by omega))
    have SU := Lib.hid (fun (Y : World) (hb : Below U.heap.size U Y) => show Blk Y w.heap.size 23 (u8s al) ∧ Blk Y (w.heap.size + 1) 26 (vv x) ∧ Blk Y (w.heap.size + 2) 26 (vv y) ∧ Blk Y g14 26 (vv u) ∧ Blk Y g16 26 (vv v) from
      ⟨AU.out.h.below hb AU.out.h.lt, AU.out.a.below hb AU.out.a.lt, AU.out.b.below hb AU.out.b.lt, KU.out.below hb KU.out.lt, KV.out.below hb KV.out.lt⟩)
    have TT := Lib.hid (fun (Y : World) (hb : Below U.heap.size U Y) => told13_t Y (HI.out.kept (AU.out.bel.trans (hb.mono AU.out.bel.size))) (HK.out.below (AU.out.bel.trans (hb.mono AU.out.bel.size)) HG.out))
    have SE : ∀ e : Vt, sameV e e = true := fun e => sameV_iff.2 rfl
    have SM1 := Lib.hid (fun (Y : World) (hb : Below U.heap.size U Y) => refSameV_t u v Y (GU.out.below hb) (GV.out.below hb))
    rw [HU.out, HV.out, SE] at SM1
    have SM2 := Lib.hid (fun (Y : World) (hb : Below U.heap.size U Y) => vSame_t x y Y (WX.out.below hb) (WY.out.below hb))
    have SM3 := Lib.hid (fun (Y : World) (hb : Below U.heap.size U Y) => refSameV_t x y Y (WX.out.below hb) (WY.out.below hb))
    obtain ⟨sb, hsb⟩ : ∃ b, sameV x.vt y.vt = b := ⟨_, rfl⟩
    rw [hsb] at SM2 SM3
    have SM4 := Lib.hid (fun (Y : World) (hb : Below U.heap.size U Y) => vSame_t x x Y (WX.out.below hb) (WX.out.below hb))
    rw [SE] at SM4
    have TX1 := Lib.hid (fun (Y : World) => vTextG_t al x.l n1 q Y HAL.out WX.out.ll HQ.out HQL.out)
    have TX2 := Lib.hid (fun (Y : World) => show Calls Tryz.prog 14 #[.agg (u8s al).toArray, .int .i64 n1, .agg (u8s x.l).toArray] Y fun e w' => ∃ u, e = .returned u ∧ Fresh 5 Y w' u (textV al q x.l) from refTextG_t al x.l n1 q Y HAL.out WX.out.ll HQ.out)
    have TB := Lib.hid (show Bytes (textV al q x.l) from app_bytes (app_bytes (app_bytes (sl_bytes (by decide)) HAB.out) (beN_bytes _ _)) WX.out.lb)
    obtain ⟨T, hT⟩ : ∃ T, textV al q x.l = T := ⟨_, rfl⟩
    rw [hT] at TX1 TX2 TB
    obtain ⟨ee, hee⟩ : ∃ n, erV2 xs = n := ⟨_, rfl⟩
    rw [hee]
    have FL := Lib.hid (hash_size x.l WX.out.ll)
    clear hsb SE hee hT
    have B0 := Lib.hid (Below.refl U.heap.size U)
    have s0 := SU.out U B0.out
    refine wp_region_held (S := fun Y => Blk Y w.heap.size 23 (u8s al) ∧ Blk Y (w.heap.size + 1) 26 (vv x) ∧ Blk Y (w.heap.size + 2) 26 (vv y) ∧ Blk Y g14 26 (vv u) ∧ Blk Y g16 26 (vv v)) (by kernel_rfl) ?_
    change wpAnyH _ _ _ _ _ _ _ _ V8.drew
    rw [hU]
    clear hU
    try go_simp
    refine wpAnyH_ready (rs := [0]) (by kernel_rfl) (by simp) ?_
    refine AllReadyH.cons rfl (fun K hK => ?_) AllReadyH.nil
    rw [if_pos (by kernel_rfl)]
    go_simp
    refine (TT.out U B0.out).mono ?_
    rintro e ua ⟨rfl, b_⟩
    have Ba := Lib.hid (B0.out.trans (b_.mono B0.out.size))
    have s0 := SU.out _ Ba.out
    refine hK.out _ _ s0 (fun _ => ?_)
    clear hK K b_
    refine wpAnyH_take (i := 1) (v := ?_) rfl (by kernel_rfl) (by kernel_rfl) (by kernel_rfl) (fun _ _ _ h => h) (Or.inl ⟨by kernel_rfl, ?_⟩) s0 ?_
    rotate_left 1
    · (intro w hS; clear hS; go_simp; try (with_reducible rfl))
    refine wpAnyH_take (i := 2) (v := ?_) rfl (by kernel_rfl) (by kernel_rfl) (by kernel_rfl) (fun _ _ _ h => h) (Or.inl ⟨by kernel_rfl, ?_⟩) s0 ?_
    rotate_left 1
    · (intro w hS; clear hS; go_simp; try (with_reducible rfl))
    refine wpAnyH_take (i := 3) (v := ?_) rfl (by kernel_rfl) (by kernel_rfl) (by kernel_rfl) (fun _ _ _ h => h) (Or.inl ⟨by kernel_rfl, ?_⟩) s0 ?_
    rotate_left 1
    · (intro w hS; clear hS; go_simp; try (with_reducible rfl))
    refine wpAnyH_take (i := 4) (v := ?_) rfl (by kernel_rfl) (by kernel_rfl) (by kernel_rfl) (fun _ _ _ h => h) (Or.inl ⟨by kernel_rfl, ?_⟩) s0 ?_
    rotate_left 1
    · (intro w hS; clear hS; go_simp; try (with_reducible rfl))
    refine wpAnyH_take (i := 5) (v := ?_) rfl (by kernel_rfl) (by kernel_rfl) (by kernel_rfl) (fun _ _ _ h => h) (Or.inl ⟨by kernel_rfl, ?_⟩) s0 ?_
    rotate_left 1
    · (intro w hS; clear hS; go_simp; try (with_reducible rfl))
    refine wpAnyH_take (i := 6) (v := ?_) rfl (by kernel_rfl) (by kernel_rfl) (by kernel_rfl) (fun _ _ _ h => h) (Or.inl ⟨by kernel_rfl, ?_⟩) s0 ?_
    rotate_left 1
    · (intro w hS; clear hS; go_simp; try (with_reducible rfl))
    refine wpAnyH_take (i := 7) (v := .agg (vv u).toArray) rfl (by kernel_rfl) (by kernel_rfl) (by kernel_rfl) (fun _ _ _ h => h) (yieldsIf_load_mid (by kernel_rfl) 26 (.tmp 14) rfl g14 0 (by go_simp) (vv u) _ (fun _ h => rows_of_blk h.2.2.2.1) Tryz.underlying26 rfl (FX_u.out)) s0 ?_
    refine wpAnyH_take (i := 8) (v := .agg (vv v).toArray) rfl (by kernel_rfl) (by kernel_rfl) (by kernel_rfl) (fun _ _ _ h => h) (yieldsIf_load_mid (by kernel_rfl) 26 (.tmp 16) rfl g16 0 (by go_simp) (vv v) _ (fun _ h => rows_of_blk h.2.2.2.2) Tryz.underlying26 rfl (FX_v.out)) s0 ?_
    try go_simp
    refine wpAnyH_ready (rs := [9]) (by kernel_rfl) (by simp) ?_
    refine AllReadyH.cons rfl (fun K hK => ?_) AllReadyH.nil
    rw [if_pos (by kernel_rfl)]
    go_simp
    refine (SM1.out ua Ba.out).mono ?_
    rintro e ub ⟨rfl, b_⟩
    have Bb := Lib.hid (Ba.out.trans (b_.mono Ba.out.size))
    have s0 := SU.out _ Bb.out
    refine hK.out _ _ s0 (fun _ => ?_)
    clear hK K b_
    refine wpAnyH_take (i := 10) (v := ?_) rfl (by kernel_rfl) (by kernel_rfl) (by kernel_rfl) (fun _ _ _ h => h) (Or.inl ⟨by kernel_rfl, ?_⟩) s0 ?_
    rotate_left 1
    · (intro w hS; clear hS; go_simp; try (with_reducible rfl))
    refine wpAnyH_take (i := 11) (v := ?_) rfl (by kernel_rfl) (by kernel_rfl) (by kernel_rfl) (fun _ _ _ h => h) (Or.inl ⟨by kernel_rfl, ?_⟩) s0 ?_
    rotate_left 1
    · (intro w hS; clear hS; go_simp; try (with_reducible rfl))
    refine wpAnyH_take (i := 12) (v := .agg (vv x).toArray) rfl (by kernel_rfl) (by kernel_rfl) (by kernel_rfl) (fun _ _ _ h => h) (yieldsIf_load_mid (by kernel_rfl) 26 (.tmp 7) rfl (w.heap.size + 1) 0 (by go_simp) (vv x) _ (fun _ h => rows_of_blk h.2.1) Tryz.underlying26 rfl (FX.out)) s0 ?_
    refine wpAnyH_take (i := 13) (v := .agg (vv y).toArray) rfl (by kernel_rfl) (by kernel_rfl) (by kernel_rfl) (fun _ _ _ h => h) (yieldsIf_load_mid (by kernel_rfl) 26 (.tmp 8) rfl (w.heap.size + 2) 0 (by go_simp) (vv y) _ (fun _ h => rows_of_blk h.2.2.1) Tryz.underlying26 rfl (FY.out)) s0 ?_
    refine wpAnyH_take (i := 15) (v := .agg (vv x).toArray) rfl (by kernel_rfl) (by kernel_rfl) (by kernel_rfl) (fun _ _ _ h => h) (yieldsIf_load_mid (by kernel_rfl) 26 (.tmp 7) rfl (w.heap.size + 1) 0 (by go_simp) (vv x) _ (fun _ h => rows_of_blk h.2.1) Tryz.underlying26 rfl (FX.out)) s0 ?_
    refine wpAnyH_take (i := 16) (v := .agg (vv y).toArray) rfl (by kernel_rfl) (by kernel_rfl) (by kernel_rfl) (fun _ _ _ h => h) (yieldsIf_load_mid (by kernel_rfl) 26 (.tmp 8) rfl (w.heap.size + 2) 0 (by go_simp) (vv y) _ (fun _ h => rows_of_blk h.2.2.1) Tryz.underlying26 rfl (FY.out)) s0 ?_
    try go_simp
    refine wpAnyH_ready (rs := [14]) (by kernel_rfl) (by simp) ?_
    refine AllReadyH.cons rfl (fun K hK => ?_) AllReadyH.nil
    rw [if_pos (by kernel_rfl)]
    go_simp
    refine (SM2.out ub Bb.out).mono ?_
    rintro e uc ⟨rfl, b_⟩
    have Bc := Lib.hid (Bb.out.trans (b_.mono Bb.out.size))
    have s0 := SU.out _ Bc.out
    refine hK.out _ _ s0 (fun _ => ?_)
    clear hK K b_
    try go_simp
    refine wpAnyH_ready (rs := [17]) (by kernel_rfl) (by simp) ?_
    refine AllReadyH.cons rfl (fun K hK => ?_) AllReadyH.nil
    rw [if_pos (by kernel_rfl)]
    go_simp
    refine (SM3.out uc Bc.out).mono ?_
    rintro e ud ⟨rfl, b_⟩
    have Bd := Lib.hid (Bc.out.trans (b_.mono Bc.out.size))
    have s0 := SU.out _ Bd.out
    refine hK.out _ _ s0 (fun _ => ?_)
    clear hK K b_
    refine wpAnyH_take (i := 18) (v := ?_) rfl (by kernel_rfl) (by kernel_rfl) (by kernel_rfl) (fun _ _ _ h => h) (Or.inl ⟨by kernel_rfl, ?_⟩) s0 ?_
    rotate_left 1
    · (intro w hS; clear hS; go_simp; try (with_reducible rfl))
    refine wpAnyH_take (i := 19) (v := ?_) rfl (by kernel_rfl) (by kernel_rfl) (by kernel_rfl) (fun _ _ _ h => h) (Or.inl ⟨by kernel_rfl, ?_⟩) s0 ?_
    rotate_left 1
    · (intro w hS; clear hS; go_simp; try (with_reducible rfl))
    refine wpAnyH_take (i := 20) (v := ?_) rfl (by kernel_rfl) (by kernel_rfl) (by kernel_rfl) (fun _ _ _ h => h) (Or.inl ⟨by kernel_rfl, ?_⟩) s0 ?_
    rotate_left 1
    · (intro w hS; clear hS; go_simp; try (with_reducible rfl))
    refine wpAnyH_take (i := 21) (v := .agg (vv x).toArray) rfl (by kernel_rfl) (by kernel_rfl) (by kernel_rfl) (fun _ _ _ h => h) (yieldsIf_load_mid (by kernel_rfl) 26 (.tmp 7) rfl (w.heap.size + 1) 0 (by go_simp) (vv x) _ (fun _ h => rows_of_blk h.2.1) Tryz.underlying26 rfl (FX.out)) s0 ?_
    refine wpAnyH_take (i := 22) (v := .agg (vv x).toArray) rfl (by kernel_rfl) (by kernel_rfl) (by kernel_rfl) (fun _ _ _ h => h) (yieldsIf_load_mid (by kernel_rfl) 26 (.tmp 7) rfl (w.heap.size + 1) 0 (by go_simp) (vv x) _ (fun _ h => rows_of_blk h.2.1) Tryz.underlying26 rfl (FX.out)) s0 ?_
    try go_simp
    refine wpAnyH_ready (rs := [23]) (by kernel_rfl) (by simp) ?_
    refine AllReadyH.cons rfl (fun K hK => ?_) AllReadyH.nil
    rw [if_pos (by kernel_rfl)]
    go_simp
    refine (SM4.out ud Bd.out).mono ?_
    rintro e uf ⟨rfl, b_⟩
    have Be := Lib.hid (Bd.out.trans (b_.mono Bd.out.size))
    have s0 := SU.out _ Be.out
    refine hK.out _ _ s0 (fun _ => ?_)
    clear hK K b_
    refine wpAnyH_take (i := 24) (v := ?_) rfl (by kernel_rfl) (by kernel_rfl) (by kernel_rfl) (fun _ _ _ h => h) (Or.inl ⟨by kernel_rfl, ?_⟩) s0 ?_
    rotate_left 1
    · (intro w hS; clear hS; go_simp; try (with_reducible rfl))
    refine wpAnyH_take (i := 25) (v := ?_) rfl (by kernel_rfl) (by kernel_rfl) (by kernel_rfl) (fun _ _ _ h => h) (Or.inl ⟨by kernel_rfl, ?_⟩) s0 ?_
    rotate_left 1
    · (intro w hS; clear hS; go_simp; try (with_reducible rfl))
    refine wpAnyH_take (i := 26) (v := .agg (u8s al).toArray) rfl (by kernel_rfl) (by kernel_rfl) (by kernel_rfl) (fun _ _ _ h => h) (yieldsIf_load_mid (by kernel_rfl) 23 (.tmp 5) rfl w.heap.size 0 (by go_simp) (u8s al) _ (fun _ h => rows_of_blk h.1) Tryz.underlying23 rfl (FA.out)) s0 ?_
    refine wpAnyH_take (i := 27) (v := ?_) rfl (by kernel_rfl) (by kernel_rfl) (by kernel_rfl) (fun _ _ _ h => h) (Or.inl ⟨by kernel_rfl, ?_⟩) s0 ?_
    rotate_left 1
    · (intro w hS; clear hS; go_simp; try (with_reducible rfl))
    refine wpAnyH_take (i := 28) (v := ?_) rfl (by kernel_rfl) (by kernel_rfl) (by kernel_rfl) (fun _ _ _ h => h) (Or.inl ⟨by kernel_rfl, ?_⟩) s0 ?_
    rotate_left 1
    · (intro w hS; clear hS; go_simp; try (with_reducible rfl))
    refine wpAnyH_take (i := 29) (v := .agg (u8s x.l).toArray) rfl (by kernel_rfl) (by kernel_rfl) (by kernel_rfl) (fun _ _ _ h => h) (yieldsIf_load_mid (by kernel_rfl) 23 (.tmp 106) rfl (w.heap.size + 1) 2 (by go_simp) (u8s x.l) _ (fun _ h => vv_range h.2.1) Tryz.underlying23 rfl (FL.out)) s0 ?_
    refine wpAnyH_take (i := 31) (v := .agg (u8s al).toArray) rfl (by kernel_rfl) (by kernel_rfl) (by kernel_rfl) (fun _ _ _ h => h) (yieldsIf_load_mid (by kernel_rfl) 23 (.tmp 5) rfl w.heap.size 0 (by go_simp) (u8s al) _ (fun _ h => rows_of_blk h.1) Tryz.underlying23 rfl (FA.out)) s0 ?_
    refine wpAnyH_take (i := 32) (v := ?_) rfl (by kernel_rfl) (by kernel_rfl) (by kernel_rfl) (fun _ _ _ h => h) (Or.inl ⟨by kernel_rfl, ?_⟩) s0 ?_
    rotate_left 1
    · (intro w hS; clear hS; go_simp; try (with_reducible rfl))
    refine wpAnyH_take (i := 33) (v := ?_) rfl (by kernel_rfl) (by kernel_rfl) (by kernel_rfl) (fun _ _ _ h => h) (Or.inl ⟨by kernel_rfl, ?_⟩) s0 ?_
    rotate_left 1
    · (intro w hS; clear hS; go_simp; try (with_reducible rfl))
    refine wpAnyH_take (i := 34) (v := .agg (u8s x.l).toArray) rfl (by kernel_rfl) (by kernel_rfl) (by kernel_rfl) (fun _ _ _ h => h) (yieldsIf_load_mid (by kernel_rfl) 23 (.tmp 111) rfl (w.heap.size + 1) 2 (by go_simp) (u8s x.l) _ (fun _ h => vv_range h.2.1) Tryz.underlying23 rfl (FL.out)) s0 ?_
    try go_simp
    refine wpAnyH_ready (rs := [30]) (by kernel_rfl) (by simp) ?_
    refine AllReadyH.cons rfl (fun K hK => ?_) AllReadyH.nil
    rw [if_pos (by kernel_rfl)]
    go_simp
    refine (TX1.out uf).mono ?_
    rintro e ug ⟨u_, rfl, fr_⟩
    obtain ⟨P1, c1, rfl, _, sr_, b_⟩ := fresh_opK fr_
    have Bg := Lib.hid (Be.out.trans (b_.mono Be.out.size)); have B_P1 := Lib.hid b_; have S_P1 := Lib.hid sr_
    have s0 := SU.out _ Bg.out
    refine hK.out _ _ s0 (fun _ => ?_)
    clear hK K b_ sr_ fr_
    try go_simp
    refine wpAnyH_ready (rs := [35]) (by kernel_rfl) (by simp) ?_
    refine AllReadyH.cons rfl (fun K hK => ?_) AllReadyH.nil
    rw [if_pos (by kernel_rfl)]
    go_simp
    refine (TX2.out ug).mono ?_
    rintro e uh ⟨u_, rfl, fr_⟩
    obtain ⟨P2, c2, rfl, _, sr_, b_⟩ := fresh_opK fr_
    have Bh := Lib.hid (Bg.out.trans (b_.mono Bg.out.size)); have B_P2 := Lib.hid b_; have S_P2 := Lib.hid sr_
    have s0 := SU.out _ Bh.out
    refine hK.out _ _ s0 (fun _ => ?_)
    clear hK K b_ sr_ fr_
    have SP1 := Lib.hid (S_P1.out.below B_P2.out)
    have SME := Lib.hid (same_textsTX T T P1 P2 T.length T.length c1 c2 uh rfl rfl SP1.out S_P2.out TB.out TB.out)
    rw [decide_eq_true rfl] at SME
    try go_simp
    refine wpAnyH_ready (rs := [36]) (by kernel_rfl) (by simp) ?_
    refine AllReadyH.cons rfl (fun K hK => ?_) AllReadyH.nil
    rw [if_pos (by kernel_rfl)]
    go_simp
    refine SME.out.mono ?_
    rintro e ui ⟨rfl, rfl⟩
    refine hK.out _ _ s0 (fun _ => ?_)
    clear hK K
    refine wpAnyH_take (i := 37) (v := ?_) rfl (by kernel_rfl) (by kernel_rfl) (by kernel_rfl) (fun _ _ _ h => h) (Or.inl ⟨by kernel_rfl, ?_⟩) s0 ?_
    rotate_left 1
    · (intro w hS; clear hS; go_simp; try (with_reducible rfl))
    refine wpAnyH_take (i := 38) (v := ?_) rfl (by kernel_rfl) (by kernel_rfl) (by kernel_rfl) (fun _ _ _ h => h) (Or.inl ⟨by kernel_rfl, ?_⟩) s0 ?_
    rotate_left 1
    · (intro w hS; clear hS; go_simp; try (with_reducible rfl))
    refine wpAnyH_done (by kernel_rfl) ?_ _
    go_simp
    go_wp2_with fail
    go_ret
    exact ⟨rfl, AU.out.bel.trans (Bh.out.mono AU.out.bel.size)⟩
  | true =>
    have PT := Lib.hid (PT0.out w2 WX2.out)
    rw [if_pos rfl, if_pos rfl] at PT
    clear PT0
    go_wp2_with ((with_reducible refine load_blk 26 (.tmp 7) (w.heap.size + 1) 26 (vv x) _ rfl rfl ?_ Tryz.underlying26 ?_ ?_ ?_ ?_); exact A2a.out; exact rfl; exact FX.out; exact rfl)
    refine PT.out.mono ?_
    rintro e w4 ⟨z, rfl, fr⟩
    have PGB := Lib.hid (show Bytes (putV x.vt) from app_bytes (beN_bytes _ _) (app_bytes (beN_bytes _ _) (app_bytes WX2.out.lb (app_bytes (beN_bytes _ _) WX2.out.sb))))
    obtain ⟨pg, hpg⟩ : ∃ l, putV x.vt = l := ⟨_, rfl⟩
    rw [hpg] at fr PGB PR0
    obtain ⟨Az, cz, rfl, _, sz, bz⟩ := fresh_opK fr
    have SZ := Lib.hid sz
    have A4 := Lib.hid (A2.out.below bz)
    clear fr sz bz A2 A2a PT WX2 hpg
    have GT := Lib.hid (vGetA xs p m c w4 HXL.out A4.out.p HXB.out (by omega))
    go_wp2_with fail
    refine GT.out.mono ?_
    rintro e w7 ⟨u, hu, rfl, gu, b7⟩
    have BZ7 := Lib.hid b7
    have A7 := Lib.hid (A4.out.below b7); have HU := Lib.hid hu; have GU := Lib.hid gu
    clear A4 GT b7 hu gu
    have FX_u := Lib.hid (vv_size (x := u) GU.out.ll); have FO_u := Lib.hid (vv_one u)
    have L_u := Lib.hid (show (vv zVv).length = (vv u).length from by rw [vv_len GU.out.ll, vv_len (x := zVv) rfl])
    have Z_u := Lib.hid (Blk.new w7 26 (vv zVv))
    have K_u := Lib.hid (Z_u.out.setRow (vv u))
    have B_u := Lib.hid (below_setRow ((Below.refl (w7).heap.size w7).alloc (Nat.le_refl _) (.cells (vv zVv).toArray 26)) (Nat.le_refl _) (vv u).toArray)
    go_upto_region 6 with ((with_reducible refine at_op (.store 26 (.tmp 14) (.tmp 44)) rfl ?_); go_must (refine store_blk 26 (.tmp 14) (.tmp 44) (w7).heap.size 26 (vv zVv) (vv u) rfl rfl Z_u.out L_u.out FX_u.out FO_u.out rfl rfl ?_))
    obtain ⟨V7, hV7⟩ : ∃ V, ((w7).alloc (.cells (vv zVv).toArray 26)).setRow (w7).heap.size (vv u).toArray = V := ⟨_, rfl⟩
    change Code.wp _ _ _ _ (((w7).alloc (.cells (vv zVv).toArray 26)).setRow (w7).heap.size (vv u).toArray)
    rw [hV7] at K_u B_u ⊢
    clear hV7 Z_u FO_u L_u
    have GU8 := Lib.hid (GU.out.below B_u.out); have BY7 := Lib.hid (BZ7.out.trans (B_u.out.mono BZ7.out.size))
    have A8 := Lib.hid (A7.out.below B_u.out)
    obtain ⟨g14, hg14⟩ : ∃ g, w7.heap.size = g := ⟨_, rfl⟩
    rw [hg14] at K_u ⊢
    clear A7 GU B_u hg14
    have RT := Lib.hid (refGetVA xs p m c V7 HXL.out HC.out A8.out.p HXB.out (by omega))
    go_wp2_with fail
    refine RT.out.mono ?_
    rintro e w8 ⟨v, hv, rfl, gz, b8⟩
    have BW8 := Lib.hid (BY7.out.trans (b8.mono BY7.out.size))
    clear BZ7 BY7
    have A9 := Lib.hid (A8.out.below b8); have HV := Lib.hid hv; have GU9 := Lib.hid (GU8.out.below b8); have K9 := Lib.hid (K_u.out.below b8 K_u.out.lt); have GZ := Lib.hid gz
    clear A8 RT b8 hv gz GU8 K_u
    have FX_v := Lib.hid (vv_size (x := v) GZ.out.ll); have FO_v := Lib.hid (vv_one v)
    have L_v := Lib.hid (show (vv zVv).length = (vv v).length from by rw [vv_len GZ.out.ll, vv_len (x := zVv) rfl])
    have Z_v := Lib.hid (Blk.new w8 26 (vv zVv))
    have K_v := Lib.hid (Z_v.out.setRow (vv v))
    have B_v := Lib.hid (below_setRow ((Below.refl (w8).heap.size w8).alloc (Nat.le_refl _) (.cells (vv zVv).toArray 26)) (Nat.le_refl _) (vv v).toArray)
    go_upto_region 7 with ((with_reducible refine at_op (.store 26 (.tmp 16) (.tmp 49)) rfl ?_); go_must (refine store_blk 26 (.tmp 16) (.tmp 49) (w8).heap.size 26 (vv zVv) (vv v) rfl rfl Z_v.out L_v.out FX_v.out FO_v.out rfl rfl ?_))
    obtain ⟨V8, hV8⟩ : ∃ V, ((w8).alloc (.cells (vv zVv).toArray 26)).setRow (w8).heap.size (vv v).toArray = V := ⟨_, rfl⟩
    change Code.wp _ _ _ _ (((w8).alloc (.cells (vv zVv).toArray 26)).setRow (w8).heap.size (vv v).toArray)
    rw [hV8] at K_v B_v ⊢
    clear hV8 Z_v FO_v L_v
    have BZ8 := Lib.hid (BW8.out.trans (B_v.out.mono BW8.out.size))
    clear BW8
    obtain ⟨g16, hg16⟩ : ∃ g, w8.heap.size = g := ⟨_, rfl⟩
    have BV := Lib.hid B_v.out
    have A10 := Lib.hid (A9.out.below BV.out); have GU10 := Lib.hid (GU9.out.below BV.out); have GZ10 := Lib.hid (GZ.out.below BV.out); have K10 := Lib.hid (K9.out.below BV.out K9.out.lt)
    have KV10 := Lib.hid K_v.out
    rw [hg16] at KV10 ⊢
    have SZ10 := Lib.hid (show Sr V8 Az pg from by
      have h4 := SZ.out
      exact h4.below (BZ8.out))
    clear A9 GU9 GZ K9 K_v B_v BV hg16
    have A10a := Lib.hid A10.out.a
    have PR := Lib.hid (PR0.out V8 (A10.out.rx.w (by omega)) trivial)
    go_wp2_with ((with_reducible refine load_blk_gdO 72 26 (.tmp 7) (w.heap.size + 1) 26 (vv x) _ ?_ ?_ rfl ?_ Tryz.underlying26 ?_ ?_ ?_ ?_); exact rfl; kernel_rfl; exact A10a.out; exact rfl; exact FX.out; exact rfl)
    refine PR.out.mono ?_
    rintro e w11 ⟨z2, rfl, fr⟩
    obtain ⟨A2, c2, rfl, _, s2, b11⟩ := fresh_opK fr
    have SZ11 := Lib.hid (SZ10.out.below b11); have S2 := Lib.hid s2
    have A11 := Lib.hid (A10.out.below b11); have GU11 := Lib.hid (GU10.out.below b11); have GZ11 := Lib.hid (GZ10.out.below b11); have K11 := Lib.hid (K10.out.below b11 K10.out.lt); have KV11 := Lib.hid (KV10.out.below b11 KV10.out.lt)
    clear fr s2 b11 A10 GU10 GZ10 K10 KV10 SZ10 PR PR0 A10a
    have SME := Lib.hid (same_textsTX pg pg Az A2 pg.length pg.length cz c2 w11 rfl rfl SZ11.out S2.out PGB.out PGB.out)
    rw [decide_eq_true rfl] at SME
    go_wp2_with fail
    refine SME.out.mono ?_
    rintro e w12 ⟨rfl, rfl⟩
    clear SME SZ11 S2 PGB
    go_upto_region 9 with (fail)
    obtain ⟨U, hU⟩ : ∃ U, w11.drew = U := ⟨_, rfl⟩
    have BVU := Lib.hid (show Below w11.heap.size w11 U from by rw [← hU]; exact (Below.refl _ _).drew)
    have AU := Lib.hid (A11.out.below BVU.out); have GU := Lib.hid (GU11.out.below BVU.out); have GV := Lib.hid (GZ11.out.below BVU.out)
    have KU := Lib.hid (K11.out.below BVU.out K11.out.lt); have KV := Lib.hid (KV11.out.below BVU.out KV11.out.lt)
    clear A11 GU11 GZ11 K11 KV11 BVU
    have WX := Lib.hid (AU.out.rx.w (by omega)); have WY := Lib.hid (AU.out.ry.w (by omega))
    have SU := Lib.hid (fun (Y : World) (hb : Below U.heap.size U Y) => show Blk Y w.heap.size 23 (u8s al) ∧ Blk Y (w.heap.size + 1) 26 (vv x) ∧ Blk Y (w.heap.size + 2) 26 (vv y) ∧ Blk Y g14 26 (vv u) ∧ Blk Y g16 26 (vv v) from
      ⟨AU.out.h.below hb AU.out.h.lt, AU.out.a.below hb AU.out.a.lt, AU.out.b.below hb AU.out.b.lt, KU.out.below hb KU.out.lt, KV.out.below hb KV.out.lt⟩)
    have TT := Lib.hid (fun (Y : World) (hb : Below U.heap.size U Y) => told13_t Y (HI.out.kept (AU.out.bel.trans (hb.mono AU.out.bel.size))) (HK.out.below (AU.out.bel.trans (hb.mono AU.out.bel.size)) HG.out))
    have SE : ∀ e : Vt, sameV e e = true := fun e => sameV_iff.2 rfl
    have SM1 := Lib.hid (fun (Y : World) (hb : Below U.heap.size U Y) => refSameV_t u v Y (GU.out.below hb) (GV.out.below hb))
    rw [HU.out, HV.out, SE] at SM1
    have SM2 := Lib.hid (fun (Y : World) (hb : Below U.heap.size U Y) => vSame_t x y Y (WX.out.below hb) (WY.out.below hb))
    have SM3 := Lib.hid (fun (Y : World) (hb : Below U.heap.size U Y) => refSameV_t x y Y (WX.out.below hb) (WY.out.below hb))
    obtain ⟨sb, hsb⟩ : ∃ b, sameV x.vt y.vt = b := ⟨_, rfl⟩
    rw [hsb] at SM2 SM3
    have SM4 := Lib.hid (fun (Y : World) (hb : Below U.heap.size U Y) => vSame_t x x Y (WX.out.below hb) (WX.out.below hb))
    rw [SE] at SM4
    have TX1 := Lib.hid (fun (Y : World) => vTextG_t al x.l n1 q Y HAL.out WX.out.ll HQ.out HQL.out)
    have TX2 := Lib.hid (fun (Y : World) => show Calls Tryz.prog 14 #[.agg (u8s al).toArray, .int .i64 n1, .agg (u8s x.l).toArray] Y fun e w' => ∃ u, e = .returned u ∧ Fresh 5 Y w' u (textV al q x.l) from refTextG_t al x.l n1 q Y HAL.out WX.out.ll HQ.out)
    have TB := Lib.hid (show Bytes (textV al q x.l) from app_bytes (app_bytes (app_bytes (sl_bytes (by decide)) HAB.out) (beN_bytes _ _)) WX.out.lb)
    obtain ⟨T, hT⟩ : ∃ T, textV al q x.l = T := ⟨_, rfl⟩
    rw [hT] at TX1 TX2 TB
    obtain ⟨ee, hee⟩ : ∃ n, erV2 xs = n := ⟨_, rfl⟩
    rw [hee]
    have FL := Lib.hid (hash_size x.l WX.out.ll)
    clear hsb SE hee hT
    have B0 := Lib.hid (Below.refl U.heap.size U)
    have s0 := SU.out U B0.out
    refine wp_region_held (S := fun Y => Blk Y w.heap.size 23 (u8s al) ∧ Blk Y (w.heap.size + 1) 26 (vv x) ∧ Blk Y (w.heap.size + 2) 26 (vv y) ∧ Blk Y g14 26 (vv u) ∧ Blk Y g16 26 (vv v)) (by kernel_rfl) ?_
    change wpAnyH _ _ _ _ _ _ _ _ w11.drew
    rw [hU]
    clear hU
    try go_simp
    refine wpAnyH_ready (rs := [0]) (by kernel_rfl) (by simp) ?_
    refine AllReadyH.cons rfl (fun K hK => ?_) AllReadyH.nil
    rw [if_pos (by kernel_rfl)]
    go_simp
    refine (TT.out U B0.out).mono ?_
    rintro e ua ⟨rfl, b_⟩
    have Ba := Lib.hid (B0.out.trans (b_.mono B0.out.size))
    have s0 := SU.out _ Ba.out
    refine hK.out _ _ s0 (fun _ => ?_)
    clear hK K b_
    refine wpAnyH_take (i := 1) (v := ?_) rfl (by kernel_rfl) (by kernel_rfl) (by kernel_rfl) (fun _ _ _ h => h) (Or.inl ⟨by kernel_rfl, ?_⟩) s0 ?_
    rotate_left 1
    · (intro w hS; clear hS; go_simp; try (with_reducible rfl))
    refine wpAnyH_take (i := 2) (v := ?_) rfl (by kernel_rfl) (by kernel_rfl) (by kernel_rfl) (fun _ _ _ h => h) (Or.inl ⟨by kernel_rfl, ?_⟩) s0 ?_
    rotate_left 1
    · (intro w hS; clear hS; go_simp; try (with_reducible rfl))
    refine wpAnyH_take (i := 3) (v := ?_) rfl (by kernel_rfl) (by kernel_rfl) (by kernel_rfl) (fun _ _ _ h => h) (Or.inl ⟨by kernel_rfl, ?_⟩) s0 ?_
    rotate_left 1
    · (intro w hS; clear hS; go_simp; try (with_reducible rfl))
    refine wpAnyH_take (i := 4) (v := ?_) rfl (by kernel_rfl) (by kernel_rfl) (by kernel_rfl) (fun _ _ _ h => h) (Or.inl ⟨by kernel_rfl, ?_⟩) s0 ?_
    rotate_left 1
    · (intro w hS; clear hS; go_simp; try (with_reducible rfl))
    refine wpAnyH_take (i := 5) (v := ?_) rfl (by kernel_rfl) (by kernel_rfl) (by kernel_rfl) (fun _ _ _ h => h) (Or.inl ⟨by kernel_rfl, ?_⟩) s0 ?_
    rotate_left 1
    · (intro w hS; clear hS; go_simp; try (with_reducible rfl))
    refine wpAnyH_take (i := 6) (v := ?_) rfl (by kernel_rfl) (by kernel_rfl) (by kernel_rfl) (fun _ _ _ h => h) (Or.inl ⟨by kernel_rfl, ?_⟩) s0 ?_
    rotate_left 1
    · (intro w hS; clear hS; go_simp; try (with_reducible rfl))
    refine wpAnyH_take (i := 7) (v := .agg (vv u).toArray) rfl (by kernel_rfl) (by kernel_rfl) (by kernel_rfl) (fun _ _ _ h => h) (yieldsIf_load_mid (by kernel_rfl) 26 (.tmp 14) rfl g14 0 (by go_simp) (vv u) _ (fun _ h => rows_of_blk h.2.2.2.1) Tryz.underlying26 rfl (FX_u.out)) s0 ?_
    refine wpAnyH_take (i := 8) (v := .agg (vv v).toArray) rfl (by kernel_rfl) (by kernel_rfl) (by kernel_rfl) (fun _ _ _ h => h) (yieldsIf_load_mid (by kernel_rfl) 26 (.tmp 16) rfl g16 0 (by go_simp) (vv v) _ (fun _ h => rows_of_blk h.2.2.2.2) Tryz.underlying26 rfl (FX_v.out)) s0 ?_
    try go_simp
    refine wpAnyH_ready (rs := [9]) (by kernel_rfl) (by simp) ?_
    refine AllReadyH.cons rfl (fun K hK => ?_) AllReadyH.nil
    rw [if_pos (by kernel_rfl)]
    go_simp
    refine (SM1.out ua Ba.out).mono ?_
    rintro e ub ⟨rfl, b_⟩
    have Bb := Lib.hid (Ba.out.trans (b_.mono Ba.out.size))
    have s0 := SU.out _ Bb.out
    refine hK.out _ _ s0 (fun _ => ?_)
    clear hK K b_
    refine wpAnyH_take (i := 10) (v := ?_) rfl (by kernel_rfl) (by kernel_rfl) (by kernel_rfl) (fun _ _ _ h => h) (Or.inl ⟨by kernel_rfl, ?_⟩) s0 ?_
    rotate_left 1
    · (intro w hS; clear hS; go_simp; try (with_reducible rfl))
    refine wpAnyH_take (i := 11) (v := ?_) rfl (by kernel_rfl) (by kernel_rfl) (by kernel_rfl) (fun _ _ _ h => h) (Or.inl ⟨by kernel_rfl, ?_⟩) s0 ?_
    rotate_left 1
    · (intro w hS; clear hS; go_simp; try (with_reducible rfl))
    refine wpAnyH_take (i := 12) (v := .agg (vv x).toArray) rfl (by kernel_rfl) (by kernel_rfl) (by kernel_rfl) (fun _ _ _ h => h) (yieldsIf_load_mid (by kernel_rfl) 26 (.tmp 7) rfl (w.heap.size + 1) 0 (by go_simp) (vv x) _ (fun _ h => rows_of_blk h.2.1) Tryz.underlying26 rfl (FX.out)) s0 ?_
    refine wpAnyH_take (i := 13) (v := .agg (vv y).toArray) rfl (by kernel_rfl) (by kernel_rfl) (by kernel_rfl) (fun _ _ _ h => h) (yieldsIf_load_mid (by kernel_rfl) 26 (.tmp 8) rfl (w.heap.size + 2) 0 (by go_simp) (vv y) _ (fun _ h => rows_of_blk h.2.2.1) Tryz.underlying26 rfl (FY.out)) s0 ?_
    refine wpAnyH_take (i := 15) (v := .agg (vv x).toArray) rfl (by kernel_rfl) (by kernel_rfl) (by kernel_rfl) (fun _ _ _ h => h) (yieldsIf_load_mid (by kernel_rfl) 26 (.tmp 7) rfl (w.heap.size + 1) 0 (by go_simp) (vv x) _ (fun _ h => rows_of_blk h.2.1) Tryz.underlying26 rfl (FX.out)) s0 ?_
    refine wpAnyH_take (i := 16) (v := .agg (vv y).toArray) rfl (by kernel_rfl) (by kernel_rfl) (by kernel_rfl) (fun _ _ _ h => h) (yieldsIf_load_mid (by kernel_rfl) 26 (.tmp 8) rfl (w.heap.size + 2) 0 (by go_simp) (vv y) _ (fun _ h => rows_of_blk h.2.2.1) Tryz.underlying26 rfl (FY.out)) s0 ?_
    try go_simp
    refine wpAnyH_ready (rs := [14]) (by kernel_rfl) (by simp) ?_
    refine AllReadyH.cons rfl (fun K hK => ?_) AllReadyH.nil
    rw [if_pos (by kernel_rfl)]
    go_simp
    refine (SM2.out ub Bb.out).mono ?_
    rintro e uc ⟨rfl, b_⟩
    have Bc := Lib.hid (Bb.out.trans (b_.mono Bb.out.size))
    have s0 := SU.out _ Bc.out
    refine hK.out _ _ s0 (fun _ => ?_)
    clear hK K b_
    try go_simp
    refine wpAnyH_ready (rs := [17]) (by kernel_rfl) (by simp) ?_
    refine AllReadyH.cons rfl (fun K hK => ?_) AllReadyH.nil
    rw [if_pos (by kernel_rfl)]
    go_simp
    refine (SM3.out uc Bc.out).mono ?_
    rintro e ud ⟨rfl, b_⟩
    have Bd := Lib.hid (Bc.out.trans (b_.mono Bc.out.size))
    have s0 := SU.out _ Bd.out
    refine hK.out _ _ s0 (fun _ => ?_)
    clear hK K b_
    refine wpAnyH_take (i := 18) (v := ?_) rfl (by kernel_rfl) (by kernel_rfl) (by kernel_rfl) (fun _ _ _ h => h) (Or.inl ⟨by kernel_rfl, ?_⟩) s0 ?_
    rotate_left 1
    · (intro w hS; clear hS; go_simp; try (with_reducible rfl))
    refine wpAnyH_take (i := 19) (v := ?_) rfl (by kernel_rfl) (by kernel_rfl) (by kernel_rfl) (fun _ _ _ h => h) (Or.inl ⟨by kernel_rfl, ?_⟩) s0 ?_
    rotate_left 1
    · (intro w hS; clear hS; go_simp; try (with_reducible rfl))
    refine wpAnyH_take (i := 20) (v := ?_) rfl (by kernel_rfl) (by kernel_rfl) (by kernel_rfl) (fun _ _ _ h => h) (Or.inl ⟨by kernel_rfl, ?_⟩) s0 ?_
    rotate_left 1
    · (intro w hS; clear hS; go_simp; try (with_reducible rfl))
    refine wpAnyH_take (i := 21) (v := .agg (vv x).toArray) rfl (by kernel_rfl) (by kernel_rfl) (by kernel_rfl) (fun _ _ _ h => h) (yieldsIf_load_mid (by kernel_rfl) 26 (.tmp 7) rfl (w.heap.size + 1) 0 (by go_simp) (vv x) _ (fun _ h => rows_of_blk h.2.1) Tryz.underlying26 rfl (FX.out)) s0 ?_
    refine wpAnyH_take (i := 22) (v := .agg (vv x).toArray) rfl (by kernel_rfl) (by kernel_rfl) (by kernel_rfl) (fun _ _ _ h => h) (yieldsIf_load_mid (by kernel_rfl) 26 (.tmp 7) rfl (w.heap.size + 1) 0 (by go_simp) (vv x) _ (fun _ h => rows_of_blk h.2.1) Tryz.underlying26 rfl (FX.out)) s0 ?_
    try go_simp
    refine wpAnyH_ready (rs := [23]) (by kernel_rfl) (by simp) ?_
    refine AllReadyH.cons rfl (fun K hK => ?_) AllReadyH.nil
    rw [if_pos (by kernel_rfl)]
    go_simp
    refine (SM4.out ud Bd.out).mono ?_
    rintro e uf ⟨rfl, b_⟩
    have Be := Lib.hid (Bd.out.trans (b_.mono Bd.out.size))
    have s0 := SU.out _ Be.out
    refine hK.out _ _ s0 (fun _ => ?_)
    clear hK K b_
    refine wpAnyH_take (i := 24) (v := ?_) rfl (by kernel_rfl) (by kernel_rfl) (by kernel_rfl) (fun _ _ _ h => h) (Or.inl ⟨by kernel_rfl, ?_⟩) s0 ?_
    rotate_left 1
    · (intro w hS; clear hS; go_simp; try (with_reducible rfl))
    refine wpAnyH_take (i := 25) (v := ?_) rfl (by kernel_rfl) (by kernel_rfl) (by kernel_rfl) (fun _ _ _ h => h) (Or.inl ⟨by kernel_rfl, ?_⟩) s0 ?_
    rotate_left 1
    · (intro w hS; clear hS; go_simp; try (with_reducible rfl))
    refine wpAnyH_take (i := 26) (v := .agg (u8s al).toArray) rfl (by kernel_rfl) (by kernel_rfl) (by kernel_rfl) (fun _ _ _ h => h) (yieldsIf_load_mid (by kernel_rfl) 23 (.tmp 5) rfl w.heap.size 0 (by go_simp) (u8s al) _ (fun _ h => rows_of_blk h.1) Tryz.underlying23 rfl (FA.out)) s0 ?_
    refine wpAnyH_take (i := 27) (v := ?_) rfl (by kernel_rfl) (by kernel_rfl) (by kernel_rfl) (fun _ _ _ h => h) (Or.inl ⟨by kernel_rfl, ?_⟩) s0 ?_
    rotate_left 1
    · (intro w hS; clear hS; go_simp; try (with_reducible rfl))
    refine wpAnyH_take (i := 28) (v := ?_) rfl (by kernel_rfl) (by kernel_rfl) (by kernel_rfl) (fun _ _ _ h => h) (Or.inl ⟨by kernel_rfl, ?_⟩) s0 ?_
    rotate_left 1
    · (intro w hS; clear hS; go_simp; try (with_reducible rfl))
    refine wpAnyH_take (i := 29) (v := .agg (u8s x.l).toArray) rfl (by kernel_rfl) (by kernel_rfl) (by kernel_rfl) (fun _ _ _ h => h) (yieldsIf_load_mid (by kernel_rfl) 23 (.tmp 106) rfl (w.heap.size + 1) 2 (by go_simp) (u8s x.l) _ (fun _ h => vv_range h.2.1) Tryz.underlying23 rfl (FL.out)) s0 ?_
    refine wpAnyH_take (i := 31) (v := .agg (u8s al).toArray) rfl (by kernel_rfl) (by kernel_rfl) (by kernel_rfl) (fun _ _ _ h => h) (yieldsIf_load_mid (by kernel_rfl) 23 (.tmp 5) rfl w.heap.size 0 (by go_simp) (u8s al) _ (fun _ h => rows_of_blk h.1) Tryz.underlying23 rfl (FA.out)) s0 ?_
    refine wpAnyH_take (i := 32) (v := ?_) rfl (by kernel_rfl) (by kernel_rfl) (by kernel_rfl) (fun _ _ _ h => h) (Or.inl ⟨by kernel_rfl, ?_⟩) s0 ?_
    rotate_left 1
    · (intro w hS; clear hS; go_simp; try (with_reducible rfl))
    refine wpAnyH_take (i := 33) (v := ?_) rfl (by kernel_rfl) (by kernel_rfl) (by kernel_rfl) (fun _ _ _ h => h) (Or.inl ⟨by kernel_rfl, ?_⟩) s0 ?_
    rotate_left 1
    · (intro w hS; clear hS; go_simp; try (with_reducible rfl))
    refine wpAnyH_take (i := 34) (v := .agg (u8s x.l).toArray) rfl (by kernel_rfl) (by kernel_rfl) (by kernel_rfl) (fun _ _ _ h => h) (yieldsIf_load_mid (by kernel_rfl) 23 (.tmp 111) rfl (w.heap.size + 1) 2 (by go_simp) (u8s x.l) _ (fun _ h => vv_range h.2.1) Tryz.underlying23 rfl (FL.out)) s0 ?_
    try go_simp
    refine wpAnyH_ready (rs := [30]) (by kernel_rfl) (by simp) ?_
    refine AllReadyH.cons rfl (fun K hK => ?_) AllReadyH.nil
    rw [if_pos (by kernel_rfl)]
    go_simp
    refine (TX1.out uf).mono ?_
    rintro e ug ⟨u_, rfl, fr_⟩
    obtain ⟨P1, c1, rfl, _, sr_, b_⟩ := fresh_opK fr_
    have Bg := Lib.hid (Be.out.trans (b_.mono Be.out.size)); have B_P1 := Lib.hid b_; have S_P1 := Lib.hid sr_
    have s0 := SU.out _ Bg.out
    refine hK.out _ _ s0 (fun _ => ?_)
    clear hK K b_ sr_ fr_
    try go_simp
    refine wpAnyH_ready (rs := [35]) (by kernel_rfl) (by simp) ?_
    refine AllReadyH.cons rfl (fun K hK => ?_) AllReadyH.nil
    rw [if_pos (by kernel_rfl)]
    go_simp
    refine (TX2.out ug).mono ?_
    rintro e uh ⟨u_, rfl, fr_⟩
    obtain ⟨P2, c2, rfl, _, sr_, b_⟩ := fresh_opK fr_
    have Bh := Lib.hid (Bg.out.trans (b_.mono Bg.out.size)); have B_P2 := Lib.hid b_; have S_P2 := Lib.hid sr_
    have s0 := SU.out _ Bh.out
    refine hK.out _ _ s0 (fun _ => ?_)
    clear hK K b_ sr_ fr_
    have SP1 := Lib.hid (S_P1.out.below B_P2.out)
    have SME := Lib.hid (same_textsTX T T P1 P2 T.length T.length c1 c2 uh rfl rfl SP1.out S_P2.out TB.out TB.out)
    rw [decide_eq_true rfl] at SME
    try go_simp
    refine wpAnyH_ready (rs := [36]) (by kernel_rfl) (by simp) ?_
    refine AllReadyH.cons rfl (fun K hK => ?_) AllReadyH.nil
    rw [if_pos (by kernel_rfl)]
    go_simp
    refine SME.out.mono ?_
    rintro e ui ⟨rfl, rfl⟩
    refine hK.out _ _ s0 (fun _ => ?_)
    clear hK K
    refine wpAnyH_take (i := 37) (v := ?_) rfl (by kernel_rfl) (by kernel_rfl) (by kernel_rfl) (fun _ _ _ h => h) (Or.inl ⟨by kernel_rfl, ?_⟩) s0 ?_
    rotate_left 1
    · (intro w hS; clear hS; go_simp; try (with_reducible rfl))
    refine wpAnyH_take (i := 38) (v := ?_) rfl (by kernel_rfl) (by kernel_rfl) (by kernel_rfl) (fun _ _ _ h => h) (Or.inl ⟨by kernel_rfl, ?_⟩) s0 ?_
    rotate_left 1
    · (intro w hS; clear hS; go_simp; try (with_reducible rfl))
    refine wpAnyH_done (by kernel_rfl) ?_ _
    go_simp
    go_wp2_with fail
    go_ret
    exact ⟨rfl, AU.out.bel.trans (Bh.out.mono AU.out.bel.size)⟩
end Go.Proofs.YtidklgicmhdapaaGreatDoor
