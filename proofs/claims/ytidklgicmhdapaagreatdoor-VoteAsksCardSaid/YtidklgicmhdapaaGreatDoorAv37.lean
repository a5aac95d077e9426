/-
  PACKAGE vote
-/
import Derived.Test.YtidklgicmhdapaaGreatDoorAv35
import Derived.Test.YtidklgicmhdapaaGreatDoorAv36
namespace Go.Proofs.YtidklgicmhdapaaGreatDoor
open Go Go.RowKit Sh

structure CV (w0 W : World) (v : Nat) (J : List Nat) : Prop where
  a : Blk W w0.heap.size 87 (pkv v J)
  res : Blk W (w0.heap.size + 1) 23 (u8s zH)
  bel : Below w0.heap.size w0 W
theorem CV.below {w0 W W' : World} {v : Nat} {J : List Nat} (h : CV w0 W v J) (hb : Below W.heap.size W W') : CV w0 W' v J := ⟨h.a.below hb h.a.lt, h.res.below hb h.res.lt, h.bel.trans (hb.mono h.bel.size)⟩
set_option maxRecDepth 100000 in
set_option maxHeartbeats 1000000 in
theorem candShort_t (i : Nat) (hi : i < 4) (J : List Nat) (A1 A2 : Option Addr) (n1 c1 m c2 : Nat) (w : World) (hm : m ≤ 100) (hk : KI w) :
    Calls Tryz.prog 50 #[.agg (pkv (kd i).w J).toArray, .slice A1 n1 c1, .slice A2 m c2] w fun e w' => e = .returned (.tuple #[.agg (u8s zH).toArray, .bool false]) ∧ Below w.heap.size w w' := by
  have SZ := Lib.hid (fun W hW => size_yes i hi W hW)
  obtain ⟨v, hv⟩ : ∃ v, (kd i).w = v := ⟨_, rfl⟩
  obtain ⟨z, hz⟩ : ∃ z, lszN i = z := ⟨_, rfl⟩
  have z2 : 204 ≤ z := by rw [← hz]; unfold lszN; omega
  rw [hv, hz] at SZ
  rw [hv]
  have S0 := Lib.hid (show CV w ((w.alloc (.cells (pkv v J).toArray 87)).alloc (.cells (u8s zH).toArray 23)) v J from
    ⟨(Blk.new w 87 (pkv v J)).alloc _, Blk.new2 w _ 23 (u8s zH), ((Below.refl _ _).alloc (Nat.le_refl _) _).alloc (by simp) _⟩)
  have HK := Lib.hid hk
  clear hk hv hz
  go_enter Tryz.func50, Tryz.ntmps50
  go_upto_region 1 with (fail)
  refine world_at (fun Y => CV w Y v J) S0.out ?_
  rintro V s1
  have S1 := Lib.hid s1
  clear s1 S0
  have c0 : V.cell? ⟨w.heap.size, 0, none⟩ = some (.int .i64 (v : Int)) := S1.out.a.cell 0
  have ne : ((m : Int) != (z : Int)) = true := by rw [bne_iff_ne]; omega
  go_wp2_with fail
  refine (SZ.out V (HK.out.kept S1.out.bel)).mono ?_
  rintro e w1 ⟨rfl, b1⟩
  have S2 := Lib.hid (S1.out.below b1)
  clear S1 b1 c0 SZ
  have RES := Lib.hid S2.out.res
  have RZ := Lib.hid (S2.out.res.setRow (u8s zH))
  have BF := Lib.hid (below_setRow S2.out.bel (g := w.heap.size + 1) (by omega) (u8s zH).toArray)
  have BZ := built_hz
  have FZ := Lib.hid (hash_size zH rfl)
  go_wp2_with ((with_reducible refine at_op (.store 23 (.tmp 6) (.tmp 20)) rfl ?_); go_must (refine store_blk 23 (.tmp 6) (.tmp 20) (w.heap.size + 1) 23 (u8s zH) (u8s zH) rfl rfl RES.out rfl FZ.out (u8s_oneD _) rfl rfl ?_))
  exact ret_blkS (p := 6) (u := 7) (ty := 23) rfl rfl (w.heap.size + 1) 23 _ _ rfl RZ.out Tryz.underlying23 rfl FZ.out _ rfl ⟨rfl, BF.out⟩
set_option maxRecDepth 100000 in
set_option maxHeartbeats 1000000 in
theorem verifyShort_t (xs : List Nat) (A A1 A2 : Option Addr) (n c n1 c1 m c2 : Nat) (w : World) (hx : xs.length = n) (hp : Sr w A xs) (hb : Bytes xs) (hn : n ≤ 1000) (hf : formN xs = true) (hm : m ≤ 100) (hk : KI w) :
    Calls Tryz.prog 39 #[.slice A n c, .slice A1 n1 c1, .slice A2 m c2] w fun e w' => e = .returned (.int .i64 3) ∧ Below w.heap.size w w' := by
  have RK := Lib.hid (readKey_any xs A n c w hx hp hb (by omega) hk)
  have HK := Lib.hid hk; have HF := Lib.hid hf; have HM := Lib.hid hm
  clear hx hp hb hn hk hf hm
  go_enter Tryz.func39, Tryz.ntmps39
  go_wp2_with fail
  refine RK.out.mono ?_
  rintro e w1 ⟨v, J, hJ, rfl, hv, b1⟩
  obtain ⟨i, hi, rfl, -, -⟩ := hv HF.out
  rw [HF.out]
  have HJ := Lib.hid hJ; have B1 := Lib.hid b1; have R1 := Lib.hid (Blk.new w1 87 pkz); have HI := Lib.hid hi
  have K1 := Lib.hid (R1.out.setRow (pkv (kd i).w J))
  have B2 := Lib.hid (below_setRow (B1.out.alloc B1.out.size _ : Below w.heap.size w (w1.alloc (.cells pkz.toArray 87))) B1.out.size (pkv (kd i).w J).toArray)
  obtain ⟨v, hv'⟩ : ∃ v, (kd i).w = v := ⟨_, rfl⟩
  have CS := Lib.hid (fun W hW => candShort_t i HI.out J A1 A2 n1 c1 m c2 W HM.out hW)
  rw [hv'] at K1 B2 CS ⊢
  clear hJ b1 RK hi hv hv'
  go_upto_region 2 with ((with_reducible refine at_op (.store 87 (.tmp 7) (.tmp 13)) rfl ?_); go_must (refine store_blk 87 (.tmp 7) (.tmp 13) w1.heap.size 87 pkz (pkv v J) rfl rfl R1.out (pk_len _ _ HJ.out) (pkv_size _ _ HJ.out) (pkv_one _ _) rfl rfl ?_))
  obtain ⟨V, hV⟩ : ∃ V, (w1.alloc (.cells pkz.toArray 87)).setRow w1.heap.size (pkv v J).toArray = V := ⟨_, rfl⟩
  change Code.wp _ _ _ _ ((w1.alloc (.cells pkz.toArray 87)).setRow w1.heap.size (pkv v J).toArray)
  rw [hV] at K1 B2 ⊢
  clear hV R1 B1
  go_wp2_with ((with_reducible refine load_blk 87 (.tmp 7) w1.heap.size 87 (pkv v J) _ rfl rfl ?_ Tryz.underlying87 ?_ ?_ ?_ ?_); exact K1.out; exact rfl; exact pkv_size _ _ HJ.out; exact rfl)
  refine (CS.out V (HK.out.kept B2.out)).mono ?_
  rintro e w3 ⟨rfl, b3⟩
  have B3 := Lib.hid (B2.out.trans (b3.mono B2.out.size))
  have Z3 := Lib.hid (Blk.new w3 23 (u8s zH))
  have BF := Lib.hid (below_setRow (B3.out.alloc B3.out.size _ : Below w.heap.size w (w3.alloc (.cells (u8s zH).toArray 23))) B3.out.size (u8s zH).toArray)
  have FZ := Lib.hid (hash_size zH rfl)
  clear b3 CS K1 B2 B3
  go_wp2_with ((with_reducible refine at_op (.store 23 (.tmp 9) (.tmp 22)) rfl ?_); go_must (refine store_blk 23 (.tmp 9) (.tmp 22) w3.heap.size 23 (u8s zH) (u8s zH) rfl rfl Z3.out rfl FZ.out (u8s_oneD _) rfl rfl ?_))
  go_ret
  exact ⟨rfl, BF.out⟩
structure CK (w0 W : World) (x : Gv) (v : Vv) : Prop where
  a : Blk W w0.heap.size 41 (gv x)
  b : Blk W (w0.heap.size + 1) 26 (vv v)
  rx : GvW W x
  rv : VvW W v
  bel : Below w0.heap.size w0 W
theorem CK.below {w0 W W' : World} {x : Gv} {v : Vv} (h : CK w0 W x v) (hb : Below W.heap.size W W') : CK w0 W' x v := ⟨h.a.below hb h.a.lt, h.b.below hb h.b.lt, h.rx.below hb, h.rv.below hb, h.bel.trans (hb.mono h.bel.size)⟩
theorem CK.new {w : World} {x : Gv} {v : Vv} (hx : GvW w x) (hv : VvW w v) : CK w ((w.alloc (.cells (gv x).toArray 41)).alloc (.cells (vv v).toArray 26)) x v := by
  have b0 : Below w.heap.size w ((w.alloc (.cells (gv x).toArray 41)).alloc (.cells (vv v).toArray 26)) := ((Below.refl _ _).alloc (Nat.le_refl _) _).alloc (by simp) _
  exact ⟨(Blk.new w 41 (gv x)).alloc _, Blk.new2 w _ 26 (vv v), hx.below b0, hv.below b0, b0⟩
set_option maxRecDepth 100000 in
set_option maxHeartbeats 1000000 in
theorem vCheck_no (x : Gv) (v : Vv) (w : World) (hx : GvW w x) (hv : VvW w v) (hk : KI w) (hm : begB x = false) :
    Calls Tryz.prog 15 #[.agg (gv x).toArray, .agg (vv v).toArray] w fun e w' => e = .returned (.int .i64 1) ∧ Below w.heap.size w w' := by
  have S0 := Lib.hid (CK.new hx hv)
  have HK := Lib.hid hk; have FG := Lib.hid (gv_size x); have HM := Lib.hid hm
  clear hx hv hk hm
  go_enter Tryz.func15, Tryz.ntmps15
  go_upto_region 1 with (fail)
  refine world_at (fun Y => CK w Y x v) S0.out ?_
  rintro V s1
  have S1 := Lib.hid s1
  clear s1 S0
  have MT := Lib.hid (gMay_t x V S1.out.rx (HK.out.kept S1.out.bel))
  rw [HM.out] at MT
  have GA := Lib.hid S1.out.a
  go_wp2_with ((with_reducible refine load_blk 41 (.tmp 2) w.heap.size 41 (gv x) _ rfl rfl ?_ Tryz.underlying41 ?_ ?_ ?_ ?_); exact GA.out; exact rfl; exact FG.out; exact rfl)
  refine MT.out.mono ?_
  rintro e w1 ⟨rfl, b1⟩
  have S2 := Lib.hid (S1.out.below b1)
  clear S1 MT b1 GA
  go_wp2_with fail
  go_ret
  exact ⟨rfl, S2.out.bel⟩
set_option maxRecDepth 100000 in
set_option maxHeartbeats 2000000 in
theorem vCheck_short (x : Gv) (v : Vv) (n j q : Nat) (y : Ky) (w : World) (hx : GvW w x) (hv : VvW w v) (hi : KI w) (hk : KAt w) (hm : begB x = true) (hn : x.ks.length = n) (hf : v.f = (j : Int)) (hj : j < n) (hp : v.p = (q : Int)) (q1 : 1 ≤ q) (q2 : q ≤ 1048576) (hy : x.ks[j]? = some y) (hs : v.s.length ≤ 100) :
    Calls Tryz.prog 15 #[.agg (gv x).toArray, .agg (vv v).toArray] w fun e w' => e = .returned (.int .i64 3) ∧ Below w.heap.size w w' := by
  have S0 := Lib.hid (CK.new hx hv)
  have HI := Lib.hid hi; have FG := Lib.hid (gv_size x); have HM := Lib.hid hm; have HK := Lib.hid hk; have HG := Lib.hid hk.lt
  have HY := Lib.hid hy; have HS := Lib.hid hs; have LL := Lib.hid hv.ll
  have FY := Lib.hid (show formN y.X = true ∧ y.X.length ≤ 1000 from by
    have h := (begB_h hm).k y (List.mem_of_getElem? hy)
    exact ⟨h, by rw [formN_len h]; decide⟩)
  have AN := Lib.hid (fun (W : World) (h : CK w W x v) => gAnchor_yes x W h.rx (HI.out.kept h.bel) hm (HK.out.below h.bel HG.out))
  have AL := Lib.hid (show (anE x).length = 32 from rfl)
  have TXT := Lib.hid (fun (W : World) => vText_t (anE x) v.l q W AL.out LL.out q2)
  obtain ⟨kp, hkp⟩ : ∃ p, x.kp = p := ⟨_, rfl⟩
  have CELL := Lib.hid (fun (W : World) (h : CK w W x v) => show W.cell? ⟨w.heap.size, 3, none⟩ = some (.slice kp n x.kc) ∧ W.cell? ⟨w.heap.size + 1, 0, none⟩ = some (.int .i64 (q : Int)) ∧ W.cell? ⟨w.heap.size + 1, 1, none⟩ = some (.int .i64 (j : Int)) ∧ W.cell? ⟨w.heap.size + 1, 34, none⟩ = some (.slice v.A v.s.length v.c) from by
    have h1 := (gv_cells h.a).2.2.2.1
    have h2 := vv_cells h.b h.rv.ll
    rw [hn, hkp] at h1
    rw [hp, hf] at h2
    exact ⟨h1, h2.1, h2.2.1, h2.2.2⟩)
  have KROW := Lib.hid (fun (W : World) (h : CK w W x v) => show ∃ b o, kp = some ⟨b, o, none⟩ ∧ W.cell? ⟨b, o + j, none⟩ = some (.slice y.A y.X.length y.c) from by
    obtain ⟨b, o, e, _, rg⟩ := h.rx.ks j y HY.out
    refine ⟨b, o, hkp.symm.trans e, ?_⟩
    have := rg 0 _ rfl
    rwa [Nat.mul_one, Nat.add_zero] at this)
  obtain ⟨AE, hAE⟩ : ∃ l, anE x = l := ⟨_, rfl⟩
  rw [hAE] at AN AL TXT
  have j1 : (j : Int) < (n : Int) := by omega
  have q1' : ¬ ((q : Int) < 1) := by omega
  have q2' : ¬ ((1048576 : Int) < (q : Int)) := by omega
  clear hx hv hi hk hm hn hf hp hy hs hkp hAE
  go_enter Tryz.func15, Tryz.ntmps15
  go_upto_region 1 with (fail)
  refine world_at (fun Y => CK w Y x v) S0.out ?_
  rintro V s1
  have S1 := Lib.hid s1
  clear s1 S0
  have MT := Lib.hid (gMay_t x V S1.out.rx (HI.out.kept S1.out.bel))
  rw [HM.out] at MT
  have GA := Lib.hid S1.out.a
  go_wp2_with ((with_reducible refine load_blk 41 (.tmp 2) w.heap.size 41 (gv x) _ rfl rfl ?_ Tryz.underlying41 ?_ ?_ ?_ ?_); exact GA.out; exact rfl; exact FG.out; exact rfl)
  refine MT.out.mono ?_
  rintro e w1 ⟨rfl, b1⟩
  have S2 := Lib.hid (S1.out.below b1)
  clear S1 MT b1 GA
  obtain ⟨c3, d0, d1, d34⟩ := CELL.out w1 S2.out
  go_upto_region 3 with (fail)
  clear c3 d0 d1 d34
  obtain ⟨U, hU⟩ : ∃ U, w1.drew = U := ⟨_, rfl⟩
  have S3 := Lib.hid (S2.out.below (show Below w1.heap.size w1 U from by rw [← hU]; exact (Below.refl _ _).drew))
  clear S2
  have SS := Lib.hid (fun (W : World) (h : CK w W x v) => show Blk W w.heap.size 41 (gv x) ∧ W.cell? ⟨w.heap.size + 1, 0, none⟩ = some (.int .i64 (q : Int)) ∧ W.rangeAt (w.heap.size + 1) 2 (u8s v.l) from ⟨h.a, (CELL.out W h).2.1, vv_range h.b⟩)
  have ZL := Lib.hid (hash_size v.l LL.out)
  refine wp_region_held (S := fun Y => Blk Y w.heap.size 41 (gv x) ∧ Y.cell? ⟨w.heap.size + 1, 0, none⟩ = some (.int .i64 (q : Int)) ∧ Y.rangeAt (w.heap.size + 1) 2 (u8s v.l)) (by kernel_rfl) ?_
  change wpAnyH _ _ _ _ _ _ _ _ w1.drew
  rw [hU]
  clear hU
  have s0 := SS.out U S3.out
  refine wpAnyH_take (i := 0) (v := .agg (gv x).toArray) rfl (by kernel_rfl) (by kernel_rfl) (by kernel_rfl) (fun _ _ _ h => h) (yieldsIf_load_mid (by kernel_rfl) 41 (.tmp 2) rfl w.heap.size 0 (by go_simp) (gv x) _ (fun _ h => rows_of_blk h.1) Tryz.underlying41 rfl (FG.out)) s0 ?_
  refine wpAnyH_take (i := 2) (v := ?_) rfl (by kernel_rfl) (by kernel_rfl) (by kernel_rfl) (fun _ _ _ h => h) (Or.inl ⟨by kernel_rfl, ?_⟩) s0 ?_
  rotate_left 1
  · (intro w hS; clear hS; go_simp; try (with_reducible rfl))
  refine wpAnyH_take (i := 3) (v := ?_) rfl (by kernel_rfl) (by kernel_rfl) (by kernel_rfl) (fun _ _ _ h => h) (Or.inl ⟨by kernel_rfl, ?_⟩) s0 ?_
  rotate_left 1
  · (intro w hS; have hs := hS.2.1; clear hS; go_simp; try (with_reducible rfl))
  refine wpAnyH_take (i := 4) (v := ?_) rfl (by kernel_rfl) (by kernel_rfl) (by kernel_rfl) (fun _ _ _ h => h) (Or.inl ⟨by kernel_rfl, ?_⟩) s0 ?_
  rotate_left 1
  · (intro w hS; clear hS; go_simp; try (with_reducible rfl))
  refine wpAnyH_take (i := 5) (v := .agg (u8s v.l).toArray) rfl (by kernel_rfl) (by kernel_rfl) (by kernel_rfl) (fun _ _ _ h => h) (yieldsIf_load_mid (by kernel_rfl) 23 (.tmp 36) rfl (w.heap.size + 1) 2 (by go_simp) (u8s v.l) _ (fun _ h => h.2.2) Tryz.underlying23 rfl (ZL.out)) s0 ?_
  refine wpAnyH_ready (rs := [1]) (by kernel_rfl) (by simp) ?_
  refine AllReadyH.cons rfl (fun K hK => ?_) AllReadyH.nil
  rw [if_pos (by kernel_rfl)]
  go_simp
  refine (AN.out U S3.out).mono ?_
  rintro e w3 ⟨rfl, b3⟩
  have S4 := Lib.hid (S3.out.below b3)
  have s1 := SS.out w3 S4.out
  refine hK.out _ _ s1 (fun _ => ?_)
  clear hK K b3 S3 s0 AN
  refine wpAnyH_ready (rs := [6]) (by kernel_rfl) (by simp) ?_
  refine AllReadyH.cons rfl (fun K hK => ?_) AllReadyH.nil
  rw [if_pos (by kernel_rfl)]
  go_simp
  refine (TXT.out w3).mono ?_
  rintro e w4 ⟨u, rfl, fr⟩
  obtain ⟨At, ct, hu, _⟩ := own_form fr.1
  subst hu
  have S5 := Lib.hid (S4.out.below fr.2)
  have s2 := SS.out w4 S5.out
  refine hK.out _ _ s2 (fun _ => ?_)
  clear hK K fr S4 s1 TXT
  refine wpAnyH_take (i := 7) (v := ?_) rfl (by kernel_rfl) (by kernel_rfl) (by kernel_rfl) (fun _ _ _ h => h) (Or.inl ⟨by kernel_rfl, ?_⟩) s2 ?_
  rotate_left 1
  · (intro w hS; clear hS; go_simp; try (with_reducible rfl))
  refine wpAnyH_done (by kernel_rfl) ?_ _
  go_simp
  clear s2
  go_upto_region 4 with (fail)
  obtain ⟨U2, hU⟩ : ∃ U, w4.drew = U := ⟨_, rfl⟩
  have S6 := Lib.hid (S5.out.below (show Below w4.heap.size w4 U2 from by rw [← hU]; exact (Below.refl _ _).drew))
  clear S5
  obtain ⟨bk, ok, hke, ck⟩ := KROW.out U2 S6.out
  subst hke
  obtain ⟨c3, d0, d1, d34⟩ := CELL.out U2 S6.out
  have VT := Lib.hid (verifyShort_t y.X y.A At v.A y.X.length y.c (textV AE q v.l).length ct v.s.length v.c U2 rfl (S6.out.rx.k y (List.mem_of_getElem? HY.out)) (S6.out.rx.kb y (List.mem_of_getElem? HY.out)) FY.out.2 FY.out.1 HS.out (HI.out.kept S6.out.bel))
  refine wp_region_held (S := fun Y => Y.cell? ⟨w.heap.size, 3, none⟩ = some (.slice (some ⟨bk, ok, none⟩) n x.kc) ∧ Y.cell? ⟨w.heap.size + 1, 1, none⟩ = some (.int .i64 (j : Int)) ∧ Y.cell? ⟨w.heap.size + 1, 34, none⟩ = some (.slice v.A v.s.length v.c) ∧ Y.cell? ⟨bk, ok + j, none⟩ = some (.slice y.A y.X.length y.c)) (by kernel_rfl) ?_
  change wpAnyH _ _ _ _ _ _ _ _ w4.drew
  rw [hU]
  clear hU
  have s0 : U2.cell? ⟨w.heap.size, 3, none⟩ = some (.slice (some ⟨bk, ok, none⟩) n x.kc) ∧ U2.cell? ⟨w.heap.size + 1, 1, none⟩ = some (.int .i64 (j : Int)) ∧ U2.cell? ⟨w.heap.size + 1, 34, none⟩ = some (.slice v.A v.s.length v.c) ∧ U2.cell? ⟨bk, ok + j, none⟩ = some (.slice y.A y.X.length y.c) := ⟨c3, d1, d34, ck⟩
  refine wpAnyH_take (i := 0) (v := ?_) rfl (by kernel_rfl) (by kernel_rfl) (by kernel_rfl) (fun _ _ _ h => h) (Or.inl ⟨by kernel_rfl, ?_⟩) s0 ?_
  rotate_left 1
  · (intro w hS; clear hS; go_simp; try (with_reducible rfl))
  refine wpAnyH_take (i := 1) (v := ?_) rfl (by kernel_rfl) (by kernel_rfl) (by kernel_rfl) (fun _ _ _ h => h) (Or.inl ⟨by kernel_rfl, ?_⟩) s0 ?_
  rotate_left 1
  · (intro w hS; have hs := hS.1; clear hS; go_simp; try (with_reducible rfl))
  refine wpAnyH_take (i := 2) (v := ?_) rfl (by kernel_rfl) (by kernel_rfl) (by kernel_rfl) (fun _ _ _ h => h) (Or.inl ⟨by kernel_rfl, ?_⟩) s0 ?_
  rotate_left 1
  · (intro w hS; clear hS; go_simp; try (with_reducible rfl))
  refine wpAnyH_take (i := 3) (v := ?_) rfl (by kernel_rfl) (by kernel_rfl) (by kernel_rfl) (fun _ _ _ h => h) (Or.inl ⟨by kernel_rfl, ?_⟩) s0 ?_
  rotate_left 1
  · (intro w hS; have hs := hS.2.1; clear hS; go_simp; try (with_reducible rfl))
  refine wpAnyH_take (i := 4) (v := ?_) rfl (by kernel_rfl) (by kernel_rfl) (by kernel_rfl) (fun _ _ _ h => h) (Or.inl ⟨by kernel_rfl, ?_⟩) s0 ?_
  rotate_left 1
  · (intro w hS; clear hS; go_simp; try (with_reducible rfl))
  refine wpAnyH_take (i := 5) (v := ?_) rfl (by kernel_rfl) (by kernel_rfl) (by kernel_rfl) (fun _ _ _ h => h) (Or.inl ⟨by kernel_rfl, ?_⟩) s0 ?_
  rotate_left 1
  · (intro w hS; have hs := hS.2.2.2; clear hS; go_simp; try (with_reducible rfl))
  refine wpAnyH_take (i := 6) (v := ?_) rfl (by kernel_rfl) (by kernel_rfl) (by kernel_rfl) (fun _ _ _ h => h) (Or.inl ⟨by kernel_rfl, ?_⟩) s0 ?_
  rotate_left 1
  · (intro w hS; clear hS; go_simp; try (with_reducible rfl))
  refine wpAnyH_take (i := 7) (v := ?_) rfl (by kernel_rfl) (by kernel_rfl) (by kernel_rfl) (fun _ _ _ h => h) (Or.inl ⟨by kernel_rfl, ?_⟩) s0 ?_
  rotate_left 1
  · (intro w hS; clear hS; go_simp; try (with_reducible rfl))
  refine wpAnyH_take (i := 8) (v := ?_) rfl (by kernel_rfl) (by kernel_rfl) (by kernel_rfl) (fun _ _ _ h => h) (Or.inl ⟨by kernel_rfl, ?_⟩) s0 ?_
  rotate_left 1
  · (intro w hS; have hs := hS.2.2.1; clear hS; go_simp; try (with_reducible rfl))
  refine wpAnyH_ready (rs := [9]) (by kernel_rfl) (by simp) ?_
  refine AllReadyH.cons rfl (fun K hK => ?_) AllReadyH.nil
  rw [if_pos (by kernel_rfl)]
  go_simp
  refine VT.out.mono ?_
  rintro e w7 ⟨rfl, b7⟩
  have B7 := Lib.hid (S6.out.bel.trans (b7.mono S6.out.bel.size))
  have S7 := Lib.hid (S6.out.below b7)
  have s3 : w7.cell? ⟨w.heap.size, 3, none⟩ = some (.slice (some ⟨bk, ok, none⟩) n x.kc) ∧ w7.cell? ⟨w.heap.size + 1, 1, none⟩ = some (.int .i64 (j : Int)) ∧ w7.cell? ⟨w.heap.size + 1, 34, none⟩ = some (.slice v.A v.s.length v.c) ∧ w7.cell? ⟨bk, ok + j, none⟩ = some (.slice y.A y.X.length y.c) := by
    obtain ⟨e3, _, e1, e34⟩ := CELL.out w7 S7.out
    obtain ⟨b', o', he, hc⟩ := KROW.out w7 S7.out
    injection he with he
    injection he with h1 h2
    subst h1; subst h2
    exact ⟨e3, e1, e34, hc⟩
  refine hK.out _ _ s3 (fun _ => ?_)
  clear hK K b7 s0 VT c3 d0 d1 d34 ck
  refine wpAnyH_take (i := 10) (v := ?_) rfl (by kernel_rfl) (by kernel_rfl) (by kernel_rfl) (fun _ _ _ h => h) (Or.inl ⟨by kernel_rfl, ?_⟩) s3 ?_
  rotate_left 1
  · (intro w hS; clear hS; go_simp; try (with_reducible rfl))
  refine wpAnyH_done (by kernel_rfl) ?_ _
  go_simp
  go_wp2_with fail
  go_ret
  exact ⟨rfl, B7.out⟩
end Go.Proofs.YtidklgicmhdapaaGreatDoor
