/-
  PACKAGE hss: Sign of a key of one level.
  PACKAGE hss: holds of a key of one level, of the right length.
  PACKAGE hss: Sign's errors; Verify of a signature of a wrong length.
-/
import Derived.Test.YtohgggblnnokeaaGreatDoorHsM
namespace Go.Proofs.YtohgggblnnokeaaGreatDoor
open Go Go.RowKit Sh

/-- A signature of a key of one level. -/
def hsig1N (I seed : List Nat) (i q : Nat) (xs : List Nat) : List Nat := beN 0 4 ++ lsigN I seed i q xs
set_option maxRecDepth 100000 in
set_option maxHeartbeats 4000000 in
theorem hsign1_t (I seed xs : List Nat) (v i gu q g : Nat) (lows : List Value) (P : Option Addr) (m cc : Nat) (w : World) (hI : I.length = 16) (hIb : Bytes I) (hs : seed.length = 32) (hsb : Bytes seed) (hi : i < 4) (hv : v = (kd i).w) (hq : q < 32) (hx : xs.length = m) (hxb : Bytes xs) (hcc : m ≤ cc) (hml : m ≤ 100000)
    (hB : Blk w g 62 (keyC I seed v 1 gu lows)) (hU : Stands w gu I seed v i)
    (EV : ∀ W, Below w.heap.size w W → Sr W P xs ∧ KAt W ∧ KI W) :
    Calls Tryz.prog 8 #[.pointer (some ⟨g, 0, none⟩), .int .i64 (q : Int), .slice P m cc] w fun e w' => ∃ u, e = .returned (.tuple #[u, .int .i64 0]) ∧ w'.ownsRow w.heap.size 5 1 u (hsig1N I seed i q xs).length (u8s (hsig1N I seed i q xs)) ∧ Stands w' gu I seed v i ∧ Kept (fun k => k = gu) w w' := by
  have hgl := hB.lt
  have hgul := hU.lt
  have ST := Lib.hid (hstands_yes I seed v 1 gu g lows w hI hs hB)
  have ADU := Lib.hid (fun F (lst : List Nat) gw W (hb : Below w.heap.size w W) (x : Wr W F gw lst) (hF : ∀ k, F k → k ≠ gu) (hl : lst.length ≤ 1000000) => add_t F I seed xs lst v i gu gw q P m cc W hI hIb hs hsb hi hv hq hx (EV W hb).1 hxb hcc hml (hU.below hb) (EV W hb).2.1 (EV W hb).2.2 x hF hl)
  have LU := Lib.hid (lsigN_length I seed i q xs hq)
  have hp9 := kd_p i hi
  obtain ⟨sg, hsg⟩ : ∃ y, hsig1N I seed i q xs = y := ⟨_, rfl⟩
  rw [hsg]
  have HSG := Lib.hid (show sg = beN 0 4 ++ lsigN I seed i q xs from hsg.symm)
  have X0 := Lib.hid (Wr.new (w := w))
  have BA := Lib.hid ((Below.refl w.heap.size w).alloc (Nat.le_refl _) (.cells #[.pointer none, .int .i64 0] 69))
  have cl : w.cell? ⟨g, 49, none⟩ = some (.int .i64 1) := key_l hB hI hs
  have cu : w.cell? ⟨g, 50, none⟩ = some (.pointer (some ⟨gu, 0, none⟩)) := key_u hB hI hs
  have cl2 : (w.alloc (.cells #[.pointer none, .int .i64 0] 69)).cell? ⟨g, 49, none⟩ = some (.int .i64 1) := (BA.out.cell (p := ⟨g, 49, none⟩) hgl).trans cl
  have n1 : ¬ ((q : Int) < 0) := by omega
  have n2 : (q : Int) < 32 := by omega
  have n4 : (q : Int).tmod 32 = (q : Int) := by rw [Int.tmod_eq_emod_of_nonneg (by omega)]; omega
  have HLN := Lib.hid (show sg.length ≤ 9000 by rw [HSG.out, List.length_append, beN_length, LU.out]; omega)
  have hmf : ∀ (fn : Fn) (first cap : Array Value) (w : World), (Instr.makeFunc fn first cap).run Tryz.prog w = .ok (.func fn first cap) w := fun _ _ _ _ => rfl
  clear hsg hI hIb hs hsb hi hv hx hxb hcc hml hB EV hp9
  go_enter Tryz.func8, Tryz.ntmps8
  go_wp2_with fail
  refine ST.out.mono ?_
  rintro e w1 ⟨rfl, rfl⟩
  go_wp2_with fail
  refine (many_1 w).mono ?_
  rintro e w1 ⟨rfl, rfl⟩
  go_wp2_with fail
  refine (num_s 0 4 X0.out (Below.refl _ _) (by simp) (by decide) (by decide) (by decide) (by simp)).mono ?_
  rintro e w2 ⟨rfl, x2, b2⟩
  rw [List.nil_append] at x2
  have X2 := Lib.hid x2.there; have B2 := Lib.hid (BA.out.trans b2)
  have cu2 := (B2.out.cell (p := ⟨g, 50, none⟩) hgl).trans cu
  have cl3 := (B2.out.cell (p := ⟨g, 49, none⟩) hgl).trans cl
  clear x2 b2 X0 BA cl2 ST
  go_wp2_with fail
  have hz2 := B2.out.size
  refine (ADU.out _ (beN 0 4) w.heap.size w2 B2.out X2.out (fun k hk => by omega) (by rw [beN_length]; decide)).mono ?_
  rintro e w3 ⟨rfl, F3, x3, h3, st3, k3⟩
  have X3 := Lib.hid x3; have ST3 := Lib.hid st3
  have K3 := Lib.hid (show Kept (fun k => k = gu) w w3 from kept_next (Kept.of_below B2.out) k3 (fun k hk e => by
    rcases e with e | e
    · exact e
    · omega))
  clear x3 st3 k3 B2 X2 ADU
  rw [← HSG.out] at X3
  clear HSG
  go_wp2_with fail
  refine (wbytes_t F3 w.heap.size sg w3 X3.out (by have := HLN.out; omega)).mono ?_
  rintro e w4 ⟨u, rfl, o4, b4⟩
  have O4 := Lib.hid (own_base (base' := w.heap.size) o4 (fun k hk => Nat.le_trans K3.out.size (o4.lt k hk).1))
  have B4 := Lib.hid b4
  clear o4 b4
  go_wp2_with fail
  go_ret2
  exact ⟨u, rfl, O4.out, ST3.out.below B4.out, kept_next K3.out (Kept.of_below B4.out) (fun k hk e => by have := K3.out.size; omega)⟩
end Go.Proofs.YtohgggblnnokeaaGreatDoor
namespace Go.Proofs.YtohgggblnnokeaaGreatDoor
open Go Go.RowKit Sh

def hold1 (N : Nat) (ys xs zs : List Nat) : Bool := decide (val (zs.take 4) = 0) && decide (verN ys xs ((zs.drop 4).take N) = 0)
/-- Where holds of one level stands: its box. -/
structure HZ1 (w0 W : World) (A : Option Addr) (c g : Nat) (zs : List Nat) : Prop where
  box : Blk W w0.heap.size 82 (hkv 1 (.slice A 56 c))
  rd : Rd W g zs false
  gw : w0.heap.size < g
  bel : Below w0.heap.size w0 W
theorem HZ1.below {w0 W W' : World} {A : Option Addr} {c g : Nat} {zs : List Nat} (h : HZ1 w0 W A c g zs) (hb : Below W.heap.size W W') : HZ1 w0 W' A c g zs := ⟨h.box.below hb h.box.lt, h.rd.below hb, h.gw, h.bel.trans (hb.mono h.bel.size)⟩
theorem HZ1.read {w0 W W' : World} {A : Option Addr} {c g : Nat} {zs zs' : List Nat} (h : HZ1 w0 W A c g zs) (hk : Kept (fun k => k = g) W W') (hr : Rd W' g zs' false) : HZ1 w0 W' A c g zs' :=
  ⟨h.box.kept hk (by have := h.gw; omega), hr, h.gw, kept_belowT h.bel hk (by have := h.gw; omega)⟩
set_option maxRecDepth 100000 in
set_option maxHeartbeats 4000000 in
theorem hholds_1y (ys xs zs : List Nat) (i : Nat) (A B C : Option Addr) (c m1 c1 m2 c2 : Nat) (w : World) (hy : ys.length = 56) (hp : Sr w A ys) (hb : Bytes ys) (hi : i < 4) (hvi : val ((ys.drop 4).take 4) = i + 1) (hx : xs.length = m1) (hpx : Sr w B xs) (hbx : Bytes xs) (hc1 : m1 ≤ c1) (hm1 : m1 ≤ 100000) (hz : zs.length = m2) (hpz : Sr w C zs) (hbz : Bytes zs) (hk : KAt w) (hki : KI w) (he : m2 = 4 + lszN i) :
    Calls Tryz.prog 31 #[.agg (hkv 1 (.slice A 56 c)).toArray, .slice B m1 c1, .slice C m2 c2] w fun e w' => e = .returned (.bool (hold1 (lszN i) ys xs zs)) ∧ Below w.heap.size w w' := by
  have R0 := Lib.hid (Blk.new w 82 (hkv 1 (.slice A 56 c)))
  have B0 := Lib.hid ((Below.refl w.heap.size w).alloc (Nat.le_refl _) (.cells (hkv 1 (.slice A 56 c)).toArray 82))
  have PT := Lib.hid (hpart_t 1 ys i A c _ hy (hp.below B0.out) hb hi hvi (hki.kept B0.out))
  have hp9 := kd_p i hi
  have hN : lszN i ≤ 9000 := by unfold lszN; omega
  obtain ⟨N, hNN⟩ : ∃ N, lszN i = N := ⟨_, rfl⟩
  rw [hNN] at PT he hN
  rw [hNN]
  have q1 : ((N : Nat) : Int) ≤ 9000 := by omega
  have t0 : ((m2 : Int) != 4 + (N : Int)) = false := by rw [bne_eq_false_iff_eq]; omega
  have NW := Lib.hid (fun W (h : Below w.heap.size w W) => rnew_t zs C m2 c2 W hz (hpz.below h) (by omega))
  have V2 := Lib.hid (fun W (S : List Nat) A2 k2 (hS : S.length = N) (hSS : Sr W A2 S) (hBS : Bytes S) (h : Below w.heap.size w W) => verify_t ys xs S A B A2 56 c m1 c1 N k2 W hy (hp.below h) hb (by decide) hx (hpx.below h) hbx hc1 (by omega) hS hSS hBS (by omega) (hk.below h hk.lt) (hki.kept h))
  have HZL := Lib.hid hz; have HZB := Lib.hid hbz
  obtain ⟨rb, hrb⟩ : ∃ b, hold1 N ys xs zs = b := ⟨_, rfl⟩
  have HRB := Lib.hid (hrb.symm)
  rw [hrb]
  have HE := Lib.hid he
  have HN9 := Lib.hid hN
  clear hy hp hb hi hvi hx hpx hbx hc1 hm1 hz hpz hbz hk hki hp9 hNN hrb he
  go_enter Tryz.func31, Tryz.ntmps31
  go_wp2_with ((with_reducible refine load_blk 82 (.tmp 3) w.heap.size 82 (hkv 1 (.slice A 56 c)) _ rfl rfl ?_ Tryz.underlying82 ?_ ?_ ?_ ?_); exact R0.out; exact rfl; exact hkv_size _ _; exact rfl)
  refine PT.out.mono ?_
  rintro e w1 ⟨rfl, b1⟩
  have R1 := Lib.hid (R0.out.below b1 R0.out.lt); have BB1 := Lib.hid (B0.out.trans (b1.mono B0.out.size))
  have l1 : w1.cell? ⟨w.heap.size, 0, none⟩ = some (.int .i64 1) := R1.out.cell 0
  have l2 : w1.cell? ⟨w.heap.size, 1, none⟩ = some (.slice A 56 c) := R1.out.cell 1
  clear b1 R0 B0 PT
  go_wp2_with fail
  refine (NW.out w1 BB1.out).mono ?_
  rintro e w2 ⟨g, rfl, hg, x2, b2⟩
  have H2 := Lib.hid (show HZ1 w w2 A c g zs from ⟨R1.out.below b2 R1.out.lt, x2, by have := R1.out.lt; omega, BB1.out.trans (b2.mono BB1.out.size)⟩)
  clear l1 l2 x2 b2 hg R1 BB1 NW
  have z1 : IntKind.i64.wrap 0 = 0 := rfl
  have z2 : IntKind.u64.wrap 0 = 0 := rfl
  go_upto_region 5 with (fail)
  have H3 := Lib.hid (H2.out.below (show Below w2.heap.size w2 w2.drew from (Below.refl _ _).drew))
  refine wp_region_held (S := fun X => X.cell? ⟨w.heap.size, 0, none⟩ = some (.int .i64 1)) (by kernel_rfl) ?_
  change wpAnyH _ _ _ _ _ _ _ _ w2.drew
  obtain ⟨U, hU⟩ : ∃ U, w2.drew = U := ⟨_, rfl⟩
  rw [hU] at H3 ⊢
  clear hU H2
  have s0 : U.cell? ⟨w.heap.size, 0, none⟩ = some (.int .i64 1) := H3.out.box.cell 0
  refine wpAnyH_take (i := 0) (v := ?_) rfl (by kernel_rfl) (by kernel_rfl) (by kernel_rfl) (fun _ _ _ h => h) (Or.inl ⟨by kernel_rfl, ?_⟩) s0 ?_
  rotate_left 1
  · (intro w hS; clear hS; go_simp; try (with_reducible rfl))
  refine wpAnyH_take (i := 2) (v := ?_) rfl (by kernel_rfl) (by kernel_rfl) (by kernel_rfl) (fun _ _ _ h => h) (Or.inl ⟨by kernel_rfl, ?_⟩) s0 ?_
  rotate_left 1
  · (intro w hS; clear hS; go_simp; try (with_reducible rfl))
  refine wpAnyH_take (i := 3) (v := ?_) rfl (by kernel_rfl) (by kernel_rfl) (by kernel_rfl) (fun _ _ _ h => h) (Or.inl ⟨by kernel_rfl, ?_⟩) s0 ?_
  rotate_left 1
  · (intro w hS; have hs := hS; clear hS; go_simp; try (with_reducible rfl))
  refine wpAnyH_take (i := 4) (v := ?_) rfl (by kernel_rfl) (by kernel_rfl) (by kernel_rfl) (fun _ _ _ h => h) (Or.inl ⟨by kernel_rfl, ?_⟩) s0 ?_
  rotate_left 1
  · (intro w hS; clear hS; go_simp; try (with_reducible rfl))
  refine wpAnyH_take (i := 5) (v := ?_) rfl (by kernel_rfl) (by kernel_rfl) (by kernel_rfl) (fun _ _ _ h => h) (Or.inl ⟨by kernel_rfl, ?_⟩) s0 ?_
  rotate_left 1
  · (intro w hS; clear hS; go_simp; try (with_reducible rfl))
  refine wpAnyH_ready (rs := [1]) (by kernel_rfl) (by simp) ?_
  refine AllReadyH.cons rfl (fun K hK => ?_) AllReadyH.nil
  go_simp
  refine (rnum_ok g zs false 4 U H3.out.rd HZB.out (by decide) (by decide) (by rw [HZL.out, HE.out]; omega) (by rw [HZL.out, HE.out]; have := HN9.out; omega)).mono ?_
  rintro e w3 ⟨rfl, x3, k3⟩
  have H4 := Lib.hid (H3.out.read k3 x3)
  clear x3 k3 H3 s0
  have s0 : w3.cell? ⟨w.heap.size, 0, none⟩ = some (.int .i64 1) := H4.out.box.cell 0
  refine hK.out _ _ s0 (fun _ => ?_)
  clear hK K
  obtain ⟨vv, hvv⟩ : ∃ x, val (zs.take 4) = x := ⟨_, rfl⟩
  have HVV := Lib.hid hvv
  rw [hvv]
  clear hvv
  refine wpAnyH_take (i := 6) (v := ?_) rfl (by kernel_rfl) (by kernel_rfl) (by kernel_rfl) (fun _ _ _ h => h) (Or.inl ⟨by kernel_rfl, ?_⟩) s0 ?_
  rotate_left 1
  · (intro w hS; clear hS; go_simp; try (with_reducible rfl))
  refine wpAnyH_done (by kernel_rfl) ?_ _
  go_simp
  have l0 := s0
  have l1 : w3.cell? ⟨w.heap.size, 1, none⟩ = some (.slice A 56 c) := H4.out.box.cell 1
  clear s0
  by_cases hv1 : vv = 0
  · subst hv1
    have HRB2 := Lib.hid (show rb = decide (verN ys xs ((zs.drop 4).take N) = 0) from by rw [HRB.out, hold1, HVV.out, decide_eq_true rfl, Bool.true_and])
    clear HRB HVV
    go_upto_region 9 with (fail)
    clear l0 l1 z1 z2
    have HLN := Lib.hid (show (zs.drop 4).length = N by rw [List.length_drop, HZL.out, HE.out]; omega)
    have HB4 := Lib.hid (bytes_drop HZB.out 4)
    go_loopw [9, 41] (fun x y wr => y = .int .i64 0 ∧ x = .slice A 56 c ∧ HZ1 w wr A c g (zs.drop 4)) (fun _ _ _ => 0)
    case atStart => exact ⟨rfl, rfl, H4.out⟩
    case round =>
      clear H4
      obtain ⟨rfl, rfl, hz⟩ := hrel
      have H5 := Lib.hid hz
      clear hz
      go_wp2_with fail
      refine (raw_ok g (zs.drop 4) false N wr H5.out.rd (by rw [HLN.out]; omega) (by rw [HLN.out]; omega)).mono ?_
      rintro e v1 ⟨u1, rfl, o1, x1, k1⟩
      obtain ⟨A1, d1, rfl, _⟩ := own_form o1
      have H6 := Lib.hid (H5.out.read k1 x1)
      have S2 := Lib.hid (show Sr v1 A1 ((zs.drop 4).take N) from Sr.of_own o1)
      have L2 := Lib.hid (show ((zs.drop 4).take N).length = N by rw [List.length_take, HLN.out]; omega)
      have L2B := Lib.hid (show Bytes ((zs.drop 4).take N) from bytes_take HB4.out N)
      clear o1 x1 k1 H5
      have VE := Lib.hid (V2.out v1 _ A1 d1 L2.out S2.out L2B.out H6.out.bel)
      obtain ⟨n2, hn2⟩ : ∃ b, verN ys xs ((zs.drop 4).take N) = b := ⟨_, rfl⟩
      rw [hn2] at VE HRB2
      clear hn2 V2
      go_wp2_with fail
      refine VE.out.mono ?_
      rintro e v3 ⟨rfl, b3⟩
      have H7 := Lib.hid (H6.out.below b3)
      have e2 : (((n2 : Int) == 0) : Bool) = decide (n2 = 0) := by
        by_cases h : n2 = 0
        · subst h; rfl
        · rw [decide_eq_false h, beq_eq_false_iff_ne]; omega
      obtain ⟨zb, hzb⟩ : ∃ z, decide (n2 = 0) = z := ⟨_, rfl⟩
      rw [hzb] at e2 HRB2
      obtain rfl := HRB2.out
      clear b3 hzb H6 HRB2
      go_wp2_with fail
      go_ret
      exact ⟨rfl, H7.out.bel⟩
  · have HRB2 := Lib.hid (show rb = false from by rw [HRB.out, hold1, HVV.out, decide_eq_false hv1, Bool.false_and])
    have e1 : ((vv : Int) != 0) = true := by rw [bne_iff_ne]; omega
    obtain rfl := HRB2.out
    clear HRB HVV HRB2 hv1
    go_wp2_with fail
    go_ret
    exact ⟨rfl, H4.out.bel⟩
set_option maxRecDepth 100000 in
set_option maxHeartbeats 1000000 in
theorem hverify_1 (xs ms zs : List Nat) (i : Nat) (A B C : Option Addr) (c m1 c1 m2 c2 : Nat) (w : World) (hx : xs.length = 60) (hp : Sr w A xs) (hb : Bytes xs) (hf : hform xs = true) (h2 : val (xs.take 4) = 1) (hi : i < 4) (hvi : val (((xs.drop 4).drop 4).take 4) = i + 1) (hms : ms.length = m1) (hpm : Sr w B ms) (hbm : Bytes ms) (hc1 : m1 ≤ c1) (hm1 : m1 ≤ 100000) (hz : zs.length = m2) (hpz : Sr w C zs) (hbz : Bytes zs) (hk : KAt w) (hki : KI w) (he : m2 = 4 + lszN i) :
    Calls Tryz.prog 13 #[.slice A 60 c, .slice B m1 c1, .slice C m2 c2] w fun e w' => e = .returned (.int .i64 ((if hold1 (lszN i) (xs.drop 4) ms zs = true then 0 else 3 : Nat) : Int)) ∧ Below w.heap.size w w' := by
  have RK := Lib.hid (hrk_60 xs A c w hx hp hb hki)
  obtain ⟨ys, hys⟩ : ∃ ys, xs.drop 4 = ys := ⟨_, rfl⟩
  have hyl : ys.length = 56 := by rw [← hys, List.length_drop, hx]
  have hyb : Bytes ys := by rw [← hys]; exact bytes_drop hb 4
  rw [hf, h2, hys] at RK
  rw [hys] at hvi ⊢
  have HO := Lib.hid (fun W A' c' (hS : Sr W A' ys) (h : Below w.heap.size w W) => hholds_1y ys ms zs i A' B C c' m1 c1 m2 c2 W hyl hS hyb hi hvi hms (hpm.below h) hbm hc1 hm1 hz (hpz.below h) hbz (hk.below h hk.lt) (hki.kept h) he)
  obtain ⟨r, hr⟩ : ∃ r, hold1 (lszN i) ys ms zs = r := ⟨_, rfl⟩
  rw [hr] at HO ⊢
  have HYL := Lib.hid hyl
  clear hx hp hb hf h2 hi hvi hms hpm hbm hc1 hm1 hz hpz hbz hk hki he hys hyb hr hyl
  go_enter Tryz.func13, Tryz.ntmps13
  go_wp2_with fail
  refine RK.out.mono ?_
  rintro e w1 ⟨b1, hres⟩
  have B1 := Lib.hid b1; have R1 := Lib.hid (Blk.new w1 82 (hkv 0 (.slice none 0 0)))
  clear b1 RK
  rcases hres with ⟨hf, -⟩ | ⟨-, A', c', rfl, hc', s1⟩
  · exact absurd hf (by decide)
  · have S2 := Lib.hid (sr_setRow (g := w1.heap.size) (s1.below ((Below.refl w1.heap.size w1).alloc (Nat.le_refl _) (.cells (hkv 0 (.slice none 0 0)).toArray 82))) (fun a ha => by have := s1.lt (by rw [HYL.out]; decide) a ha; omega) (hkv ((1 : Nat) : Int) (.slice A' 56 c')).toArray)
    have R2 := Lib.hid (R1.out.setRow (hkv ((1 : Nat) : Int) (.slice A' 56 c')))
    have B2 := Lib.hid (below_setRow (B1.out.alloc B1.out.size (.cells (hkv 0 (.slice none 0 0)).toArray 82)) B1.out.size (hkv ((1 : Nat) : Int) (.slice A' 56 c')).toArray)
    clear s1 hc'
    go_wp2_with (first
      | ((with_reducible refine store_blk 82 (.tmp 7) (.tmp 12) w1.heap.size 82 (hkv 0 (.slice none 0 0)) (hkv ((1 : Nat) : Int) (.slice A' 56 c')) rfl rfl ?_ ?_ ?_ ?_ ?_ ?_ ?_); exact R1.out; exact rfl; exact hkv_size _ _; exact hkv_one _ _ _ _; exact rfl; exact rfl)
      | ((with_reducible refine load_blk 82 (.tmp 7) w1.heap.size 82 (hkv ((1 : Nat) : Int) (.slice A' 56 c')) _ rfl rfl ?_ Tryz.underlying82 ?_ ?_ ?_ ?_); exact R2.out; exact rfl; exact hkv_size _ _; exact rfl))
    refine (HO.out _ A' c' S2.out B2.out).mono ?_
    rintro e w3 ⟨rfl, b3⟩
    have B3 := Lib.hid (B2.out.trans (b3.mono B2.out.size))
    clear b3 B2 R2 S2 HO
    cases r with
    | true =>
      go_wp2_with fail
      go_ret
      exact ⟨rfl, B3.out⟩
    | false =>
      go_wp2_with fail
      go_ret
      exact ⟨rfl, B3.out⟩
end Go.Proofs.YtohgggblnnokeaaGreatDoor
namespace Go.Proofs.YtohgggblnnokeaaGreatDoor
open Go Go.RowKit Sh
theorem hsig1_length (I seed : List Nat) (i q : Nat) (xs : List Nat) (hq : q < 32) : (hsig1N I seed i q xs).length = 4 + lszN i := by
  unfold hsig1N lszN
  rw [List.length_append, beN_length, lsigN_length _ _ i q _ hq]
theorem hsig1_holds (I seed : List Nat) (i q : Nat) (xs : List Nat) (hi : i < 4) (hq : q < 32) (hI : I.length = 16) : hold1 (lszN i) (lpubN I seed i) xs (hsig1N I seed i q xs) = true := by
  have h1 : (lsigN I seed i q xs).length = lszN i := lsigN_length _ _ i q _ hq
  unfold hold1 hsig1N
  rw [List.take_left' (beN_length _ _), List.drop_left' (beN_length _ _), val_beN, List.take_of_length_le (by omega), verN_sign I seed i q xs hi hq hI]
  rfl
theorem hsig1_bytes (I seed : List Nat) (i q : Nat) (xs : List Nat) (hi : i < 4) (hI : Bytes I) (hs : Bytes seed) : Bytes (hsig1N I seed i q xs) := app_bytes (beN_bytes _ _) (lsigN_bytes _ _ i q xs hi hI hs)
end Go.Proofs.YtohgggblnnokeaaGreatDoor
namespace Go.Proofs.YtohgggblnnokeaaGreatDoor
open Go Go.RowKit Sh

set_option maxRecDepth 100000 in
set_option maxHeartbeats 1000000 in
theorem hsign_neg (I seed : List Nat) (v l gu g : Nat) (lows : List Value) (n : Int) (P : Option Addr) (m cc : Nat) (w : World) (hI : I.length = 16) (hs : seed.length = 32) (hB : Blk w g 62 (keyC I seed v l gu lows)) (hn : n < 0) :
    Calls Tryz.prog 8 #[.pointer (some ⟨g, 0, none⟩), .int .i64 n, .slice P m cc] w fun e w' => e = .returned (.tuple #[.slice none 0 0, .int .i64 1]) ∧ Below w.heap.size w w' := by
  have ST := Lib.hid (hstands_yes I seed v l gu g lows w hI hs hB)
  clear hI hs hB
  go_enter Tryz.func8, Tryz.ntmps8
  go_wp2_with fail
  refine ST.out.mono ?_
  rintro e w1 ⟨rfl, rfl⟩
  go_wp2_with fail
  go_ret2
  exact ⟨rfl, Below.refl _ _⟩
set_option maxRecDepth 100000 in
set_option maxHeartbeats 1000000 in
theorem hsign_many (I seed : List Nat) (v l gu g : Nat) (lows : List Value) (P : Option Addr) (m cc : Nat) (w : World) (hI : I.length = 16) (hs : seed.length = 32) (hl : l = 1 ∨ l = 2) (hB : Blk w g 62 (keyC I seed v l gu lows)) :
    Calls Tryz.prog 8 #[.pointer (some ⟨g, 0, none⟩), .int .i64 ((manyN l : Nat) : Int), .slice P m cc] w fun e w' => e = .returned (.tuple #[.slice none 0 0, .int .i64 4]) ∧ Below w.heap.size w w' := by
  have ST := Lib.hid (hstands_yes I seed v l gu g lows w hI hs hB)
  have MA := Lib.hid (many_t l hl w)
  have cl : w.cell? ⟨g, 49, none⟩ = some (.int .i64 (l : Int)) := key_l hB hI hs
  obtain ⟨n, hn⟩ : ∃ n, manyN l = n := ⟨_, rfl⟩
  rw [hn] at MA ⊢
  have n1 : ¬ ((n : Int) < 0) := by omega
  clear hI hs hB hl hn
  go_enter Tryz.func8, Tryz.ntmps8
  go_wp2_with fail
  refine ST.out.mono ?_
  rintro e w1 ⟨rfl, rfl⟩
  go_wp2_with fail
  refine MA.out.mono ?_
  rintro e w1 ⟨rfl, rfl⟩
  go_wp2_with fail
  go_ret2
  exact ⟨rfl, Below.refl _ _⟩
set_option maxRecDepth 100000 in
set_option maxHeartbeats 1000000 in
theorem hverify_len1 (xs : List Nat) (i : Nat) (A B C : Option Addr) (c m1 c1 m2 c2 : Nat) (w : World) (hx : xs.length = 60) (hp : Sr w A xs) (hb : Bytes xs) (hf : hform xs = true) (h2 : val (xs.take 4) = 1) (hi : i < 4) (hvi : val (((xs.drop 4).drop 4).take 4) = i + 1) (hki : KI w) (hne : m2 ≠ 4 + lszN i) :
    Calls Tryz.prog 13 #[.slice A 60 c, .slice B m1 c1, .slice C m2 c2] w fun e w' => e = .returned (.int .i64 3) ∧ Below w.heap.size w w' := by
  have RK := Lib.hid (hrk_60 xs A c w hx hp hb hki)
  obtain ⟨ys, hys⟩ : ∃ ys, xs.drop 4 = ys := ⟨_, rfl⟩
  have hyl : ys.length = 56 := by rw [← hys, List.length_drop, hx]
  have hyb : Bytes ys := by rw [← hys]; exact bytes_drop hb 4
  rw [hf, h2, hys] at RK
  rw [hys] at hvi
  have HO := Lib.hid (fun W A' c' (hS : Sr W A' ys) (h : Below w.heap.size w W) => hholds_1 ys i A' B C c' m1 c1 m2 c2 W hyl hS hyb hi hvi (hki.kept h) hne)
  have HYL := Lib.hid hyl
  clear hx hp hb hf h2 hi hvi hki hne hys hyb hyl
  go_enter Tryz.func13, Tryz.ntmps13
  go_wp2_with fail
  refine RK.out.mono ?_
  rintro e w1 ⟨b1, hres⟩
  have B1 := Lib.hid b1; have R1 := Lib.hid (Blk.new w1 82 (hkv 0 (.slice none 0 0)))
  clear b1 RK
  rcases hres with ⟨hf, -⟩ | ⟨-, A', c', rfl, hc', s1⟩
  · exact absurd hf (by decide)
  · have S2 := Lib.hid (sr_setRow (g := w1.heap.size) (s1.below ((Below.refl w1.heap.size w1).alloc (Nat.le_refl _) (.cells (hkv 0 (.slice none 0 0)).toArray 82))) (fun a ha => by have := s1.lt (by rw [HYL.out]; decide) a ha; omega) (hkv ((1 : Nat) : Int) (.slice A' 56 c')).toArray)
    have R2 := Lib.hid (R1.out.setRow (hkv ((1 : Nat) : Int) (.slice A' 56 c')))
    have B2 := Lib.hid (below_setRow (B1.out.alloc B1.out.size (.cells (hkv 0 (.slice none 0 0)).toArray 82)) B1.out.size (hkv ((1 : Nat) : Int) (.slice A' 56 c')).toArray)
    clear s1 hc'
    go_wp2_with (first
      | ((with_reducible refine store_blk 82 (.tmp 7) (.tmp 12) w1.heap.size 82 (hkv 0 (.slice none 0 0)) (hkv ((1 : Nat) : Int) (.slice A' 56 c')) rfl rfl ?_ ?_ ?_ ?_ ?_ ?_ ?_); exact R1.out; exact rfl; exact hkv_size _ _; exact hkv_one _ _ _ _; exact rfl; exact rfl)
      | ((with_reducible refine load_blk 82 (.tmp 7) w1.heap.size 82 (hkv ((1 : Nat) : Int) (.slice A' 56 c')) _ rfl rfl ?_ Tryz.underlying82 ?_ ?_ ?_ ?_); exact R2.out; exact rfl; exact hkv_size _ _; exact rfl))
    refine (HO.out _ A' c' S2.out B2.out).mono ?_
    rintro e w3 ⟨rfl, b3⟩
    have B3 := Lib.hid (B2.out.trans (b3.mono B2.out.size))
    clear b3 B2 R2 S2 HO
    go_wp2_with fail
    go_ret
    exact ⟨rfl, B3.out⟩
set_option maxRecDepth 100000 in
set_option maxHeartbeats 1000000 in
theorem hverify_len2 (xs : List Nat) (i : Nat) (A B C : Option Addr) (c m1 c1 m2 c2 : Nat) (w : World) (hx : xs.length = 60) (hp : Sr w A xs) (hb : Bytes xs) (hf : hform xs = true) (h2 : val (xs.take 4) = 2) (hi : i < 4) (hvi : val (((xs.drop 4).drop 4).take 4) = i + 1) (hki : KI w) (hne : m2 ≠ 60 + 2 * lszN i) :
    Calls Tryz.prog 13 #[.slice A 60 c, .slice B m1 c1, .slice C m2 c2] w fun e w' => e = .returned (.int .i64 3) ∧ Below w.heap.size w w' := by
  have RK := Lib.hid (hrk_60 xs A c w hx hp hb hki)
  obtain ⟨ys, hys⟩ : ∃ ys, xs.drop 4 = ys := ⟨_, rfl⟩
  have hyl : ys.length = 56 := by rw [← hys, List.length_drop, hx]
  have hyb : Bytes ys := by rw [← hys]; exact bytes_drop hb 4
  rw [hf, h2, hys] at RK
  rw [hys] at hvi
  have HO := Lib.hid (fun W A' c' (hS : Sr W A' ys) (h : Below w.heap.size w W) => hholds_2 ys i A' B C c' m1 c1 m2 c2 W hyl hS hyb hi hvi (hki.kept h) hne)
  have HYL := Lib.hid hyl
  clear hx hp hb hf h2 hi hvi hki hne hys hyb hyl
  go_enter Tryz.func13, Tryz.ntmps13
  go_wp2_with fail
  refine RK.out.mono ?_
  rintro e w1 ⟨b1, hres⟩
  have B1 := Lib.hid b1; have R1 := Lib.hid (Blk.new w1 82 (hkv 0 (.slice none 0 0)))
  clear b1 RK
  rcases hres with ⟨hf, -⟩ | ⟨-, A', c', rfl, hc', s1⟩
  · exact absurd hf (by decide)
  · have S2 := Lib.hid (sr_setRow (g := w1.heap.size) (s1.below ((Below.refl w1.heap.size w1).alloc (Nat.le_refl _) (.cells (hkv 0 (.slice none 0 0)).toArray 82))) (fun a ha => by have := s1.lt (by rw [HYL.out]; decide) a ha; omega) (hkv ((2 : Nat) : Int) (.slice A' 56 c')).toArray)
    have R2 := Lib.hid (R1.out.setRow (hkv ((2 : Nat) : Int) (.slice A' 56 c')))
    have B2 := Lib.hid (below_setRow (B1.out.alloc B1.out.size (.cells (hkv 0 (.slice none 0 0)).toArray 82)) B1.out.size (hkv ((2 : Nat) : Int) (.slice A' 56 c')).toArray)
    clear s1 hc'
    go_wp2_with (first
      | ((with_reducible refine store_blk 82 (.tmp 7) (.tmp 12) w1.heap.size 82 (hkv 0 (.slice none 0 0)) (hkv ((2 : Nat) : Int) (.slice A' 56 c')) rfl rfl ?_ ?_ ?_ ?_ ?_ ?_ ?_); exact R1.out; exact rfl; exact hkv_size _ _; exact hkv_one _ _ _ _; exact rfl; exact rfl)
      | ((with_reducible refine load_blk 82 (.tmp 7) w1.heap.size 82 (hkv ((2 : Nat) : Int) (.slice A' 56 c')) _ rfl rfl ?_ Tryz.underlying82 ?_ ?_ ?_ ?_); exact R2.out; exact rfl; exact hkv_size _ _; exact rfl))
    refine (HO.out _ A' c' S2.out B2.out).mono ?_
    rintro e w3 ⟨rfl, b3⟩
    have B3 := Lib.hid (B2.out.trans (b3.mono B2.out.size))
    clear b3 B2 R2 S2 HO
    go_wp2_with fail
    go_ret
    exact ⟨rfl, B3.out⟩
end Go.Proofs.YtohgggblnnokeaaGreatDoor
