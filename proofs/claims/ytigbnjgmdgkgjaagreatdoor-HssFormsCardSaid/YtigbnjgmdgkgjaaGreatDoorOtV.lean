/-
  PACKAGE ots: Candidate, of a width and a leaf that may be.
-/
import Derived.Test.YtigbnjgmdgkgjaaGreatDoorOtZ
namespace Go.Proofs.YtigbnjgmdgkgjaaGreatDoor
open Go Go.RowKit Sh

structure ACap (w0 w : World) (gs gr gk gl : Nat) (I : List Nat) (q i : Nat) (P : Option Addr) (m c : Nat) : Prop where
  sig : Blk w gs 27 [.slice P m c]
  res : Blk w gr 24 (u8s z32)
  kind : Blk w gk 124 (kv (kd i))
  leaf : Blk w gl 128 (lf I q)
  bel : Below w0.heap.size w0 w
theorem ACap.below {w0 w w' : World} {gs gr gk gl : Nat} {I : List Nat} {q i : Nat} {P : Option Addr} {m c : Nat} (h : ACap w0 w gs gr gk gl I q i P m c) (hb : Below w.heap.size w w') : ACap w0 w' gs gr gk gl I q i P m c :=
  ⟨h.sig.below hb h.sig.lt, h.res.below hb h.res.lt, h.kind.below hb h.kind.lt, h.leaf.below hb h.leaf.lt, h.bel.trans (hb.mono h.bel.size)⟩
/-- The key that a signature of the form leads to. -/
def candN (I : List Nat) (q i : Nat) (msg xs : List Nat) : List Nat := pubOf I q (catN (candE I q i (digL i (msgN I q (piece xs 0) msg)) xs) (kd i).p)
set_option maxRecDepth 100000 in
set_option maxHeartbeats 2000000 in
theorem cand_sig (I xs : List Nat) (q i : Nat) (n : Int) (A P : Option Addr) (ma ca m c : Nat) (w : World) (hn : n = ((kd i).w : Int)) (hI : I.length = 16) (hq : q < 32) (hi : i < 4) (hx : xs.length = m) (hp : Sr w P xs) (hxb : Bytes xs) (hc : m ≤ c) (hml : m ≤ 9223372036854775807) (hno : m ≠ 36 + 32 * (kd i).p ∨ val (xs.take 4) ≠ (kd i).code) (hki : KI w) :
    Calls Tryz.prog 86 #[.agg (u8s I).toArray, .int .i64 (q : Int), .int .i64 n, .slice A ma ca, .slice P m c] w fun e w' => e = .returned (.tuple #[.agg (u8s z32).toArray, .int .i64 3]) ∧ Below w.heap.size w w' := by
  have FITS := Lib.hid (show ∀ V, Below w.heap.size w V → Calls Tryz.prog 105 #[.agg (kv (kd i)).toArray, .slice P m c] V fun e w' => e = .returned (.bool false) ∧ Below V.heap.size V w' from fun V hV => by
    by_cases hm : m = 36 + 32 * (kd i).p
    · refine (fits_t xs P i m c V hi hx (hp.below hV) hxb hc hm).mono ?_
      rintro e w' ⟨rfl, b⟩
      rcases hno with h | h
      · exact absurd hm h
      · exact ⟨by simp [h], b⟩
    · exact fits_len P i m c V hi hm hml)
  clear hx hp hxb hc hml hno
  have HI := Lib.hid hI
  have B0 := Lib.hid ((((Below.refl w.heap.size w).alloc (Nat.le_refl _) (.cells (u8s I).toArray 22)).alloc (by simp) (.cells #[.slice P m c] 27)).alloc (by simp; omega) (.cells (u8s z32).toArray 24))
  have K0 := Lib.hid (hki.kept B0.out)
  have I0 := Lib.hid (((Blk.new w 22 (u8s I)).alloc (.cells #[.slice P m c] 27)).alloc (.cells (u8s z32).toArray 24))
  have G0 := Lib.hid ((Blk.new2 w (.cells (u8s I).toArray 22) 27 [.slice P m c]).alloc (.cells (u8s z32).toArray 24))
  have Z0 := Lib.hid (blk_at (w := (w.alloc (.cells (u8s I).toArray 22)).alloc (.cells #[.slice P m c] 27)) (g := w.heap.size + 1 + 1) (by simp) (.cells (u8s z32).toArray 24) 24 (u8s z32))
  have HN := Lib.hid hn
  clear hI hki hn
  go_enter Tryz.func86, Tryz.ntmps86
  go_wp2_with fail
  refine find_t n _ K0.out _ (fun i' w1 hi' hn b1 => ?_) (fun _ hn _ => absurd HN.out (hn i hi))
  obtain rfl := kd_inj hi hi' (by have := HN.out; omega)
  have B1 := Lib.hid (B0.out.trans (b1.mono B0.out.size)); have I1 := Lib.hid (I0.out.below b1 I0.out.lt); have G1 := Lib.hid (G0.out.below b1 G0.out.lt); have Z1 := Lib.hid (Z0.out.below b1 Z0.out.lt); have R1 := Lib.hid (Blk.new w1 124 kz)
  have g1l := Z1.out.lt
  clear hn b1 hi' B0 K0 I0 G0 Z0
  go_upto_region 4 with (first
    | ((with_reducible refine store_blk 124 (.tmp 12) (.tmp 20) w1.heap.size 124 kz (kv (kd i)) rfl rfl ?_ ?_ ?_ ?_ ?_ ?_ ?_); exact R1.out; exact rfl; exact kv_size _; exact kv_one _; exact rfl; exact rfl)
    | (go_at_call 70; refine (isLeaf_yes q _ hq).mono ?_; rintro e w2 ⟨rfl, rfl⟩))
  refine world_is (fun W => Blk W w.heap.size 22 (u8s I) ∧ Blk W (w.heap.size + 1) 27 [.slice P m c] ∧ Blk W (w.heap.size + 1 + 1) 24 (u8s z32) ∧ Blk W w1.heap.size 124 (kv (kd i)) ∧ Below w.heap.size w W)
    ⟨(I1.out.alloc _).setRow_far (by omega) _, (G1.out.alloc _).setRow_far (by omega) _, (Z1.out.alloc _).setRow_far (by omega) _, R1.out.setRow _, below_setRow (B1.out.alloc B1.out.size _) B1.out.size _⟩ ?_
  rintro W ⟨i0, s0, z0', k0, bw⟩
  have I2 := Lib.hid i0; have G2 := Lib.hid s0; have Z2 := Lib.hid z0'; have K2 := Lib.hid k0; have BW := Lib.hid bw
  obtain ⟨gk, hgk⟩ : ∃ g, w1.heap.size = g := ⟨_, rfl⟩
  rw [hgk] at K2 g1l ⊢
  have gW : gk < W.heap.size := K2.out.lt
  have cs : W.cell? ⟨w.heap.size + 1, 0, none⟩ = some (.slice P m c) := G2.out.cell 0
  clear i0 s0 z0' k0 bw R1 I1 G1 Z1 B1 hgk
  go_wp2_with ((with_reducible refine load_blk 124 (.tmp 12) gk 124 (kv (kd i)) _ rfl rfl ?_ Tryz.underlying124 ?_ ?_ ?_ ?_); exact K2.out; exact rfl; exact kv_size _; exact rfl)
  clear cs
  refine (FITS.out _ BW.out).mono ?_
  rintro e w3 ⟨rfl, b3⟩
  have Z3 := Lib.hid (Z2.out.below b3 Z2.out.lt); have B3 := Lib.hid (BW.out.trans (b3.mono BW.out.size))
  clear b3 I2 G2 Z2 K2 BW
  go_wp2_with ((with_reducible refine store_blk 24 (.tmp 10) (.tmp 34) (w.heap.size + 1 + 1) 24 (u8s z32) (u8s z32) rfl rfl ?_ ?_ ?_ ?_ ?_ ?_ ?_); exact Z3.out; exact rfl; exact z32_size; exact u8s_one _; exact rfl; exact rfl)
  refine ret_blk2 (p := 10) (u := 11) (ty := 24) rfl rfl (w.heap.size + 1 + 1) 24 (u8s z32) _ rfl (Z3.out.setRow _) Tryz.underlying24 rfl z32_size (.int .i64 3) rfl ?_
  exact ⟨rfl, below_setRow B3.out (by omega) _⟩
set_option maxRecDepth 100000 in
set_option maxHeartbeats 4000000 in
theorem cand_t (I xs ys : List Nat) (q i : Nat) (n : Int) (A P : Option Addr) (ma ca m c : Nat) (w : World) (hn : n = ((kd i).w : Int)) (hI : I.length = 16) (hIb : Bytes I) (hq : q < 32) (hi : i < 4) (hy : ys.length = ma) (ha : Sr w A ys) (hyb : Bytes ys) (hca : ma ≤ ca) (hma : ma ≤ 70368744177664) (hx : xs.length = m) (hp : Sr w P xs) (hxb : Bytes xs) (hc : m ≤ c) (hm : m = 36 + 32 * (kd i).p) (hcode : val (xs.take 4) = (kd i).code) (hk : KAt w) (hki : KI w) :
    Calls Tryz.prog 86 #[.agg (u8s I).toArray, .int .i64 (q : Int), .int .i64 n, .slice A ma ca, .slice P m c] w fun e w' => e = .returned (.tuple #[.agg (u8s (candN I q i ys xs)).toArray, .int .i64 0]) ∧ Below w.heap.size w w' := by
  have HIB := Lib.hid hIb; have HY := Lib.hid hy; have HA := Lib.hid ha; have HYB := Lib.hid hyb; have HCA := Lib.hid hca; have HX := Lib.hid hx; have HP := Lib.hid hp; have HXB := Lib.hid hxb; have HC := Lib.hid hc; have HM := Lib.hid hm; have HCO := Lib.hid hcode; have HK := Lib.hid hk; have HG := Lib.hid hk.lt
  have hp265 := kd_p i hi
  have m36 : 36 ≤ m := by omega
  have PC0 := Lib.hid (show (piece xs 0).length = 32 ∧ Bytes (piece xs 0) from ⟨piece_length xs 0 (by omega), piece_bytes xs 0 hxb⟩)
  have hz := (zero_of_info zero265).1
  obtain ⟨Z, hZ⟩ : ∃ Z, List.replicate 265 0 = Z := ⟨_, rfl⟩
  rw [hZ] at hz
  have HZ := Lib.hid hZ
  clear hIb hy ha hyb hca hx hp hxb hc hm hcode hk hZ
  have HI := Lib.hid hI
  have B0 := Lib.hid ((((Below.refl w.heap.size w).alloc (Nat.le_refl _) (.cells (u8s I).toArray 22)).alloc (by simp) (.cells #[.slice P m c] 27)).alloc (by simp; omega) (.cells (u8s z32).toArray 24))
  have K0 := Lib.hid (hki.kept B0.out)
  have I0 := Lib.hid (((Blk.new w 22 (u8s I)).alloc (.cells #[.slice P m c] 27)).alloc (.cells (u8s z32).toArray 24))
  have G0 := Lib.hid ((Blk.new2 w (.cells (u8s I).toArray 22) 27 [.slice P m c]).alloc (.cells (u8s z32).toArray 24))
  have Z0 := Lib.hid (blk_at (w := (w.alloc (.cells (u8s I).toArray 22)).alloc (.cells #[.slice P m c] 27)) (g := w.heap.size + 1 + 1) (by simp) (.cells (u8s z32).toArray 24) 24 (u8s z32))
  have HN := Lib.hid hn
  clear hI hki hn
  go_enter Tryz.func86, Tryz.ntmps86
  go_wp2_with fail
  refine find_t n _ K0.out _ (fun i' w1 hi' hn b1 => ?_) (fun _ hn _ => absurd HN.out (hn i hi))
  obtain rfl := kd_inj hi hi' (by have := HN.out; omega)
  have B1 := Lib.hid (B0.out.trans (b1.mono B0.out.size)); have I1 := Lib.hid (I0.out.below b1 I0.out.lt); have G1 := Lib.hid (G0.out.below b1 G0.out.lt); have Z1 := Lib.hid (Z0.out.below b1 Z0.out.lt); have R1 := Lib.hid (Blk.new w1 124 kz)
  have g1l := Z1.out.lt
  clear hn b1 hi' B0 K0 I0 G0 Z0
  go_upto_region 4 with (first
    | ((with_reducible refine store_blk 124 (.tmp 12) (.tmp 20) w1.heap.size 124 kz (kv (kd i)) rfl rfl ?_ ?_ ?_ ?_ ?_ ?_ ?_); exact R1.out; exact rfl; exact kv_size _; exact kv_one _; exact rfl; exact rfl)
    | (go_at_call 70; refine (isLeaf_yes q _ hq).mono ?_; rintro e w2 ⟨rfl, rfl⟩))
  refine world_is (fun W => Blk W w.heap.size 22 (u8s I) ∧ Blk W (w.heap.size + 1) 27 [.slice P m c] ∧ Blk W (w.heap.size + 1 + 1) 24 (u8s z32) ∧ Blk W w1.heap.size 124 (kv (kd i)) ∧ Below w.heap.size w W)
    ⟨(I1.out.alloc _).setRow_far (by omega) _, (G1.out.alloc _).setRow_far (by omega) _, (Z1.out.alloc _).setRow_far (by omega) _, R1.out.setRow _, below_setRow (B1.out.alloc B1.out.size _) B1.out.size _⟩ ?_
  rintro W ⟨i0, s0, z0', k0, bw⟩
  have I2 := Lib.hid i0; have G2 := Lib.hid s0; have Z2 := Lib.hid z0'; have K2 := Lib.hid k0; have BW := Lib.hid bw
  obtain ⟨gk, hgk⟩ : ∃ g, w1.heap.size = g := ⟨_, rfl⟩
  rw [hgk] at K2 g1l ⊢
  have gW : gk < W.heap.size := K2.out.lt
  have cs : W.cell? ⟨w.heap.size + 1, 0, none⟩ = some (.slice P m c) := G2.out.cell 0
  clear i0 s0 z0' k0 bw R1 I1 G1 Z1 B1 hgk
  go_wp2_with ((with_reducible refine load_blk 124 (.tmp 12) gk 124 (kv (kd i)) _ rfl rfl ?_ Tryz.underlying124 ?_ ?_ ?_ ?_); exact K2.out; exact rfl; exact kv_size _; exact rfl)
  clear cs
  refine (fits_t xs P i m c W hi HX.out (HP.out.below BW.out) HXB.out HC.out HM.out).mono ?_
  rintro e w3 ⟨rfl, b3⟩
  rw [show decide (val (xs.take 4) = (kd i).code) = true from decide_eq_true HCO.out]
  have I3 := Lib.hid (I2.out.below b3 I2.out.lt); have G3 := Lib.hid (G2.out.below b3 G2.out.lt); have Z3 := Lib.hid (Z2.out.below b3 Z2.out.lt); have K3 := Lib.hid (K2.out.below b3 K2.out.lt); have B3 := Lib.hid (BW.out.trans (b3.mono BW.out.size))
  have l3 : gk < w3.heap.size := K3.out.lt
  clear b3 I2 G2 Z2 K2 BW gW
  go_upto_region 7 with (first
    | ((with_reducible refine load_blk 22 (.tmp 5) w.heap.size 22 (u8s I) _ rfl rfl ?_ Tryz.underlying22 ?_ ?_ ?_ ?_); exact I3.out; exact rfl; exact size16 _ HI.out; exact rfl)
    | ((with_reducible refine build_two rfl 128 (.tmp 35) (.tmp 36) rfl (lf I q) (.agg (u8s I).toArray) (.int .i64 (q : Int)) ?_ ?_ ?_ ?_); exact rfl; exact rfl; exact built_leaf I q HI.out)
    | ((with_reducible refine store_blk 128 (.tmp 14) (.tmp 37) w3.heap.size 128 (lf (List.replicate 16 0) 0) (lf I q) rfl rfl ?_ ?_ ?_ ?_ ?_ ?_ ?_); exact Blk.new w3 _ _; exact (by rw [lf_length _ _ HI.out]; rfl); exact lf_size _ _ HI.out; exact lf_one _ _; exact rfl; exact rfl))
  refine world_is (fun V => ACap w V (w.heap.size + 1) (w.heap.size + 1 + 1) gk w3.heap.size I q i P m c)
    ⟨(G3.out.alloc _).setRow_far (by omega) _, (Z3.out.alloc _).setRow_far (by omega) _, (K3.out.alloc _).setRow_far (by omega) _, (Blk.new w3 128 (lf (List.replicate 16 0) 0)).setRow _, below_setRow (B3.out.alloc B3.out.size _) B3.out.size _⟩ ?_
  rintro W4 sc
  have SC := Lib.hid sc
  obtain ⟨gl, hgl⟩ : ∃ g, w3.heap.size = g := ⟨_, rfl⟩
  rw [hgl] at SC l3 ⊢
  clear sc hgl I3 G3 Z3 K3 B3
  have HQ1 := Lib.hid (show (msgN I q (piece xs 0) ys).length = 32 ∧ Bytes (msgN I q (piece xs 0) ys) from ⟨rfl, sum_bytes _ (app_bytes (app_bytes (headN_bytes _ _ _ HIB.out) PC0.out.2) HYB.out)⟩)
  obtain ⟨Q, hQ⟩ : ∃ Q, msgN I q (piece xs 0) ys = Q := ⟨_, rfl⟩
  rw [hQ] at HQ1
  have HQQ := Lib.hid hQ
  have HD1 := Lib.hid (digL_length i hi Q)
  have HD2 := Lib.hid (show ∀ j, j < (kd i).p → gt (digL i Q) j ≤ 2 ^ (kd i).w - 1 from fun j hj => by rw [digL_get i j hj]; exact digN_le i j Q)
  obtain ⟨D, hD⟩ : ∃ D, digL i Q = D := ⟨_, rfl⟩
  rw [hD] at HD1 HD2
  have HDD := Lib.hid hD
  have HZD := Lib.hid (show (ints Z).length = (ints D).length by rw [ints_length, ints_length, HD1.out, ← HZ.out, List.length_replicate])
  clear hQ hD
  have rs : ∀ X, ACap w X (w.heap.size + 1) (w.heap.size + 1 + 1) gk gl I q i P m c → (X.rangeAt gk 0 (kv (kd i)) ∧ X.rangeAt gl 0 (lf I q) ∧ X.cell? ⟨w.heap.size + 1, 0, none⟩ = some (.slice P m c)) := fun X h => ⟨range_of_blk h.kind, range_of_blk h.leaf, h.sig.cell 0⟩
  have RS := Lib.hid rs
  clear rs
  dsimp only [Act.put]
  go_cut [15] (fun s15 wx => ∃ g : Nat, s15 = .pointer (some ⟨g, 0, none⟩) ∧ Blk wx g 130 (ints D) ∧ ACap w wx (w.heap.size + 1) (w.heap.size + 1 + 1) gk gl I q i P m c)
  case first =>
    have SC0 := Lib.hid (SC.out.below (show Below W4.heap.size W4 W4.drew from (Below.refl _ _).drew))
    have r1 := RS.out _ SC0.out
    refine wp_region_held (S := fun X => X.rangeAt gk 0 (kv (kd i)) ∧ X.rangeAt gl 0 (lf I q) ∧ X.cell? ⟨w.heap.size + 1, 0, none⟩ = some (.slice P m c)) (by kernel_rfl) ?_
    change wpAnyH _ _ _ _ _ _ _ _ W4.drew
    refine wpAnyH_take (i := 0) (v := .agg (kv (kd i)).toArray) rfl (by kernel_rfl) (by kernel_rfl) (by kernel_rfl) (fun _ _ _ h => h) (yieldsIf_load_mid (by kernel_rfl) 124 (.tmp 12) rfl gk 0 (by go_simp) (kv (kd i)) _ (fun _ h => h.1) Tryz.underlying124 rfl (kv_size _)) r1 ?_
    refine wpAnyH_take (i := 1) (v := .agg (lf I q).toArray) rfl (by kernel_rfl) (by kernel_rfl) (by kernel_rfl) (fun _ _ _ h => h) (yieldsIf_load_mid (by kernel_rfl) 128 (.tmp 14) rfl gl 0 (by go_simp) (lf I q) _ (fun _ h => h.2.1) Tryz.underlying128 rfl (lf_size _ _ HI.out)) r1 ?_
    refine wpAnyH_take (i := 2) (v := ?_) rfl (by kernel_rfl) (by kernel_rfl) (by kernel_rfl) (fun _ _ _ h => h) (Or.inl ⟨by kernel_rfl, ?_⟩) r1 ?_
    rotate_left 1
    · (intro w hS; have hs := hS.2.2; clear hS; go_simp; try (with_reducible rfl))
    refine wpAnyH_take (i := 4) (v := ?_) rfl (by kernel_rfl) (by kernel_rfl) (by kernel_rfl) (fun _ _ _ h => h) (Or.inl ⟨by kernel_rfl, ?_⟩) r1 ?_
    rotate_left 1
    · (intro w hS; clear hS; go_simp; try (with_reducible rfl))
    clear r1
    refine wpAnyH_ready (rs := [3, 7]) (by kernel_rfl) (by simp) ?_
    refine AllReadyH.cons rfl (fun K hK => ?_) (AllReadyH.cons rfl (fun K hK => ?_) AllReadyH.nil)
    · skip
      go_simp
      refine (hashAt_t xs P m c 0 W4.drew HX.out (HP.out.below SC0.out.bel) HC.out (by decide) (by omega)).mono ?_
      rintro e wa ⟨rfl, b⟩
      have SCa := Lib.hid (SC0.out.below b)
      have r := RS.out _ SCa.out
      skip
      clear b
      refine hK.out _ _ r (fun _ => ?_)
      clear hK K
      refine wpAnyH_ready (rs := [5, 7]) (by kernel_rfl) (by simp) ?_
      refine AllReadyH.cons rfl (fun K hK => ?_) (AllReadyH.cons rfl (fun K hK => ?_) AllReadyH.nil)
      · skip
        go_simp
        refine (message_t I (piece xs 0) ys q A ma ca wa HI.out HIB.out PC0.out.1 PC0.out.2 hq HY.out (HA.out.below SCa.out.bel) HYB.out HCA.out hma (HK.out.below SCa.out.bel HG.out)).mono ?_
        rintro e wb ⟨rfl, b⟩
        rw [HQQ.out]
        have SCb := Lib.hid (SCa.out.below b)
        have r := RS.out _ SCb.out
        skip
        clear b
        refine hK.out _ _ r (fun _ => ?_)
        clear hK K
        refine wpAnyH_ready (rs := [6, 7]) (by kernel_rfl) (by simp) ?_
        refine AllReadyH.cons rfl (fun K hK => ?_) (AllReadyH.cons rfl (fun K hK => ?_) AllReadyH.nil)
        · skip
          go_simp
          refine (digits_t i hi Q wb HQ1.out.1 HQ1.out.2).mono ?_
          rintro e wc ⟨rfl, b⟩
          rw [show dv (digN (kd i).w (kd i).ls Q) (kd i).p 265 = digL i Q from rfl, HDD.out]
          have SCc := Lib.hid (SCb.out.below b)
          have r := RS.out _ SCc.out
          skip
          clear b
          refine hK.out _ _ r (fun _ => ?_)
          clear hK K
          refine wpAnyH_ready (rs := [7]) (by kernel_rfl) (by simp) ?_
          refine AllReadyH.cons rfl (fun K hK => ?_) AllReadyH.nil
          go_simp
          have b := (Below.refl (wc).heap.size wc).alloc (Nat.le_refl _) (.cells (ints Z).toArray 130)
          have SCd := Lib.hid (SCc.out.below b)
          have D0 := Lib.hid (Blk.new wc 130 (ints Z))
          have n1 := SCc.out.sig.lt; have n2 := SCc.out.res.lt; have n3 := SCc.out.kind.lt; have n4 := SCc.out.leaf.lt; have n5 := SCc.out.bel.size
          have r := RS.out _ SCd.out
          clear b
          refine hK.out _ _ r (fun _ => ?_)
          clear hK K
          refine wpAnyH_ready (rs := [8]) (by kernel_rfl) (by simp) ?_
          refine AllReadyH.cons rfl (fun K hK => ?_) AllReadyH.nil
          rw [if_pos (by kernel_rfl)]
          refine wstore_part 130 (.tmp 15) (.tmp 44) wc.heap.size 0 130 [] (ints Z) [] (ints D) rfl (by rw [List.nil_append, List.append_nil]; exact D0.out) rfl HZD.out (size265 _ HD1.out) (ints_one _) rfl rfl ?_
          intro wz a1 a2 a3
          have DZ0 := Lib.hid (show Blk wz wc.heap.size 130 (ints D) by have := a1.out; rwa [List.nil_append, List.append_nil] at this)
          have CZ := Lib.hid (show ACap w wz (w.heap.size + 1) (w.heap.size + 1 + 1) gk gl I q i P m c from ⟨SCd.out.sig.but a2.out SCd.out.sig.lt (by omega), SCd.out.res.but a2.out SCd.out.res.lt (by omega), SCd.out.kind.but a2.out SCd.out.kind.lt (by omega), SCd.out.leaf.but a2.out SCd.out.leaf.lt (by omega), SCd.out.bel.trans (a2.out.below (by omega) SCd.out.bel.size)⟩)
          refine hK.out _ _ (RS.out _ CZ.out) (fun _ => ?_)
          clear hK K
          refine wpAnyH_done (by kernel_rfl) ?_ _
          go_simp
          go_wp2_with fail
          go_meet
          exact ⟨wc.heap.size, rfl, DZ0.out, CZ.out⟩
        · skip
          go_simp
          have b := (Below.refl (wb).heap.size wb).alloc (Nat.le_refl _) (.cells (ints Z).toArray 130)
          have SCc := Lib.hid (SCb.out.below b)
          have D0 := Lib.hid (Blk.new wb 130 (ints Z))
          have n1 := SCb.out.sig.lt; have n2 := SCb.out.res.lt; have n3 := SCb.out.kind.lt; have n4 := SCb.out.leaf.lt; have n5 := SCb.out.bel.size
          have r := RS.out _ SCc.out
          clear b
          refine hK.out _ _ r (fun _ => ?_)
          clear hK K
          refine wpAnyH_ready (rs := [6]) (by kernel_rfl) (by simp) ?_
          refine AllReadyH.cons rfl (fun K hK => ?_) AllReadyH.nil
          go_simp
          refine (digits_t i hi Q _ HQ1.out.1 HQ1.out.2).mono ?_
          rintro e wd ⟨rfl, b⟩
          rw [show dv (digN (kd i).w (kd i).ls Q) (kd i).p 265 = digL i Q from rfl, HDD.out]
          have SCd := Lib.hid (SCc.out.below b)
          have r := RS.out _ SCd.out
          have D0 := Lib.hid (D0.out.below b D0.out.lt)
          clear b
          refine hK.out _ _ r (fun _ => ?_)
          clear hK K
          refine wpAnyH_ready (rs := [8]) (by kernel_rfl) (by simp) ?_
          refine AllReadyH.cons rfl (fun K hK => ?_) AllReadyH.nil
          rw [if_pos (by kernel_rfl)]
          refine wstore_part 130 (.tmp 15) (.tmp 44) wb.heap.size 0 130 [] (ints Z) [] (ints D) rfl (by rw [List.nil_append, List.append_nil]; exact D0.out) rfl HZD.out (size265 _ HD1.out) (ints_one _) rfl rfl ?_
          intro wz a1 a2 a3
          have DZ0 := Lib.hid (show Blk wz wb.heap.size 130 (ints D) by have := a1.out; rwa [List.nil_append, List.append_nil] at this)
          have CZ := Lib.hid (show ACap w wz (w.heap.size + 1) (w.heap.size + 1 + 1) gk gl I q i P m c from ⟨SCd.out.sig.but a2.out SCd.out.sig.lt (by omega), SCd.out.res.but a2.out SCd.out.res.lt (by omega), SCd.out.kind.but a2.out SCd.out.kind.lt (by omega), SCd.out.leaf.but a2.out SCd.out.leaf.lt (by omega), SCd.out.bel.trans (a2.out.below (by omega) SCd.out.bel.size)⟩)
          refine hK.out _ _ (RS.out _ CZ.out) (fun _ => ?_)
          clear hK K
          refine wpAnyH_done (by kernel_rfl) ?_ _
          go_simp
          go_wp2_with fail
          go_meet
          exact ⟨wb.heap.size, rfl, DZ0.out, CZ.out⟩
      · skip
        go_simp
        have b := (Below.refl (wa).heap.size wa).alloc (Nat.le_refl _) (.cells (ints Z).toArray 130)
        have SCb := Lib.hid (SCa.out.below b)
        have D0 := Lib.hid (Blk.new wa 130 (ints Z))
        have n1 := SCa.out.sig.lt; have n2 := SCa.out.res.lt; have n3 := SCa.out.kind.lt; have n4 := SCa.out.leaf.lt; have n5 := SCa.out.bel.size
        have r := RS.out _ SCb.out
        clear b
        refine hK.out _ _ r (fun _ => ?_)
        clear hK K
        refine wpAnyH_ready (rs := [5]) (by kernel_rfl) (by simp) ?_
        refine AllReadyH.cons rfl (fun K hK => ?_) AllReadyH.nil
        go_simp
        refine (message_t I (piece xs 0) ys q A ma ca _ HI.out HIB.out PC0.out.1 PC0.out.2 hq HY.out (HA.out.below SCb.out.bel) HYB.out HCA.out hma (HK.out.below SCb.out.bel HG.out)).mono ?_
        rintro e wc ⟨rfl, b⟩
        rw [HQQ.out]
        have SCc := Lib.hid (SCb.out.below b)
        have r := RS.out _ SCc.out
        have D0 := Lib.hid (D0.out.below b D0.out.lt)
        clear b
        refine hK.out _ _ r (fun _ => ?_)
        clear hK K
        refine wpAnyH_ready (rs := [6]) (by kernel_rfl) (by simp) ?_
        refine AllReadyH.cons rfl (fun K hK => ?_) AllReadyH.nil
        go_simp
        refine (digits_t i hi Q wc HQ1.out.1 HQ1.out.2).mono ?_
        rintro e wd ⟨rfl, b⟩
        rw [show dv (digN (kd i).w (kd i).ls Q) (kd i).p 265 = digL i Q from rfl, HDD.out]
        have SCd := Lib.hid (SCc.out.below b)
        have r := RS.out _ SCd.out
        have D0 := Lib.hid (D0.out.below b D0.out.lt)
        clear b
        refine hK.out _ _ r (fun _ => ?_)
        clear hK K
        refine wpAnyH_ready (rs := [8]) (by kernel_rfl) (by simp) ?_
        refine AllReadyH.cons rfl (fun K hK => ?_) AllReadyH.nil
        rw [if_pos (by kernel_rfl)]
        refine wstore_part 130 (.tmp 15) (.tmp 44) wa.heap.size 0 130 [] (ints Z) [] (ints D) rfl (by rw [List.nil_append, List.append_nil]; exact D0.out) rfl HZD.out (size265 _ HD1.out) (ints_one _) rfl rfl ?_
        intro wz a1 a2 a3
        have DZ0 := Lib.hid (show Blk wz wa.heap.size 130 (ints D) by have := a1.out; rwa [List.nil_append, List.append_nil] at this)
        have CZ := Lib.hid (show ACap w wz (w.heap.size + 1) (w.heap.size + 1 + 1) gk gl I q i P m c from ⟨SCd.out.sig.but a2.out SCd.out.sig.lt (by omega), SCd.out.res.but a2.out SCd.out.res.lt (by omega), SCd.out.kind.but a2.out SCd.out.kind.lt (by omega), SCd.out.leaf.but a2.out SCd.out.leaf.lt (by omega), SCd.out.bel.trans (a2.out.below (by omega) SCd.out.bel.size)⟩)
        refine hK.out _ _ (RS.out _ CZ.out) (fun _ => ?_)
        clear hK K
        refine wpAnyH_done (by kernel_rfl) ?_ _
        go_simp
        go_wp2_with fail
        go_meet
        exact ⟨wa.heap.size, rfl, DZ0.out, CZ.out⟩
    · skip
      go_simp
      have b := (Below.refl (W4.drew).heap.size W4.drew).alloc (Nat.le_refl _) (.cells (ints Z).toArray 130)
      have SCa := Lib.hid (SC0.out.below b)
      have D0 := Lib.hid (Blk.new W4.drew 130 (ints Z))
      have n1 := SC0.out.sig.lt; have n2 := SC0.out.res.lt; have n3 := SC0.out.kind.lt; have n4 := SC0.out.leaf.lt; have n5 := SC0.out.bel.size
      have r := RS.out _ SCa.out
      clear b
      refine hK.out _ _ r (fun _ => ?_)
      clear hK K
      refine wpAnyH_ready (rs := [3]) (by kernel_rfl) (by simp) ?_
      refine AllReadyH.cons rfl (fun K hK => ?_) AllReadyH.nil
      go_simp
      refine (hashAt_t xs P m c 0 _ HX.out (HP.out.below SCa.out.bel) HC.out (by decide) (by omega)).mono ?_
      rintro e wb ⟨rfl, b⟩
      have SCb := Lib.hid (SCa.out.below b)
      have r := RS.out _ SCb.out
      have D0 := Lib.hid (D0.out.below b D0.out.lt)
      clear b
      refine hK.out _ _ r (fun _ => ?_)
      clear hK K
      refine wpAnyH_ready (rs := [5]) (by kernel_rfl) (by simp) ?_
      refine AllReadyH.cons rfl (fun K hK => ?_) AllReadyH.nil
      go_simp
      refine (message_t I (piece xs 0) ys q A ma ca wb HI.out HIB.out PC0.out.1 PC0.out.2 hq HY.out (HA.out.below SCb.out.bel) HYB.out HCA.out hma (HK.out.below SCb.out.bel HG.out)).mono ?_
      rintro e wc ⟨rfl, b⟩
      rw [HQQ.out]
      have SCc := Lib.hid (SCb.out.below b)
      have r := RS.out _ SCc.out
      have D0 := Lib.hid (D0.out.below b D0.out.lt)
      clear b
      refine hK.out _ _ r (fun _ => ?_)
      clear hK K
      refine wpAnyH_ready (rs := [6]) (by kernel_rfl) (by simp) ?_
      refine AllReadyH.cons rfl (fun K hK => ?_) AllReadyH.nil
      go_simp
      refine (digits_t i hi Q wc HQ1.out.1 HQ1.out.2).mono ?_
      rintro e wd ⟨rfl, b⟩
      rw [show dv (digN (kd i).w (kd i).ls Q) (kd i).p 265 = digL i Q from rfl, HDD.out]
      have SCd := Lib.hid (SCc.out.below b)
      have r := RS.out _ SCd.out
      have D0 := Lib.hid (D0.out.below b D0.out.lt)
      clear b
      refine hK.out _ _ r (fun _ => ?_)
      clear hK K
      refine wpAnyH_ready (rs := [8]) (by kernel_rfl) (by simp) ?_
      refine AllReadyH.cons rfl (fun K hK => ?_) AllReadyH.nil
      rw [if_pos (by kernel_rfl)]
      refine wstore_part 130 (.tmp 15) (.tmp 44) W4.drew.heap.size 0 130 [] (ints Z) [] (ints D) rfl (by rw [List.nil_append, List.append_nil]; exact D0.out) rfl HZD.out (size265 _ HD1.out) (ints_one _) rfl rfl ?_
      intro wz a1 a2 a3
      have DZ0 := Lib.hid (show Blk wz W4.drew.heap.size 130 (ints D) by have := a1.out; rwa [List.nil_append, List.append_nil] at this)
      have CZ := Lib.hid (show ACap w wz (w.heap.size + 1) (w.heap.size + 1 + 1) gk gl I q i P m c from ⟨SCd.out.sig.but a2.out SCd.out.sig.lt (by omega), SCd.out.res.but a2.out SCd.out.res.lt (by omega), SCd.out.kind.but a2.out SCd.out.kind.lt (by omega), SCd.out.leaf.but a2.out SCd.out.leaf.lt (by omega), SCd.out.bel.trans (a2.out.below (by omega) SCd.out.bel.size)⟩)
      refine hK.out _ _ (RS.out _ CZ.out) (fun _ => ?_)
      clear hK K
      refine wpAnyH_done (by kernel_rfl) ?_ _
      go_simp
      go_wp2_with fail
      go_meet
      exact ⟨W4.drew.heap.size, rfl, DZ0.out, CZ.out⟩
  case rest =>
    obtain ⟨gd, rfl, hd, sc⟩ := hcut
    have SC1 := Lib.hid sc; have D1 := Lib.hid hd
    clear hd sc SC HQ1
    go_wp2_with ((with_reducible refine load_blk 128 (.tmp 14) gl 128 (lf I q) _ rfl rfl ?_ Tryz.underlying128 ?_ ?_ ?_ ?_); exact SC1.out.leaf; exact rfl; exact lf_size _ _ HI.out; exact rfl)
    refine (walker_t I q _ HI.out hq).mono ?_
    rintro e w5 ⟨gB, rfl, bg, hgB, b5⟩
    have SC2 := Lib.hid (SC1.out.below b5); have D2 := Lib.hid (D1.out.below b5 D1.out.lt); have GB2 := Lib.hid bg
    clear bg b5 SC1 D1 hgB
    have hmf : ∀ (fn : Fn) (first cap : Array Value) (w : World), (Instr.makeFunc fn first cap).run Tryz.prog w = .ok (.func fn first cap) w := fun _ _ _ _ => rfl
    go_upto_region 9 with (fail)
    have b6 := (Below.refl w5.heap.size w5).alloc (Nat.le_refl _) (.cells #[.func (.func 99) #[] #[.pointer (some ⟨gB, 0, none⟩)]] 133)
    refine world_is (fun V => CCap V w5.heap.size gd gk (w.heap.size + 1) gB I q i D xs P m c ∧ ACap w V (w.heap.size + 1) (w.heap.size + 1 + 1) gk gl I q i P m c)
      ⟨⟨(Blk.new w5 _ [.func (.func 99) #[] #[.pointer (some ⟨gB, 0, none⟩)]]).cell 0, D2.out.alloc _, SC2.out.kind.alloc _, SC2.out.sig.alloc _, GB2.out.alloc _, (HP.out.below SC2.out.bel).below b6, by simp⟩, SC2.out.below b6⟩ ?_
    clear b6
    rintro V6 ⟨pc, ac⟩
    have PC := Lib.hid pc; have AC := Lib.hid ac
    obtain ⟨gf, hgf⟩ : ∃ g, w5.heap.size = g := ⟨_, rfl⟩
    rw [hgf] at PC ⊢
    clear pc ac SC2 D2 GB2 hgf
    go_wp2_with (first
      | ((with_reducible refine load_blk 128 (.tmp 14) gl 128 (lf I q) _ rfl rfl ?_ Tryz.underlying128 ?_ ?_ ?_ ?_); exact AC.out.leaf; exact rfl; exact lf_size _ _ HI.out; exact rfl)
      | ((with_reducible refine load_blk 124 (.tmp 12) gk 124 (kv (kd i)) _ rfl rfl ?_ Tryz.underlying124 ?_ ?_ ?_ ?_); exact AC.out.kind; exact rfl; exact kv_size _; exact rfl))
    have HKV := Lib.hid (HK.out.below AC.out.bel HG.out)
    refine (public_of 108 gf gd gk (w.heap.size + 1) (candE I q i D xs) I q i V6 HI.out HIB.out hq hi (fun j hj => candE_ok I q i D xs j hi HIB.out HXB.out (by have := HX.out; have := HM.out; omega) (HD2.out j hj)) HKV.out (enters_of Tryz.func108 (by kernel_rfl) rfl) (fun X j hX hj => candEnd_t gf gd gk (w.heap.size + 1) gB I q i j D xs P m c X (PC.out.below hX) HI.out HIB.out hi hj HX.out HXB.out HC.out HM.out HD1.out (HD2.out j hj) (HKV.out.below hX HKV.out.lt))).mono ?_
    rintro e w7 ⟨rfl, b7⟩
    have AC7 := Lib.hid (AC.out.below b7)
    clear b7 PC AC HKV
    obtain ⟨E, hE⟩ : ∃ E, pubOf I q (catN (candE I q i D xs) (kd i).p) = E := ⟨_, rfl⟩
    have E1 := Lib.hid (show E.length = 32 by rw [← hE]; rfl)
    rw [hE]
    have HE := Lib.hid (show candN I q i ys xs = E by rw [← hE, ← HDD.out, ← HQQ.out]; rfl)
    clear hE
    have HZE := Lib.hid (show (u8s z32).length = (u8s E).length by rw [u8s_length, u8s_length, E1.out]; rfl)
    go_wp2_with ((with_reducible refine store_blk 24 (.tmp 10) (.tmp 50) (w.heap.size + 1 + 1) 24 (u8s z32) (u8s E) rfl rfl ?_ ?_ ?_ ?_ ?_ ?_ ?_); exact AC7.out.res; exact HZE.out; exact size32 _ E1.out; exact u8s_one _; exact rfl; exact rfl)
    refine ret_blk2 (p := 10) (u := 11) (ty := 24) rfl rfl (w.heap.size + 1 + 1) 24 (u8s E) _ rfl (AC7.out.res.setRow _) Tryz.underlying24 rfl (size32 _ E1.out) (.int .i64 0) rfl ?_
    exact ⟨by rw [HE.out], below_setRow AC7.out.bel (by omega) _⟩
end Go.Proofs.YtigbnjgmdgkgjaaGreatDoor
