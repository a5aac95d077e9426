/-
  PACKAGE ots, THE LEAF: secret, message.
-/
import Derived.Test.YtigbnjgmdgkgjaaGreatDoorOtH
import Derived.Test.YtigbnjgmdgkgjaaGreatDoorDigU
namespace Go.Proofs.YtigbnjgmdgkgjaaGreatDoor
open Go Go.RowKit Sh

/-- A row of the call's own, above g, as Write wants it. -/
theorem Sl.own {w : World} {base : Nat} {e : TypeId} {A : Option Addr} {n c g : Nat} {xs : List Nat} (h : w.ownsRow base e 1 (.slice A n c) n (u8s xs)) (hg : g < base) : Sl w w.heap.size g A xs := fun hx => by
  have hn : xs.length = n := by have := h.1; rw [u8s_length] at this; omega
  obtain ⟨g', cap, hv, hb, hlt⟩ := h.form (by omega)
  injection hv with h1 h2 h3
  subst h1
  refine ⟨g', 0, rfl, hlt, by omega, fun j hj => ?_⟩
  have := h.cells (g := g') rfl j _ (u8s_get xs j hj)
  rw [Addr.add_mid] at this
  exact this
/-- A block's front, another than the Digest's, as Write wants it. -/
theorem Sl.of_blk {w : World} {g g' : Nat} {t : TypeId} {cs rest : List Value} {xs : List Nat} (h : Blk w g' t cs) (hc : cs = u8s xs ++ rest) (hne : g' ≠ g) : Sl w w.heap.size g (some ⟨g', 0, Option.none⟩) xs := fun hx => by
  obtain ⟨b, o, e, h1, h2⟩ := Sr.of_blk h hc hx
  injection e with e
  injection e with e1 e2
  subst e1; subst e2
  exact ⟨_, _, rfl, h1, hne, h2⟩
/-- The sum of a head and what stands behind it. -/
def secN (I seed : List Nat) (q i : Nat) : List Nat := sum (headN I q i ++ [255] ++ seed)
def msgN (I : List Nat) (q : Nat) (c msg : List Nat) : List Nat := sum (headN I q 33153 ++ c ++ msg)
set_option maxRecDepth 100000 in
set_option maxHeartbeats 1000000 in
theorem secret_t (I seed : List Nat) (q i : Nat) (w : World) (hI : I.length = 16) (hIb : Bytes I) (hs : seed.length = 32) (hsb : Bytes seed) (hq : q < 32) (hi : i < 65536) (hk : KAt w) :
    Calls Tryz.prog 71 #[.agg (lf I q).toArray, .int .i64 (i : Int), .agg (u8s seed).toArray] w fun e w' => e = .returned (.agg (u8s (secN I seed q i)).toArray) ∧ Below w.heap.size w w' := by
  have HI := Lib.hid hI; have HIB := Lib.hid hIb; have HS := Lib.hid hs; have HSB := Lib.hid hsb; have HK := Lib.hid hk
  have HG := Lib.hid hk.lt
  clear hI hIb hs hsb hk
  go_enter Tryz.func71, Tryz.ntmps71
  go_wp2_with fail
  refine (new_t _).mono ?_
  rintro e w1 ⟨rfl, hw⟩
  have k : Blk w1 w.heap.size 128 (lf I q) ∧ Blk w1 (w.heap.size + 1) 24 (u8s seed) ∧ Blk w1 (w.heap.size + 1 + 1) 24 (u8s z32) ∧ Dig w1 (w.heap.size + 1 + 1 + 1) [] z0 (List.replicate 64 0) ∧ Below w.heap.size w w1 ∧ w1.heap.size = w.heap.size + 1 + 1 + 1 + 1 := by
    rw [hw]
    exact ⟨((((Blk.new _ _ (lf I q)).alloc _).alloc _).alloc _), (((Blk.new2 _ _ _ (u8s seed)).alloc _).alloc _), (blk_at (by simp) _ _ (u8s z32)).alloc _, Dig.zero (blk_at (by simp) _ _ DZ), ((((Below.refl _ _).alloc (Nat.le_refl _) _).alloc (by simp) _).alloc (by simp; omega) _).alloc (by simp; omega) _, by simp⟩
  obtain ⟨k0, k1, k2, k3, bw, hz⟩ := k
  clear hw
  have K0 := Lib.hid k0; have K1 := Lib.hid k1; have K2 := Lib.hid k2; have K3 := Lib.hid k3; have BW := Lib.hid bw
  have hz2 : w.heap.size + 4 ≤ w1.heap.size := by omega
  clear k0 k1 k2 k3 bw hz
  go_wp2_with ((with_reducible refine load_blk 128 (.tmp 3) w.heap.size 128 (lf I q) _ rfl rfl ?_ Tryz.underlying128 ?_ ?_ ?_ ?_); exact K0.out; exact rfl; exact lf_size _ _ HI.out; exact rfl)
  refine (head_t I q i w1 HI.out hq hi).mono ?_
  rintro e w2 ⟨v, rfl, o2, b2⟩
  obtain ⟨A, n, c, rfl, hn, hc⟩ : ∃ A n c, v = .slice A n c ∧ n = 22 ∧ n ≤ c := by
    obtain ⟨A, c, e, h⟩ := own_form o2
    exact ⟨A, _, c, e, headN_length I q i HI.out, h⟩
  subst hn
  rw [headN_length I q i HI.out] at o2
  have O2 := Lib.hid o2; have M0 := Lib.hid (K1.out.below b2 K1.out.lt); have M2 := Lib.hid (K2.out.below b2 K2.out.lt); have M3 := Lib.hid (K3.out.below b2 K3.out.blk.lt); have B2 := Lib.hid (BW.out.trans (b2.mono BW.out.size))
  have s2 : w.heap.size + 4 ≤ w2.heap.size := Nat.le_trans hz2 b2.size
  obtain ⟨g1, hg1⟩ : ∃ g, w.heap.size + 1 = g := ⟨_, rfl⟩
  rw [hg1] at M0 M2 M3 ⊢
  obtain ⟨g2, hg2⟩ : ∃ g, g1 + 1 = g := ⟨_, rfl⟩
  rw [hg2] at M2 M3 ⊢
  obtain ⟨g3, hg3⟩ : ∃ g, g2 + 1 = g := ⟨_, rfl⟩
  rw [hg3] at M3 ⊢
  have l1 : w.heap.size < g1 := by omega
  have l2 : g1 < g2 := by omega
  have l3 : g2 < g3 := by omega
  have l4 : g3 < w1.heap.size := by omega
  clear hg1 hg2 hg3 o2 b2 K0 K1 K2 K3 BW
  go_wp2_with fail
  refine (write_u w.heap.size g3 _ _ [] (headN I q i) A 22 c w2 M3.out (headN_bytes I q i HIB.out) (Sl.own O2.out l4) (headN_length I q i HI.out) hc (by simp) (HK.out.below B2.out HG.out) (by omega) HG.out).mono ?_
  rintro e w3 ⟨rfl, ⟨s3, r3, d3⟩, t3, b3⟩
  rw [List.nil_append] at d3
  have N1 := Lib.hid (M0.out.but t3 M0.out.lt (by omega)); have N2 := Lib.hid (M2.out.but t3 M2.out.lt (by omega)); have N3 := Lib.hid d3; have B3 := Lib.hid (B2.out.trans b3)
  have s3' : g3 < w3.heap.size := d3.blk.lt
  clear d3 t3 b3 M0 M2 M3 O2 B2 s2
  go_wp2_with fail
  have A3 := Lib.hid ((Below.refl w3.heap.size w3).alloc (Nat.le_refl _) (.cells #[.int .u8 255] 5))
  have P1 := Lib.hid (N1.out.below A3.out N1.out.lt); have P2 := Lib.hid (N2.out.below A3.out N2.out.lt); have P3 := Lib.hid (N3.out.below A3.out N3.out.blk.lt); have C3 := Lib.hid (B3.out.trans (A3.out.mono B3.out.size))
  refine (write_u w.heap.size g3 s3 r3 (headN I q i) [255] (some ⟨w3.heap.size, 0, none⟩) 1 1 _ P3.out (sl_bytes (by decide)) (Sl.of_blk (rest := []) (Blk.new w3 5 (u8s [255])) rfl (by omega)) rfl (Nat.le_refl _) (by rw [headN_length I q i HI.out]; decide) (HK.out.below C3.out HG.out) (by omega) HG.out).mono ?_
  rintro e w4 ⟨rfl, ⟨s4, r4, d4⟩, t4, b4⟩
  have O1 := Lib.hid (P1.out.but t4 P1.out.lt (by omega)); have O2 := Lib.hid (P2.out.but t4 P2.out.lt (by omega)); have O3 := Lib.hid d4; have B4 := Lib.hid (C3.out.trans b4)
  clear d4 t4 b4 N1 N2 N3 A3 P1 P2 P3 C3 B3 s3'
  go_wp2_with fail
  refine (write_u w.heap.size g3 s4 r4 (headN I q i ++ [255]) seed (some ⟨g1, 0, none⟩) 32 32 w4 O3.out HSB.out (Sl.of_blk (rest := []) O1.out (by simp) (by omega)) HS.out (Nat.le_refl _) (by simp [headN_length I q i HI.out]) (HK.out.below B4.out HG.out) (by omega) HG.out).mono ?_
  rintro e w5 ⟨rfl, ⟨s5, r5, d5⟩, t5, b5⟩
  have P2 := Lib.hid (O2.out.but t5 O2.out.lt (by omega)); have P3 := Lib.hid d5; have B5 := Lib.hid (B4.out.trans b5)
  clear d5 t5 b5 O1 O2 O3 B4
  go_wp2_with fail
  refine (dsum_t g3 s5 r5 _ w5 P3.out (by simp [headN_length I q i HI.out, HS.out]) (HK.out.below B5.out HG.out)).mono ?_
  rintro e w6 ⟨rfl, b6⟩
  have Q2 := Lib.hid (P2.out.below b6 P2.out.lt); have B6 := Lib.hid (B5.out.trans (b6.mono B5.out.size))
  clear b6 P2 P3 B5
  obtain ⟨S, hS⟩ : ∃ S, sum (headN I q i ++ [255] ++ seed) = S := ⟨_, rfl⟩
  have hSl : S.length = 32 := by rw [← hS]; rfl
  rw [hS]
  have HSL := Lib.hid hSl; have HSS := Lib.hid hS
  have hzl : (u8s z32).length = (u8s S).length := by rw [u8s_length, u8s_length, hSl]; rfl
  have HZL := Lib.hid hzl
  clear hS hSl hzl
  go_wp2_with ((with_reducible refine store_blk 24 (.tmp 6) (.tmp 21) g2 24 (u8s z32) (u8s S) rfl rfl ?_ ?_ ?_ ?_ ?_ ?_ ?_); exact Q2.out; exact HZL.out; exact size32 _ HSL.out; exact u8s_one _; exact rfl; exact rfl)
  exact ret_blk (p := 6) (ty := 24) rfl rfl g2 24 _ _ rfl (Q2.out.setRow _) Tryz.underlying24 rfl (size32 _ HSL.out) ⟨by unfold secN; rw [HSS.out], below_setRow B6.out (by omega) _⟩
set_option maxRecDepth 100000 in
set_option maxHeartbeats 1000000 in
theorem message_t (I seed xs : List Nat) (q : Nat) (p : Option Addr) (m cc : Nat) (w : World) (hI : I.length = 16) (hIb : Bytes I) (hs : seed.length = 32) (hsb : Bytes seed) (hq : q < 32) (hx : xs.length = m) (hp : Sr w p xs) (hxb : Bytes xs) (hcc : m ≤ cc) (hml : m ≤ 70368744177664) (hk : KAt w) :
    Calls Tryz.prog 73 #[.agg (lf I q).toArray, .agg (u8s seed).toArray, .slice p m cc] w fun e w' => e = .returned (.agg (u8s (msgN I q seed xs)).toArray) ∧ Below w.heap.size w w' := by
  have HI := Lib.hid hI; have HIB := Lib.hid hIb; have HS := Lib.hid hs; have HSB := Lib.hid hsb; have HK := Lib.hid hk; have HX := Lib.hid hx; have HP := Lib.hid hp; have HXB := Lib.hid hxb; have HCC := Lib.hid hcc
  have HG := Lib.hid hk.lt
  clear hI hIb hs hsb hk hx hp hxb hcc
  go_enter Tryz.func73, Tryz.ntmps73
  go_wp2_with fail
  refine (new_t _).mono ?_
  rintro e w1 ⟨rfl, hw⟩
  have k : Blk w1 w.heap.size 128 (lf I q) ∧ Blk w1 (w.heap.size + 1) 24 (u8s seed) ∧ Blk w1 (w.heap.size + 1 + 1) 24 (u8s z32) ∧ Dig w1 (w.heap.size + 1 + 1 + 1) [] z0 (List.replicate 64 0) ∧ Below w.heap.size w w1 ∧ w1.heap.size = w.heap.size + 1 + 1 + 1 + 1 := by
    rw [hw]
    exact ⟨((((Blk.new _ _ (lf I q)).alloc _).alloc _).alloc _), (((Blk.new2 _ _ _ (u8s seed)).alloc _).alloc _), (blk_at (by simp) _ _ (u8s z32)).alloc _, Dig.zero (blk_at (by simp) _ _ DZ), ((((Below.refl _ _).alloc (Nat.le_refl _) _).alloc (by simp) _).alloc (by simp; omega) _).alloc (by simp; omega) _, by simp⟩
  obtain ⟨k0, k1, k2, k3, bw, hz⟩ := k
  clear hw
  have K0 := Lib.hid k0; have K1 := Lib.hid k1; have K2 := Lib.hid k2; have K3 := Lib.hid k3; have BW := Lib.hid bw
  have hz2 : w.heap.size + 4 ≤ w1.heap.size := by omega
  clear k0 k1 k2 k3 bw hz
  go_wp2_with ((with_reducible refine load_blk 128 (.tmp 3) w.heap.size 128 (lf I q) _ rfl rfl ?_ Tryz.underlying128 ?_ ?_ ?_ ?_); exact K0.out; exact rfl; exact lf_size _ _ HI.out; exact rfl)
  refine (head_t I q 33153 w1 HI.out hq (by decide)).mono ?_
  rintro e w2 ⟨v, rfl, o2, b2⟩
  obtain ⟨A, n, c, rfl, hn, hc⟩ : ∃ A n c, v = .slice A n c ∧ n = 22 ∧ n ≤ c := by
    obtain ⟨A, c, e, h⟩ := own_form o2
    exact ⟨A, _, c, e, headN_length I q 33153 HI.out, h⟩
  subst hn
  rw [headN_length I q 33153 HI.out] at o2
  have O2 := Lib.hid o2; have M0 := Lib.hid (K1.out.below b2 K1.out.lt); have M2 := Lib.hid (K2.out.below b2 K2.out.lt); have M3 := Lib.hid (K3.out.below b2 K3.out.blk.lt); have B2 := Lib.hid (BW.out.trans (b2.mono BW.out.size))
  have s2 : w.heap.size + 4 ≤ w2.heap.size := Nat.le_trans hz2 b2.size
  obtain ⟨g1, hg1⟩ : ∃ g, w.heap.size + 1 = g := ⟨_, rfl⟩
  rw [hg1] at M0 M2 M3 ⊢
  obtain ⟨g2, hg2⟩ : ∃ g, g1 + 1 = g := ⟨_, rfl⟩
  rw [hg2] at M2 M3 ⊢
  obtain ⟨g3, hg3⟩ : ∃ g, g2 + 1 = g := ⟨_, rfl⟩
  rw [hg3] at M3 ⊢
  have l1 : w.heap.size < g1 := by omega
  have l2 : g1 < g2 := by omega
  have l3 : g2 < g3 := by omega
  have l4 : g3 < w1.heap.size := by omega
  clear hg1 hg2 hg3 o2 b2 K0 K1 K2 K3 BW
  go_wp2_with fail
  refine (write_u w.heap.size g3 _ _ [] (headN I q 33153) A 22 c w2 M3.out (headN_bytes I q 33153 HIB.out) (Sl.own O2.out l4) (headN_length I q 33153 HI.out) hc (by simp) (HK.out.below B2.out HG.out) (by omega) HG.out).mono ?_
  rintro e w3 ⟨rfl, ⟨s3, r3, d3⟩, t3, b3⟩
  rw [List.nil_append] at d3
  have N1 := Lib.hid (M0.out.but t3 M0.out.lt (by omega)); have N2 := Lib.hid (M2.out.but t3 M2.out.lt (by omega)); have N3 := Lib.hid d3; have B3 := Lib.hid (B2.out.trans b3)
  have s3' : g3 < w3.heap.size := d3.blk.lt
  clear d3 t3 b3 M0 M2 M3 O2 B2 s2
  go_wp2_with fail
  refine (write_u w.heap.size g3 s3 r3 (headN I q 33153) seed (some ⟨g1, 0, none⟩) 32 32 w3 N3.out HSB.out (Sl.of_blk (rest := []) N1.out (by simp) (by omega)) HS.out (Nat.le_refl _) (by simp [headN_length I q 33153 HI.out]) (HK.out.below B3.out HG.out) (by omega) HG.out).mono ?_
  rintro e w4 ⟨rfl, ⟨s4, r4, d4⟩, t4, b4⟩
  have O2 := Lib.hid (N2.out.but t4 N2.out.lt (by omega)); have O3 := Lib.hid d4; have B4 := Lib.hid (B3.out.trans b4)
  clear d4 t4 b4 N1 N2 N3 B3 s3'
  go_wp2_with fail
  refine (write_u w.heap.size g3 s4 r4 (headN I q 33153 ++ seed) xs p m cc w4 O3.out HXB.out (Sl.old HP.out B4.out (by omega)) HX.out HCC.out (by simp [headN_length I q 33153 HI.out, HS.out]; omega) (HK.out.below B4.out HG.out) (by omega) HG.out).mono ?_
  rintro e w5 ⟨rfl, ⟨s5, r5, d5⟩, t5, b5⟩
  have P2 := Lib.hid (O2.out.but t5 O2.out.lt (by omega)); have P3 := Lib.hid d5; have B5 := Lib.hid (B4.out.trans b5)
  clear d5 t5 b5 O2 O3 B4
  go_wp2_with fail
  refine (dsum_t g3 s5 r5 _ w5 P3.out (by simp [headN_length I q 33153 HI.out, HS.out, HX.out]; omega) (HK.out.below B5.out HG.out)).mono ?_
  rintro e w6 ⟨rfl, b6⟩
  have Q2 := Lib.hid (P2.out.below b6 P2.out.lt); have B6 := Lib.hid (B5.out.trans (b6.mono B5.out.size))
  clear b6 P2 P3 B5
  obtain ⟨S, hS⟩ : ∃ S, sum (headN I q 33153 ++ seed ++ xs) = S := ⟨_, rfl⟩
  have hSl : S.length = 32 := by rw [← hS]; rfl
  rw [hS]
  have HSL := Lib.hid hSl; have HSS := Lib.hid hS
  have hzl : (u8s z32).length = (u8s S).length := by rw [u8s_length, u8s_length, hSl]; rfl
  have HZL := Lib.hid hzl
  clear hS hSl hzl
  go_wp2_with ((with_reducible refine store_blk 24 (.tmp 6) (.tmp 20) g2 24 (u8s z32) (u8s S) rfl rfl ?_ ?_ ?_ ?_ ?_ ?_ ?_); exact Q2.out; exact HZL.out; exact size32 _ HSL.out; exact u8s_one _; exact rfl; exact rfl)
  exact ret_blk (p := 6) (ty := 24) rfl rfl g2 24 _ _ rfl (Q2.out.setRow _) Tryz.underlying24 rfl (size32 _ HSL.out) ⟨by unfold msgN; rw [HSS.out], below_setRow B6.out (by omega) _⟩
end Go.Proofs.YtigbnjgmdgkgjaaGreatDoor
