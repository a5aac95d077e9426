/-
  OtsForms walked.
-/
import Derived.Test.YtbffbglbclkadaaDoorOtEq
namespace Go.Proofs.YtbffbglbclkadaaDoor
open Go Go.RowKit Sh

/-- wide: one of the widths 1, 2, 4. -/
theorem widths_t (n : Int) (w : World) : ∃ i, i < 3 ∧ Calls Tryd.prog 20 #[.int .i64 n] w fun e w' => e = .returned (.int .i64 ((kd i).w : Int)) ∧ Below w.heap.size w w' := by
  obtain ⟨k, hk, hke⟩ := mod_of 4 (by decide) (by decide) n
  rw [show ((4 : Nat) : Int) = 4 from rfl] at hke
  have : k = 0 ∨ k = 1 ∨ k = 2 ∨ k = 3 := by omega
  rcases this with rfl | rfl | rfl | rfl
  · refine ⟨0, by decide, ?_⟩
    go_enter Tryd.func20, Tryd.ntmps20
    go_wp2
    go_ret
    exact ⟨rfl, (Below.refl _ _).alloc (Nat.le_refl _) _⟩
  · refine ⟨1, by decide, ?_⟩
    go_enter Tryd.func20, Tryd.ntmps20
    go_wp2
    go_ret
    exact ⟨rfl, (Below.refl _ _).alloc (Nat.le_refl _) _⟩
  · refine ⟨2, by decide, ?_⟩
    go_enter Tryd.func20, Tryd.ntmps20
    go_wp2
    go_ret
    exact ⟨rfl, (Below.refl _ _).alloc (Nat.le_refl _) _⟩
  · refine ⟨1, by decide, ?_⟩
    go_enter Tryd.func20, Tryd.ntmps20
    go_wp2
    go_ret
    exact ⟨rfl, (Below.refl _ _).alloc (Nat.le_refl _) _⟩
theorem val_head (xs : List Nat) (c : Nat) (h : xs.take 4 = beN c 4) (hc : c < 256) : xs.take 4 = [0, 0, 0, c] := by
  rw [h]
  have : c / 256 = 0 := by omega
  simp [beN, List.range_succ]
  omega
set_option maxRecDepth 100000 in
set_option maxHeartbeats 4000000 in
theorem forms_t (I seed xs ys : List Nat) (q n : Int) (P R : Option Addr) (m cc m2 c2 : Nat) (w : World) (hI : I.length = 16) (hIb : Bytes I) (hs : seed.length = 32) (hsb : Bytes seed) (hx : xs.length = m) (hp : Sr w P xs) (hxb : Bytes xs) (hcc : m ≤ cc) (hml : m ≤ 9223372036854775807) (hy : ys.length = m2) (hr : Sr w R ys) (hyb : Bytes ys) (hc2 : m2 ≤ c2) (hml2 : m2 ≤ 9223372036854775807) (hk : KAt w) (hki : KI w) :
    Calls Tryd.prog 9 #[.agg (u8s (I ++ seed)).toArray, .int .i64 q, .int .i64 n, .slice P m cc, .slice R m2 c2] w fun e w' => e = .returned (.bool true) ∧ Below w.heap.size w w' := by
  have HI := Lib.hid hI; have HIB := Lib.hid hIb; have HS := Lib.hid hs; have HSB := Lib.hid hsb; have HX := Lib.hid hx; have HP := Lib.hid hp; have HXB := Lib.hid hxb; have HCC := Lib.hid hcc
  have HY := Lib.hid hy; have HR := Lib.hid hr; have HYB := Lib.hid hyb; have HC2 := Lib.hid hc2
  have B0 := Lib.hid ((Below.refl w.heap.size w).alloc (Nat.le_refl _) (.cells (u8s (I ++ seed)).toArray 26))
  have KI0 := Lib.hid (hki.kept B0.out); have KA0 := Lib.hid (hk.below B0.out hk.lt)
  have C0 := Lib.hid (show LCap w (w.alloc (.cells (u8s (I ++ seed)).toArray 26)) w.heap.size I seed from ⟨Blk.new w _ _, B0.out⟩)
  clear hI hIb hs hsb hx hp hxb hcc hk hki hy hr hyb hc2
  by_cases hbig : 50 < m ∨ 50 < m2
  · by_cases h1 : 50 < m
    · clear hbig
      go_enter Tryd.func9, Tryd.ntmps9
      go_wp2_with fail
      refine (told_t _ KI0.out).mono ?_
      rintro e w2 ⟨rfl, b2⟩
      go_wp2_with fail
      go_ret
      exact ⟨rfl, B0.out.trans (b2.mono B0.out.size)⟩
    · have h2 : 50 < m2 := by omega
      have h3 : m ≤ 50 := by omega
      clear hbig h1
      go_enter Tryd.func9, Tryd.ntmps9
      go_wp2_with fail
      refine (told_t _ KI0.out).mono ?_
      rintro e w2 ⟨rfl, b2⟩
      go_wp2_with fail
      go_ret
      exact ⟨rfl, B0.out.trans (b2.mono B0.out.size)⟩
  · have m1 : (m : Int) ≤ 50 := by omega
    have m21 : (m2 : Int) ≤ 50 := by omega
    have hS48 := Lib.hid (show (I ++ seed).length = 48 by rw [List.length_append, HI.out, HS.out])
    obtain ⟨k, hk32, hke⟩ := mod_of 32 (by decide) (by decide) q
    rw [show ((32 : Nat) : Int) = 32 from rfl] at hke
    obtain ⟨i, hi3, hw⟩ := widths_t n (w.alloc (.cells (u8s (I ++ seed)).toArray 26))
    have hi : i < 4 := by omega
    have HW := Lib.hid hw
    clear hbig hw
    go_enter Tryd.func9, Tryd.ntmps9
    go_wp2_with fail
    refine HW.out.mono ?_
    rintro e w0 ⟨rfl, b0⟩
    have C0' := Lib.hid (C0.out.below b0); have KI0' := Lib.hid (KI0.out.kept b0); have KA0' := Lib.hid (KA0.out.below b0 KA0.out.lt)
    clear b0 C0 KI0 KA0 B0 HW
    have v5 : (kd i).w < 5 := by
      have : i = 0 ∨ i = 1 ∨ i = 2 := by omega
      rcases this with rfl | rfl | rfl <;> decide
    have co4 : (kd i).code < 4 := by
      have : i = 0 ∨ i = 1 ∨ i = 2 := by omega
      rcases this with rfl | rfl | rfl <;> decide
    have hcd : [Value.int .i64 0, .int .i64 1, .int .i64 2, .int .i64 0, .int .i64 3][(kd i).w]? = some (.int .i64 ((kd i).code : Int)) := by
      have : i = 0 ∨ i = 1 ∨ i = 2 := by omega
      rcases this with rfl | rfl | rfl <;> rfl
    have hp265 := kd_p i hi
    have SC1 := Lib.hid (sig_code I seed k i xs hi)
    have CH := Lib.hid (fun W hW => chains_of i hi W hW)
    have SG := Lib.hid (fun (zs : List Nat) (Z : Option Addr) (z cz : Nat) (W : World) (hz : zs.length = z) (hZ : Sr W Z zs) (hzb : Bytes zs) (hcz : z ≤ cz) (hzl : z ≤ 50) (h1 : KAt W) (h2 : KI W) => sign_t I seed zs k i ((kd i).w : Int) Z z cz W rfl HI.out HIB.out HS.out HSB.out hk32 hi hz hZ hzb hcz (by omega) h1 h2)
    have CN := Lib.hid (fun (zs : List Nat) (Z Y : Option Addr) (z cz y cy : Nat) (W : World) (hz : zs.length = z) (hZ : Sr W Z zs) (hzb : Bytes zs) (hcz : z ≤ cz) (hzl : z ≤ 100000) (hno : z ≠ 36 + 32 * (kd i).p) (h2 : KI W) => cand_sig I zs k i ((kd i).w : Int) Y Z y cy z cz W rfl HI.out hk32 hi hz hZ hzb hcz (by omega) (.inl hno) h2)
    have SL := Lib.hid (fun zs => sigN_length I seed k i zs)
    have SB := Lib.hid (fun zs => sigN_bytes I seed k i zs hi HIB.out HSB.out)
    have T4 := Lib.hid (fun zs => show (sigN I seed k i zs).take 4 = beN (kd i).code 4 by unfold sigN; rw [List.append_assoc]; exact List.take_left' (beN_length _ _))
    have T36 := Lib.hid (fun zs => show (sigN I seed k i zs).take 36 = beN (kd i).code 4 ++ sigC I seed k by unfold sigN; exact List.take_left' (by rw [List.length_append, beN_length]; rfl))
    obtain ⟨v, hv⟩ : ∃ v, (kd i).w = v := ⟨_, rfl⟩
    obtain ⟨p, hpp⟩ : ∃ p, (kd i).p = p := ⟨_, rfl⟩
    obtain ⟨co, hco⟩ : ∃ c, (kd i).code = c := ⟨_, rfl⟩
    rw [hv] at v5 hcd SG CN CH ⊢
    rw [hpp] at hp265 CH CN SL
    rw [hco] at co4 hcd SC1 T4 T36
    have HCD := Lib.hid hcd
    clear hv hpp hco hcd
    go_wp2_with ((with_reducible refine load_blk 26 (.tmp 5) w.heap.size 26 (u8s (I ++ seed)) _ rfl rfl ?_ Tryd.underlying26 ?_ ?_ ?_ ?_); exact C0'.out.sec; exact rfl; exact size48 _ hS48.out; exact rfl)
    clear hke
    refine (SG.out xs P m cc _ HX.out (HP.out.below C0'.out.bel) HXB.out HCC.out (by omega) KA0'.out KI0'.out).mono ?_
    rintro e w1 ⟨u, rfl, f1⟩
    obtain ⟨A, ca, rfl, hca, sr1, b1⟩ := fresh_open f1
    rw [SL.out] at hca ⊢
    have C1 := Lib.hid (C0'.out.below b1); have KI1 := Lib.hid (KI0'.out.kept b1); have KA1 := Lib.hid (KA0'.out.below b1 KA0'.out.lt); have SR1 := Lib.hid sr1; have HCA := Lib.hid hca
    clear f1 hca sr1 b1 C0' KI0' KA0'
    go_wp2_with ((with_reducible refine load_blk 26 (.tmp 5) w.heap.size 26 (u8s (I ++ seed)) _ rfl rfl ?_ Tryd.underlying26 ?_ ?_ ?_ ?_); exact C1.out.sec; exact rfl; exact size48 _ hS48.out; exact rfl)
    refine (SG.out ys R m2 c2 _ HY.out (HR.out.below C1.out.bel) HYB.out HC2.out (by omega) KA1.out KI1.out).mono ?_
    rintro e w2 ⟨u, rfl, f2⟩
    obtain ⟨B, cb, rfl, hcb, sr2, b2⟩ := fresh_open f2
    rw [SL.out] at hcb ⊢
    have C2 := Lib.hid (C1.out.below b2); have KI2 := Lib.hid (KI1.out.kept b2); have SRA := Lib.hid (SR1.out.below b2); have SRB := Lib.hid sr2; have HCB := Lib.hid hcb
    clear f2 hcb sr2 b2 C1 KI1 KA1 SR1
    go_wp2_with fail
    refine (CH.out _ KI2.out).mono ?_
    rintro e w3 ⟨rfl, b3⟩
    have C3 := Lib.hid (C2.out.below b3); have KI3 := Lib.hid (KI2.out.kept b3); have SRA3 := Lib.hid (SRA.out.below b3); have SRB3 := Lib.hid (SRB.out.below b3)
    clear b3 C2 KI2 SRA SRB
    obtain ⟨N, hN⟩ : ∃ N, 36 + 32 * p = N := ⟨_, rfl⟩
    have n1 : (36 : Int) + 32 * (p : Int) = (N : Int) := by omega
    have n2 : (N : Int) ≤ 9000 := by omega
    have n3 : (36 : Int) ≤ (N : Int) := by omega
    go_upto_region 9 with (fail)
    have ce : ∀ h : v < 5, ([Value.int .i64 0, .int .i64 1, .int .i64 2, .int .i64 0, .int .i64 3] : List Value)[v]'h = .int .i64 (co : Int) := fun h => by
      have := HCD.out
      rw [List.getElem?_eq_getElem h] at this
      exact Option.some.inj this
    go_upto_region 10 with (fail)
    clear ce
    obtain ⟨M, hM⟩ : ∃ M, N = M + 1 := ⟨N - 1, by omega⟩
    have mw : IntKind.i64.wrap ((N : Int) - 1) = (M : Int) := by rw [show (N : Int) - 1 = (M : Int) from by omega]; exact IntWalk.i64_in _ (by omega)
    have mw2 : IntKind.i64.wrap (M : Int) = (M : Int) := IntWalk.i64_in _ (by omega)
    have mca : (M : Int) ≤ (ca : Int) := by have := HCA.out; omega
    have m0 : (0 : Int) ≤ (M : Int) := by omega
    have SXL := Lib.hid (show (sigN I seed k i xs).length = N by rw [SL.out, hN])
    have SYL := Lib.hid (show (sigN I seed k i ys).length = N by rw [SL.out, hN])
    rw [hN] at HCA HCB
    have HZL := Lib.hid (show ((sigN I seed k i xs).take M).length = M by rw [List.length_take, SXL.out]; omega)
    have HNO := Lib.hid (show M ≠ 36 + 32 * p by omega)
    have HSX := Lib.hid (SB.out xs)
    have HMC := Lib.hid (show M ≤ ca by have := HCA.out; omega)
    have HM9 := Lib.hid (show M ≤ 100000 by omega)
    have c4 : (4 : Int) ≤ (ca : Int) := by omega
    have c36 : (36 : Int) ≤ (ca : Int) := by have := HCA.out; omega
    have c36b : (36 : Int) ≤ (cb : Int) := by have := HCB.out; omega
    clear hM
    have bx : Below w3.heap.size w3 ((w3.alloc (.cells #[.int .i64 0, .int .i64 1, .int .i64 2, .int .i64 0, .int .i64 3] 3)).alloc (.cells #[.int .u8 0, .int .u8 0, .int .u8 0, .int .u8 (co : Int)] 5)) :=
      Below.alloc (Below.alloc (Below.refl _ _) (Nat.le_refl _) _) (Below.alloc (Below.refl _ _) (Nat.le_refl _) _).size _
    have sz : (w3.alloc (.cells #[.int .i64 0, .int .i64 1, .int .i64 2, .int .i64 0, .int .i64 3] 3)).heap.size = w3.heap.size + 1 := Array.size_push _
    have sc0 := Sr.made [0, 0, 0, co] (w3.alloc (.cells #[.int .i64 0, .int .i64 1, .int .i64 2, .int .i64 0, .int .i64 3] 3)) 5 (0, 0)
    rw [sz] at sc0
    refine world_is (fun W => LCap w W w.heap.size I seed ∧ KI W ∧ Sr W A (sigN I seed k i xs) ∧ Sr W B (sigN I seed k i ys) ∧ Sr W (some ⟨w3.heap.size + 1, 0, none⟩) [0, 0, 0, co])
      ⟨C3.out.below bx, KI3.out.kept bx, SRA3.out.below bx, SRB3.out.below bx, sc0⟩ ?_
    rintro W4 ⟨cc4, k4, sa4, sb4, sc4⟩
    have C4 := Lib.hid cc4; have KI4 := Lib.hid k4; have SA4 := Lib.hid sa4; have SB4 := Lib.hid sb4; have SC4 := Lib.hid sc4
    obtain ⟨gc, hgc⟩ : ∃ g, w3.heap.size + 1 = g := ⟨_, rfl⟩
    rw [hgc] at SC4 ⊢
    clear cc4 k4 sa4 sb4 sc4 bx hgc sz sc0 C3 KI3 SRA3 SRB3
    have RS := Lib.hid (fun X (h : Below W4.heap.size W4 X) => show X.rangeAt w.heap.size 0 (u8s I) from fun j v hv => range_of_blk (C4.out.sec.below h C4.out.sec.lt) j v (by rw [u8s_app, List.getElem?_append_left (List.getElem?_eq_some_iff.1 hv).1]; exact hv))
    go_cut [19, 20] (fun s19 s20 wx => ∃ g : Nat, s19 = .pointer (some ⟨g, 0, none⟩) ∧ s20 = .int .i64 3 ∧ Blk wx g 24 (u8s z32) ∧ Below W4.heap.size W4 wx)
    case first =>
      have SC0 := Lib.hid (show Below W4.heap.size W4 W4.drew from (Below.refl _ _).drew)
      have r1 := RS.out _ SC0.out
      refine wp_region_held (S := fun X => X.rangeAt w.heap.size 0 (u8s I)) (by kernel_rfl) ?_
      change wpAnyH _ _ _ _ _ _ _ _ W4.drew
      refine wpAnyH_take (i := 0) (v := ?_) rfl (by kernel_rfl) (by kernel_rfl) (by kernel_rfl) (fun _ _ _ h => h) (Or.inl ⟨by kernel_rfl, ?_⟩) r1 ?_
      rotate_left 1
      · (intro w hS; clear hS; go_simp; try (with_reducible rfl))
      refine wpAnyH_take (i := 1) (v := .agg (u8s I).toArray) rfl (by kernel_rfl) (by kernel_rfl) (by kernel_rfl) (fun _ _ _ h => h) (yieldsIf_load_mid (by kernel_rfl) 22 (.tmp 81) rfl w.heap.size 0 (by go_simp) (u8s I) _ (fun _ h => h) Tryd.underlying22 rfl (size16 _ HI.out)) r1 ?_
      refine wpAnyH_take (i := 2) (v := ?_) rfl (by kernel_rfl) (by kernel_rfl) (by kernel_rfl) (fun _ _ _ h => h) (Or.inl ⟨by kernel_rfl, ?_⟩) r1 ?_
      rotate_left 1
      · (intro w hS; clear hS; go_simp; try (with_reducible rfl))
      refine wpAnyH_take (i := 3) (v := ?_) rfl (by kernel_rfl) (by kernel_rfl) (by kernel_rfl) (fun _ _ _ h => h) (Or.inl ⟨by kernel_rfl, ?_⟩) r1 ?_
      rotate_left 1
      · (intro w hS; clear hS; go_simp; try (with_reducible rfl))
      refine wpAnyH_take (i := 4) (v := ?_) rfl (by kernel_rfl) (by kernel_rfl) (by kernel_rfl) (fun _ _ _ h => h) (Or.inl ⟨by kernel_rfl, ?_⟩) r1 ?_
      rotate_left 1
      · (intro w hS; clear hS; go_simp; try (with_reducible rfl))
      refine wpAnyH_take (i := 5) (v := ?_) rfl (by kernel_rfl) (by kernel_rfl) (by kernel_rfl) (fun _ _ _ h => h) (Or.inl ⟨by kernel_rfl, ?_⟩) r1 ?_
      rotate_left 1
      · (intro w hS; clear hS; go_simp; try (with_reducible rfl))
      refine wpAnyH_take (i := 6) (v := ?_) rfl (by kernel_rfl) (by kernel_rfl) (by kernel_rfl) (fun _ _ _ h => h) (Or.inl ⟨by kernel_rfl, ?_⟩) r1 ?_
      rotate_left 1
      · (intro w hS; clear hS; go_simp; try (with_reducible rfl))
      refine wpAnyH_take (i := 7) (v := ?_) rfl (by kernel_rfl) (by kernel_rfl) (by kernel_rfl) (fun _ _ _ h => h) (Or.inl ⟨by kernel_rfl, ?_⟩) r1 ?_
      rotate_left 1
      · (intro w hS; clear hS; go_simp; try (with_reducible rfl))
      refine wpAnyH_take (i := 8) (v := ?_) rfl (by kernel_rfl) (by kernel_rfl) (by kernel_rfl) (fun _ _ _ h => h) (Or.inl ⟨by kernel_rfl, ?_⟩) r1 ?_
      rotate_left 1
      · (intro w hS; clear hS; go_simp; try (with_reducible rfl))
      clear r1
      refine wpAnyH_ready (rs := [9, 13]) (by kernel_rfl) (by simp) ?_
      refine AllReadyH.cons rfl (fun K hK => ?_) (AllReadyH.cons rfl (fun K hK => ?_) AllReadyH.nil)
      · skip
        go_simp
        refine (CN.out ((sigN I seed k i xs).take M) A P M ca m cc W4.drew HZL.out ((SA4.out.below SC0.out).take M) (bytes_take HSX.out M) HMC.out HM9.out HNO.out (KI4.out.kept SC0.out)).mono ?_
        rintro e wa ⟨rfl, b⟩
        have SCa := Lib.hid (SC0.out.trans (b.mono SC0.out.size))
        have r := RS.out _ SCa.out
        skip
        clear b
        refine hK.out _ _ r (fun _ => ?_)
        clear hK K
        refine wpAnyH_take (i := 10) (v := ?_) rfl (by kernel_rfl) (by kernel_rfl) (by kernel_rfl) (fun _ _ _ h => h) (Or.inl ⟨by kernel_rfl, ?_⟩) r ?_
        rotate_left 1
        · (intro w hS; clear hS; go_simp; try (with_reducible rfl))
        refine wpAnyH_take (i := 11) (v := ?_) rfl (by kernel_rfl) (by kernel_rfl) (by kernel_rfl) (fun _ _ _ h => h) (Or.inl ⟨by kernel_rfl, ?_⟩) r ?_
        rotate_left 1
        · (intro w hS; clear hS; go_simp; try (with_reducible rfl))
        refine wpAnyH_take (i := 12) (v := ?_) rfl (by kernel_rfl) (by kernel_rfl) (by kernel_rfl) (fun _ _ _ h => h) (Or.inl ⟨by kernel_rfl, ?_⟩) r ?_
        rotate_left 1
        · (intro w hS; clear hS; go_simp; try (with_reducible rfl))
        refine wpAnyH_ready (rs := [13]) (by kernel_rfl) (by simp) ?_
        refine AllReadyH.cons rfl (fun K hK => ?_) AllReadyH.nil
        go_simp
        have b := (Below.refl (wa).heap.size wa).alloc (Nat.le_refl _) (.cells (u8s z32).toArray 24)
        have SCb := Lib.hid (SCa.out.trans (b.mono SCa.out.size))
        have D0 := Lib.hid (Blk.new wa 24 (u8s z32))
        have ds := SCa.out.size
        have r := RS.out _ SCb.out
        clear b
        refine hK.out _ _ r (fun _ => ?_)
        clear hK K
        refine wpAnyH_ready (rs := [14]) (by kernel_rfl) (by simp) ?_
        refine AllReadyH.cons rfl (fun K hK => ?_) AllReadyH.nil
        rw [if_pos (by kernel_rfl)]
        refine wstore_part 24 (.tmp 19) (.tmp 91) wa.heap.size 0 24 [] (u8s z32) [] (u8s z32) rfl (by rw [List.nil_append, List.append_nil]; exact D0.out) rfl rfl z32_size (u8s_one _) rfl rfl ?_
        intro wz a1 a2 a3
        have DZ0 := Lib.hid (show Blk wz wa.heap.size 24 (u8s z32) by have := a1.out; rwa [List.nil_append, List.append_nil] at this)
        have CZ := Lib.hid (show Below W4.heap.size W4 wz from SCb.out.trans (a2.out.below ds SCb.out.size))
        refine hK.out _ _ (RS.out _ CZ.out) (fun _ => ?_)
        clear hK K
        refine wpAnyH_ready (rs := [15]) (by kernel_rfl) (by simp) ?_
        refine AllReadyH.cons rfl (fun K hK => ?_) AllReadyH.nil
        go_simp
        refine hK.out _ _ (RS.out _ CZ.out) (fun _ => ?_)
        clear hK K
        refine wpAnyH_done (by kernel_rfl) ?_ _
        go_simp
        go_wp2_with fail
        go_meet
        exact ⟨wa.heap.size, rfl, rfl, DZ0.out, CZ.out⟩
      · skip
        go_simp
        have b := (Below.refl (W4.drew).heap.size W4.drew).alloc (Nat.le_refl _) (.cells (u8s z32).toArray 24)
        have SCa := Lib.hid (SC0.out.trans (b.mono SC0.out.size))
        have D0 := Lib.hid (Blk.new W4.drew 24 (u8s z32))
        have ds := SC0.out.size
        have r := RS.out _ SCa.out
        clear b
        refine hK.out _ _ r (fun _ => ?_)
        clear hK K
        refine wpAnyH_ready (rs := [9]) (by kernel_rfl) (by simp) ?_
        refine AllReadyH.cons rfl (fun K hK => ?_) AllReadyH.nil
        go_simp
        refine (CN.out ((sigN I seed k i xs).take M) A P M ca m cc _ HZL.out ((SA4.out.below SCa.out).take M) (bytes_take HSX.out M) HMC.out HM9.out HNO.out (KI4.out.kept SCa.out)).mono ?_
        rintro e wb ⟨rfl, b⟩
        have SCb := Lib.hid (SCa.out.trans (b.mono SCa.out.size))
        have r := RS.out _ SCb.out
        have D0 := Lib.hid (D0.out.below b D0.out.lt)
        clear b
        refine hK.out _ _ r (fun _ => ?_)
        clear hK K
        refine wpAnyH_take (i := 10) (v := ?_) rfl (by kernel_rfl) (by kernel_rfl) (by kernel_rfl) (fun _ _ _ h => h) (Or.inl ⟨by kernel_rfl, ?_⟩) r ?_
        rotate_left 1
        · (intro w hS; clear hS; go_simp; try (with_reducible rfl))
        refine wpAnyH_take (i := 11) (v := ?_) rfl (by kernel_rfl) (by kernel_rfl) (by kernel_rfl) (fun _ _ _ h => h) (Or.inl ⟨by kernel_rfl, ?_⟩) r ?_
        rotate_left 1
        · (intro w hS; clear hS; go_simp; try (with_reducible rfl))
        refine wpAnyH_take (i := 12) (v := ?_) rfl (by kernel_rfl) (by kernel_rfl) (by kernel_rfl) (fun _ _ _ h => h) (Or.inl ⟨by kernel_rfl, ?_⟩) r ?_
        rotate_left 1
        · (intro w hS; clear hS; go_simp; try (with_reducible rfl))
        refine wpAnyH_ready (rs := [14]) (by kernel_rfl) (by simp) ?_
        refine AllReadyH.cons rfl (fun K hK => ?_) AllReadyH.nil
        rw [if_pos (by kernel_rfl)]
        refine wstore_part 24 (.tmp 19) (.tmp 91) W4.drew.heap.size 0 24 [] (u8s z32) [] (u8s z32) rfl (by rw [List.nil_append, List.append_nil]; exact D0.out) rfl rfl z32_size (u8s_one _) rfl rfl ?_
        intro wz a1 a2 a3
        have DZ0 := Lib.hid (show Blk wz W4.drew.heap.size 24 (u8s z32) by have := a1.out; rwa [List.nil_append, List.append_nil] at this)
        have CZ := Lib.hid (show Below W4.heap.size W4 wz from SCb.out.trans (a2.out.below ds SCb.out.size))
        refine hK.out _ _ (RS.out _ CZ.out) (fun _ => ?_)
        clear hK K
        refine wpAnyH_ready (rs := [15]) (by kernel_rfl) (by simp) ?_
        refine AllReadyH.cons rfl (fun K hK => ?_) AllReadyH.nil
        go_simp
        refine hK.out _ _ (RS.out _ CZ.out) (fun _ => ?_)
        clear hK K
        refine wpAnyH_done (by kernel_rfl) ?_ _
        go_simp
        go_wp2_with fail
        go_meet
        exact ⟨W4.drew.heap.size, rfl, rfl, DZ0.out, CZ.out⟩
    case rest =>
      obtain ⟨gq, rfl, rfl, hd, sc0⟩ := hcut
      have sc := sc0.trans ((Below.refl wc.heap.size wc).drew.mono sc0.size)
      have D5 := Lib.hid (hd.below (Below.refl wc.heap.size wc).drew hd.lt); have KI5 := Lib.hid (KI4.out.kept sc); have SA5 := Lib.hid (SA4.out.below sc); have SB5 := Lib.hid (SB4.out.below sc); have SC5 := Lib.hid (SC4.out.below sc); have C5 := Lib.hid (C4.out.below sc)
      have RR := Lib.hid (fun (X : World) (h : Blk X gq 24 (u8s z32)) => range_of_blk h)
      clear hd sc sc0 C4 KI4 SA4 SB4 SC4 mw mw2 mca m0 RS
      have HSY := Lib.hid (SB.out ys)
      have E4 := Lib.hid (val_head _ _ (T4.out xs) (by omega))
      have E36 := Lib.hid ((T36.out xs).trans (T36.out ys).symm)
      have HT1 := Lib.hid (show ((sigN I seed k i xs).take 4).length = 4 by rw [List.length_take, SXL.out]; omega)
      have HT2 := Lib.hid (show ((sigN I seed k i xs).take 36).length = 36 by rw [List.length_take, SXL.out]; omega)
      have HT3 := Lib.hid (show ((sigN I seed k i ys).take 36).length = 36 by rw [List.length_take, SYL.out]; omega)
      have HB4 := Lib.hid (show Bytes [0, 0, 0, co] by rw [← E4.out]; exact bytes_take HSX.out 4)
      have he : ∀ W, (binOp .eql 24 (.agg (u8s z32).toArray) (.agg #[.int .u8 0, .int .u8 0, .int .u8 0, .int .u8 0, .int .u8 0, .int .u8 0, .int .u8 0, .int .u8 0, .int .u8 0, .int .u8 0, .int .u8 0, .int .u8 0, .int .u8 0, .int .u8 0, .int .u8 0, .int .u8 0, .int .u8 0, .int .u8 0, .int .u8 0, .int .u8 0, .int .u8 0, .int .u8 0, .int .u8 0, .int .u8 0, .int .u8 0, .int .u8 0, .int .u8 0, .int .u8 0, .int .u8 0, .int .u8 0, .int .u8 0, .int .u8 0])).run Tryd.prog W = .ok (.bool true) W := fun W => eql_same z32 rfl W
      by_cases hxy : xs = ys
      · have HXY := Lib.hid (decide_eq_true hxy)
        have HE := Lib.hid (show sigN I seed k i xs = sigN I seed k i ys by rw [hxy])
        clear hxy
        have r1 := RR.out _ D5.out
        go_upto_region 11 with (fail)
        refine wp_region_held (S := fun X => X.rangeAt gq 0 (u8s z32)) (by kernel_rfl) ?_
        change wpAnyH _ _ _ _ _ _ _ _ wc.drew
        refine wpAnyH_ready (rs := [0]) (by kernel_rfl) (by simp) ?_
        refine AllReadyH.cons rfl (fun K hK => ?_) AllReadyH.nil
        go_simp
        refine (told_t _ KI5.out).mono ?_
        rintro e w6 ⟨rfl, b6⟩
        have D6 := Lib.hid (D5.out.below b6 D5.out.lt); have SA6 := Lib.hid (SA5.out.below b6); have SB6 := Lib.hid (SB5.out.below b6); have SC6 := Lib.hid (SC5.out.below b6); have C6 := Lib.hid (C5.out.below b6)
        have r := RR.out _ D6.out
        clear b6 D5 KI5 SA5 SB5 SC5 r1
        refine hK.out _ _ r (fun _ => ?_)
        clear hK K
        refine wpAnyH_take (i := 1) (v := ?_) rfl (by kernel_rfl) (by kernel_rfl) (by kernel_rfl) (fun _ _ _ h => h) (Or.inl ⟨by kernel_rfl, ?_⟩) r ?_
        rotate_left 1
        · (intro w hS; clear hS; go_simp; try (with_reducible rfl))
        refine wpAnyH_take (i := 2) (v := ?_) rfl (by kernel_rfl) (by kernel_rfl) (by kernel_rfl) (fun _ _ _ h => h) (Or.inl ⟨by kernel_rfl, ?_⟩) r ?_
        rotate_left 1
        · (intro w hS; clear hS; go_simp; try (with_reducible rfl))
        refine wpAnyH_take (i := 3) (v := ?_) rfl (by kernel_rfl) (by kernel_rfl) (by kernel_rfl) (fun _ _ _ h => h) (Or.inl ⟨by kernel_rfl, ?_⟩) r ?_
        rotate_left 1
        · (intro w hS; clear hS; go_simp; try (with_reducible rfl))
        refine wpAnyH_take (i := 4) (v := ?_) rfl (by kernel_rfl) (by kernel_rfl) (by kernel_rfl) (fun _ _ _ h => h) (Or.inl ⟨by kernel_rfl, ?_⟩) r ?_
        rotate_left 1
        · (intro w hS; clear hS; go_simp; try (with_reducible rfl))
        refine wpAnyH_ready (rs := [5]) (by kernel_rfl) (by simp) ?_
        refine AllReadyH.cons rfl (fun K hK => ?_) AllReadyH.nil
        go_simp
        refine (same_texts ((sigN I seed k i xs).take 4) [0, 0, 0, co] A (some ⟨gc, 0, none⟩) 4 4 ca 4 w6 HT1.out rfl (SA6.out.take 4) SC6.out (bytes_take HSX.out 4) HB4.out).mono ?_
        rintro e w' ⟨rfl, rfl⟩
        rw [decide_eq_true E4.out]
        refine hK.out _ _ r (fun _ => ?_)
        clear hK K
        refine wpAnyH_take (i := 6) (v := ?_) rfl (by kernel_rfl) (by kernel_rfl) (by kernel_rfl) (fun _ _ _ h => h) (Or.inl ⟨by kernel_rfl, ?_⟩) r ?_
        rotate_left 1
        · (intro w hS; clear hS; go_simp; try (with_reducible rfl))
        refine wpAnyH_take (i := 7) (v := ?_) rfl (by kernel_rfl) (by kernel_rfl) (by kernel_rfl) (fun _ _ _ h => h) (Or.inl ⟨by kernel_rfl, ?_⟩) r ?_
        rotate_left 1
        · (intro w hS; clear hS; go_simp; try (with_reducible rfl))
        refine wpAnyH_take (i := 8) (v := ?_) rfl (by kernel_rfl) (by kernel_rfl) (by kernel_rfl) (fun _ _ _ h => h) (Or.inl ⟨by kernel_rfl, ?_⟩) r ?_
        rotate_left 1
        · (intro w hS; clear hS; go_simp; try (with_reducible rfl))
        refine wpAnyH_take (i := 9) (v := ?_) rfl (by kernel_rfl) (by kernel_rfl) (by kernel_rfl) (fun _ _ _ h => h) (Or.inl ⟨by kernel_rfl, ?_⟩) r ?_
        rotate_left 1
        · (intro w hS; clear hS; go_simp; try (with_reducible rfl))
        refine wpAnyH_take (i := 10) (v := ?_) rfl (by kernel_rfl) (by kernel_rfl) (by kernel_rfl) (fun _ _ _ h => h) (Or.inl ⟨by kernel_rfl, ?_⟩) r ?_
        rotate_left 1
        · (intro w hS; clear hS; go_simp; try (with_reducible rfl))
        refine wpAnyH_take (i := 11) (v := ?_) rfl (by kernel_rfl) (by kernel_rfl) (by kernel_rfl) (fun _ _ _ h => h) (Or.inl ⟨by kernel_rfl, ?_⟩) r ?_
        rotate_left 1
        · (intro w hS; clear hS; go_simp; try (with_reducible rfl))
        refine wpAnyH_ready (rs := [12]) (by kernel_rfl) (by simp) ?_
        refine AllReadyH.cons rfl (fun K hK => ?_) AllReadyH.nil
        go_simp
        refine (same_texts ((sigN I seed k i xs).take 36) ((sigN I seed k i ys).take 36) A B 36 36 ca cb w6 HT2.out HT3.out (SA6.out.take 36) (SB6.out.take 36) (bytes_take HSX.out 36) (bytes_take HSY.out 36)).mono ?_
        rintro e w' ⟨rfl, rfl⟩
        rw [decide_eq_true E36.out]
        refine hK.out _ _ r (fun _ => ?_)
        clear hK K
        refine wpAnyH_take (i := 13) (v := ?_) rfl (by kernel_rfl) (by kernel_rfl) (by kernel_rfl) (fun _ _ _ h => h) (Or.inl ⟨by kernel_rfl, ?_⟩) r ?_
        rotate_left 1
        · (intro w hS; clear hS; go_simp; try (with_reducible rfl))
        refine wpAnyH_take (i := 14) (v := ?_) rfl (by kernel_rfl) (by kernel_rfl) (by kernel_rfl) (fun _ _ _ h => h) (Or.inl ⟨by kernel_rfl, ?_⟩) r ?_
        rotate_left 1
        · (intro w hS; clear hS; go_simp; try (with_reducible rfl))
        refine wpAnyH_take (i := 15) (v := ?_) rfl (by kernel_rfl) (by kernel_rfl) (by kernel_rfl) (fun _ _ _ h => h) (Or.inl ⟨by kernel_rfl, ?_⟩) r ?_
        rotate_left 1
        · (intro w hS; clear hS; go_simp; try (with_reducible rfl))
        refine wpAnyH_take (i := 16) (v := ?_) rfl (by kernel_rfl) (by kernel_rfl) (by kernel_rfl) (fun _ _ _ h => h) (Or.inl ⟨by kernel_rfl, ?_⟩) r ?_
        rotate_left 1
        · (intro w hS; clear hS; go_simp; try (with_reducible rfl))
        refine wpAnyH_ready (rs := [17]) (by kernel_rfl) (by simp) ?_
        refine AllReadyH.cons rfl (fun K hK => ?_) AllReadyH.nil
        go_simp
        refine (same_texts xs ys P R m m2 cc c2 w6 HX.out HY.out (HP.out.below C6.out.bel) (HR.out.below C6.out.bel) HXB.out HYB.out).mono ?_
        rintro e w' ⟨rfl, rfl⟩
        rw [HXY.out]
        refine hK.out _ _ r (fun _ => ?_)
        clear hK K
        refine wpAnyH_take (i := 18) (v := ?_) rfl (by kernel_rfl) (by kernel_rfl) (by kernel_rfl) (fun _ _ _ h => h) (Or.inl ⟨by kernel_rfl, ?_⟩) r ?_
        rotate_left 1
        · (intro w hS; clear hS; go_simp; try (with_reducible rfl))
        refine wpAnyH_take (i := 19) (v := ?_) rfl (by kernel_rfl) (by kernel_rfl) (by kernel_rfl) (fun _ _ _ h => h) (Or.inl ⟨by kernel_rfl, ?_⟩) r ?_
        rotate_left 1
        · (intro w hS; clear hS; go_simp; try (with_reducible rfl))
        refine wpAnyH_take (i := 20) (v := ?_) rfl (by kernel_rfl) (by kernel_rfl) (by kernel_rfl) (fun _ _ _ h => h) (Or.inl ⟨by kernel_rfl, ?_⟩) r ?_
        rotate_left 1
        · (intro w hS; clear hS; go_simp; try (with_reducible rfl))
        refine wpAnyH_take (i := 21) (v := ?_) rfl (by kernel_rfl) (by kernel_rfl) (by kernel_rfl) (fun _ _ _ h => h) (Or.inl ⟨by kernel_rfl, ?_⟩) r ?_
        rotate_left 1
        · (intro w hS; clear hS; go_simp; try (with_reducible rfl))
        refine wpAnyH_ready (rs := [22]) (by kernel_rfl) (by simp) ?_
        refine AllReadyH.cons rfl (fun K hK => ?_) AllReadyH.nil
        go_simp
        refine (same_texts (sigN I seed k i xs) (sigN I seed k i ys) A B N N ca cb w6 SXL.out SYL.out SA6.out SB6.out HSX.out HSY.out).mono ?_
        rintro e w' ⟨rfl, rfl⟩
        rw [decide_eq_true HE.out]
        refine hK.out _ _ r (fun _ => ?_)
        clear hK K
        refine wpAnyH_take (i := 23) (v := ?_) rfl (by kernel_rfl) (by kernel_rfl) (by kernel_rfl) (fun _ _ _ h => h) (Or.inl ⟨by kernel_rfl, ?_⟩) r ?_
        rotate_left 1
        · (intro w hS; clear hS; go_simp; try (with_reducible rfl))
        refine wpAnyH_take (i := 24) (v := ?_) rfl (by kernel_rfl) (by kernel_rfl) (by kernel_rfl) (fun _ _ _ h => h) (Or.inl ⟨by kernel_rfl, ?_⟩) r ?_
        rotate_left 1
        · (intro w hS; clear hS; go_simp; try (with_reducible rfl))
        refine wpAnyH_take (i := 25) (v := ?_) rfl (by kernel_rfl) (by kernel_rfl) (by kernel_rfl) (fun _ _ _ h => h) (Or.inl ⟨by kernel_rfl, ?_⟩) r ?_
        rotate_left 1
        · (intro w hS; clear hS; go_simp; try (with_reducible rfl))
        refine wpAnyH_take (i := 26) (v := ?_) rfl (by kernel_rfl) (by kernel_rfl) (by kernel_rfl) (fun _ _ _ h => h) (Or.inl ⟨by kernel_rfl, ?_⟩) r ?_
        rotate_left 1
        · (intro w hS; clear hS; go_simp; try (with_reducible rfl))
        refine wpAnyH_take (i := 27) (v := ?_) rfl (by kernel_rfl) (by kernel_rfl) (by kernel_rfl) (fun _ _ _ h => h) (Or.inl ⟨by kernel_rfl, ?_⟩) r ?_
        rotate_left 1
        · (intro w hS; clear hS; go_simp; try (with_reducible rfl))
        refine wpAnyH_take (i := 28) (v := ?_) rfl (by kernel_rfl) (by kernel_rfl) (by kernel_rfl) (fun _ _ _ h => h) (Or.inl ⟨by kernel_rfl, ?_⟩) r ?_
        rotate_left 1
        · (intro w hS; clear hS; go_simp; try (with_reducible rfl))
        refine wpAnyH_take (i := 29) (v := ?_) rfl (by kernel_rfl) (by kernel_rfl) (by kernel_rfl) (fun _ _ _ h => h) (Or.inl ⟨by kernel_rfl, ?_⟩) r ?_
        rotate_left 1
        · (intro w hS; clear hS; go_simp; try (with_reducible rfl))
        refine wpAnyH_take (i := 30) (v := .agg (u8s z32).toArray) rfl (by kernel_rfl) (by kernel_rfl) (by kernel_rfl) (fun _ _ _ h => h) (yieldsIf_load_mid (by kernel_rfl) 24 (.tmp 19) rfl gq 0 (by go_simp) (u8s z32) _ (fun _ h => h) Tryd.underlying24 rfl (z32_size)) r ?_
        refine wpAnyH_take (i := 31) (v := ?_) rfl (by kernel_rfl) (by kernel_rfl) (by kernel_rfl) (fun _ _ _ h => h) (Or.inl ⟨by kernel_rfl, ?_⟩) r ?_
        rotate_left 1
        · (intro w hS; clear hS; go_simp; try (with_reducible rfl))
        refine wpAnyH_take (i := 32) (v := ?_) rfl (by kernel_rfl) (by kernel_rfl) (by kernel_rfl) (fun _ _ _ h => h) (Or.inl ⟨by kernel_rfl, ?_⟩) r ?_
        rotate_left 1
        · (intro w hS; clear hS; go_simp; try (with_reducible rfl))
        refine wpAnyH_take (i := 33) (v := ?_) rfl (by kernel_rfl) (by kernel_rfl) (by kernel_rfl) (fun _ _ _ h => h) (Or.inl ⟨by kernel_rfl, ?_⟩) r ?_
        rotate_left 1
        · (intro w hS; clear hS; go_simp; try (with_reducible rfl))
        refine wpAnyH_ready (rs := [34]) (by kernel_rfl) (by simp) ?_
        refine AllReadyH.cons rfl (fun K hK => ?_) AllReadyH.nil
        go_simp
        refine hK.out _ _ r (fun _ => ?_)
        clear hK K
        refine wpAnyH_done (by kernel_rfl) ?_ _
        go_simp
        go_wp2_with fail
        go_ret
        exact ⟨rfl, C6.out.bel⟩
      · have HXY := Lib.hid (decide_eq_false hxy)
        clear hxy
        have r1 := RR.out _ D5.out
        go_upto_region 11 with (fail)
        refine wp_region_held (S := fun X => X.rangeAt gq 0 (u8s z32)) (by kernel_rfl) ?_
        change wpAnyH _ _ _ _ _ _ _ _ wc.drew
        refine wpAnyH_ready (rs := [0]) (by kernel_rfl) (by simp) ?_
        refine AllReadyH.cons rfl (fun K hK => ?_) AllReadyH.nil
        go_simp
        refine (told_t _ KI5.out).mono ?_
        rintro e w6 ⟨rfl, b6⟩
        have D6 := Lib.hid (D5.out.below b6 D5.out.lt); have SA6 := Lib.hid (SA5.out.below b6); have SB6 := Lib.hid (SB5.out.below b6); have SC6 := Lib.hid (SC5.out.below b6); have C6 := Lib.hid (C5.out.below b6)
        have r := RR.out _ D6.out
        clear b6 D5 KI5 SA5 SB5 SC5 r1
        refine hK.out _ _ r (fun _ => ?_)
        clear hK K
        refine wpAnyH_take (i := 1) (v := ?_) rfl (by kernel_rfl) (by kernel_rfl) (by kernel_rfl) (fun _ _ _ h => h) (Or.inl ⟨by kernel_rfl, ?_⟩) r ?_
        rotate_left 1
        · (intro w hS; clear hS; go_simp; try (with_reducible rfl))
        refine wpAnyH_take (i := 2) (v := ?_) rfl (by kernel_rfl) (by kernel_rfl) (by kernel_rfl) (fun _ _ _ h => h) (Or.inl ⟨by kernel_rfl, ?_⟩) r ?_
        rotate_left 1
        · (intro w hS; clear hS; go_simp; try (with_reducible rfl))
        refine wpAnyH_take (i := 3) (v := ?_) rfl (by kernel_rfl) (by kernel_rfl) (by kernel_rfl) (fun _ _ _ h => h) (Or.inl ⟨by kernel_rfl, ?_⟩) r ?_
        rotate_left 1
        · (intro w hS; clear hS; go_simp; try (with_reducible rfl))
        refine wpAnyH_take (i := 4) (v := ?_) rfl (by kernel_rfl) (by kernel_rfl) (by kernel_rfl) (fun _ _ _ h => h) (Or.inl ⟨by kernel_rfl, ?_⟩) r ?_
        rotate_left 1
        · (intro w hS; clear hS; go_simp; try (with_reducible rfl))
        refine wpAnyH_ready (rs := [5]) (by kernel_rfl) (by simp) ?_
        refine AllReadyH.cons rfl (fun K hK => ?_) AllReadyH.nil
        go_simp
        refine (same_texts ((sigN I seed k i xs).take 4) [0, 0, 0, co] A (some ⟨gc, 0, none⟩) 4 4 ca 4 w6 HT1.out rfl (SA6.out.take 4) SC6.out (bytes_take HSX.out 4) HB4.out).mono ?_
        rintro e w' ⟨rfl, rfl⟩
        rw [decide_eq_true E4.out]
        refine hK.out _ _ r (fun _ => ?_)
        clear hK K
        refine wpAnyH_take (i := 6) (v := ?_) rfl (by kernel_rfl) (by kernel_rfl) (by kernel_rfl) (fun _ _ _ h => h) (Or.inl ⟨by kernel_rfl, ?_⟩) r ?_
        rotate_left 1
        · (intro w hS; clear hS; go_simp; try (with_reducible rfl))
        refine wpAnyH_take (i := 7) (v := ?_) rfl (by kernel_rfl) (by kernel_rfl) (by kernel_rfl) (fun _ _ _ h => h) (Or.inl ⟨by kernel_rfl, ?_⟩) r ?_
        rotate_left 1
        · (intro w hS; clear hS; go_simp; try (with_reducible rfl))
        refine wpAnyH_take (i := 8) (v := ?_) rfl (by kernel_rfl) (by kernel_rfl) (by kernel_rfl) (fun _ _ _ h => h) (Or.inl ⟨by kernel_rfl, ?_⟩) r ?_
        rotate_left 1
        · (intro w hS; clear hS; go_simp; try (with_reducible rfl))
        refine wpAnyH_take (i := 9) (v := ?_) rfl (by kernel_rfl) (by kernel_rfl) (by kernel_rfl) (fun _ _ _ h => h) (Or.inl ⟨by kernel_rfl, ?_⟩) r ?_
        rotate_left 1
        · (intro w hS; clear hS; go_simp; try (with_reducible rfl))
        refine wpAnyH_take (i := 10) (v := ?_) rfl (by kernel_rfl) (by kernel_rfl) (by kernel_rfl) (fun _ _ _ h => h) (Or.inl ⟨by kernel_rfl, ?_⟩) r ?_
        rotate_left 1
        · (intro w hS; clear hS; go_simp; try (with_reducible rfl))
        refine wpAnyH_take (i := 11) (v := ?_) rfl (by kernel_rfl) (by kernel_rfl) (by kernel_rfl) (fun _ _ _ h => h) (Or.inl ⟨by kernel_rfl, ?_⟩) r ?_
        rotate_left 1
        · (intro w hS; clear hS; go_simp; try (with_reducible rfl))
        refine wpAnyH_ready (rs := [12]) (by kernel_rfl) (by simp) ?_
        refine AllReadyH.cons rfl (fun K hK => ?_) AllReadyH.nil
        go_simp
        refine (same_texts ((sigN I seed k i xs).take 36) ((sigN I seed k i ys).take 36) A B 36 36 ca cb w6 HT2.out HT3.out (SA6.out.take 36) (SB6.out.take 36) (bytes_take HSX.out 36) (bytes_take HSY.out 36)).mono ?_
        rintro e w' ⟨rfl, rfl⟩
        rw [decide_eq_true E36.out]
        refine hK.out _ _ r (fun _ => ?_)
        clear hK K
        refine wpAnyH_take (i := 13) (v := ?_) rfl (by kernel_rfl) (by kernel_rfl) (by kernel_rfl) (fun _ _ _ h => h) (Or.inl ⟨by kernel_rfl, ?_⟩) r ?_
        rotate_left 1
        · (intro w hS; clear hS; go_simp; try (with_reducible rfl))
        refine wpAnyH_take (i := 14) (v := ?_) rfl (by kernel_rfl) (by kernel_rfl) (by kernel_rfl) (fun _ _ _ h => h) (Or.inl ⟨by kernel_rfl, ?_⟩) r ?_
        rotate_left 1
        · (intro w hS; clear hS; go_simp; try (with_reducible rfl))
        refine wpAnyH_take (i := 15) (v := ?_) rfl (by kernel_rfl) (by kernel_rfl) (by kernel_rfl) (fun _ _ _ h => h) (Or.inl ⟨by kernel_rfl, ?_⟩) r ?_
        rotate_left 1
        · (intro w hS; clear hS; go_simp; try (with_reducible rfl))
        refine wpAnyH_take (i := 16) (v := ?_) rfl (by kernel_rfl) (by kernel_rfl) (by kernel_rfl) (fun _ _ _ h => h) (Or.inl ⟨by kernel_rfl, ?_⟩) r ?_
        rotate_left 1
        · (intro w hS; clear hS; go_simp; try (with_reducible rfl))
        refine wpAnyH_ready (rs := [17]) (by kernel_rfl) (by simp) ?_
        refine AllReadyH.cons rfl (fun K hK => ?_) AllReadyH.nil
        go_simp
        refine (same_texts xs ys P R m m2 cc c2 w6 HX.out HY.out (HP.out.below C6.out.bel) (HR.out.below C6.out.bel) HXB.out HYB.out).mono ?_
        rintro e w' ⟨rfl, rfl⟩
        rw [HXY.out]
        refine hK.out _ _ r (fun _ => ?_)
        clear hK K
        refine wpAnyH_take (i := 18) (v := ?_) rfl (by kernel_rfl) (by kernel_rfl) (by kernel_rfl) (fun _ _ _ h => h) (Or.inl ⟨by kernel_rfl, ?_⟩) r ?_
        rotate_left 1
        · (intro w hS; clear hS; go_simp; try (with_reducible rfl))
        refine wpAnyH_take (i := 19) (v := ?_) rfl (by kernel_rfl) (by kernel_rfl) (by kernel_rfl) (fun _ _ _ h => h) (Or.inl ⟨by kernel_rfl, ?_⟩) r ?_
        rotate_left 1
        · (intro w hS; clear hS; go_simp; try (with_reducible rfl))
        refine wpAnyH_take (i := 20) (v := undef) rfl (by kernel_rfl) (by kernel_rfl) (by kernel_rfl) (fun _ _ _ h => h) (Or.inr ⟨by kernel_rfl, rfl⟩) r ?_
        refine wpAnyH_take (i := 21) (v := undef) rfl (by kernel_rfl) (by kernel_rfl) (by kernel_rfl) (fun _ _ _ h => h) (Or.inr ⟨by kernel_rfl, rfl⟩) r ?_
        refine wpAnyH_take (i := 22) (v := undef) rfl (by kernel_rfl) (by kernel_rfl) (by kernel_rfl) (fun _ _ _ h => h) (Or.inr ⟨by kernel_rfl, rfl⟩) r ?_
        refine wpAnyH_take (i := 23) (v := ?_) rfl (by kernel_rfl) (by kernel_rfl) (by kernel_rfl) (fun _ _ _ h => h) (Or.inl ⟨by kernel_rfl, ?_⟩) r ?_
        rotate_left 1
        · (intro w hS; clear hS; go_simp; try (with_reducible rfl))
        refine wpAnyH_take (i := 24) (v := ?_) rfl (by kernel_rfl) (by kernel_rfl) (by kernel_rfl) (fun _ _ _ h => h) (Or.inl ⟨by kernel_rfl, ?_⟩) r ?_
        rotate_left 1
        · (intro w hS; clear hS; go_simp; try (with_reducible rfl))
        refine wpAnyH_take (i := 25) (v := ?_) rfl (by kernel_rfl) (by kernel_rfl) (by kernel_rfl) (fun _ _ _ h => h) (Or.inl ⟨by kernel_rfl, ?_⟩) r ?_
        rotate_left 1
        · (intro w hS; clear hS; go_simp; try (with_reducible rfl))
        refine wpAnyH_take (i := 26) (v := ?_) rfl (by kernel_rfl) (by kernel_rfl) (by kernel_rfl) (fun _ _ _ h => h) (Or.inl ⟨by kernel_rfl, ?_⟩) r ?_
        rotate_left 1
        · (intro w hS; clear hS; go_simp; try (with_reducible rfl))
        refine wpAnyH_take (i := 27) (v := ?_) rfl (by kernel_rfl) (by kernel_rfl) (by kernel_rfl) (fun _ _ _ h => h) (Or.inl ⟨by kernel_rfl, ?_⟩) r ?_
        rotate_left 1
        · (intro w hS; clear hS; go_simp; try (with_reducible rfl))
        refine wpAnyH_take (i := 28) (v := ?_) rfl (by kernel_rfl) (by kernel_rfl) (by kernel_rfl) (fun _ _ _ h => h) (Or.inl ⟨by kernel_rfl, ?_⟩) r ?_
        rotate_left 1
        · (intro w hS; clear hS; go_simp; try (with_reducible rfl))
        refine wpAnyH_take (i := 29) (v := ?_) rfl (by kernel_rfl) (by kernel_rfl) (by kernel_rfl) (fun _ _ _ h => h) (Or.inl ⟨by kernel_rfl, ?_⟩) r ?_
        rotate_left 1
        · (intro w hS; clear hS; go_simp; try (with_reducible rfl))
        refine wpAnyH_take (i := 30) (v := .agg (u8s z32).toArray) rfl (by kernel_rfl) (by kernel_rfl) (by kernel_rfl) (fun _ _ _ h => h) (yieldsIf_load_mid (by kernel_rfl) 24 (.tmp 19) rfl gq 0 (by go_simp) (u8s z32) _ (fun _ h => h) Tryd.underlying24 rfl (z32_size)) r ?_
        refine wpAnyH_take (i := 31) (v := ?_) rfl (by kernel_rfl) (by kernel_rfl) (by kernel_rfl) (fun _ _ _ h => h) (Or.inl ⟨by kernel_rfl, ?_⟩) r ?_
        rotate_left 1
        · (intro w hS; clear hS; go_simp; try (with_reducible rfl))
        refine wpAnyH_take (i := 32) (v := ?_) rfl (by kernel_rfl) (by kernel_rfl) (by kernel_rfl) (fun _ _ _ h => h) (Or.inl ⟨by kernel_rfl, ?_⟩) r ?_
        rotate_left 1
        · (intro w hS; clear hS; go_simp; try (with_reducible rfl))
        refine wpAnyH_take (i := 33) (v := ?_) rfl (by kernel_rfl) (by kernel_rfl) (by kernel_rfl) (fun _ _ _ h => h) (Or.inl ⟨by kernel_rfl, ?_⟩) r ?_
        rotate_left 1
        · (intro w hS; clear hS; go_simp; try (with_reducible rfl))
        refine wpAnyH_ready (rs := [34]) (by kernel_rfl) (by simp) ?_
        refine AllReadyH.cons rfl (fun K hK => ?_) AllReadyH.nil
        go_simp
        refine hK.out _ _ r (fun _ => ?_)
        clear hK K
        refine wpAnyH_done (by kernel_rfl) ?_ _
        go_simp
        go_wp2_with fail
        go_ret
        exact ⟨rfl, C6.out.bel⟩
end Go.Proofs.YtbffbglbclkadaaDoor
