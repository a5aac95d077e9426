/-
  LmsAsks walked.
-/
import Derived.Test.YtigbnjgmdgkgjaaGreatDoorLmU
import Derived.Test.YtigbnjgmdgkgjaaGreatDoorRgS
import Derived.Test.YtigbnjgmdgkgjaaGreatDoorLmP
import Derived.Test.YtigbnjgmdgkgjaaGreatDoorLmD
import Derived.Test.YtigbnjgmdgkgjaaGreatDoorOtHolds
namespace Go.Proofs.YtigbnjgmdgkgjaaGreatDoor
open Go Go.RowKit Sh

/-- What the law has laid down: its secret, its tree, the reference's. -/
structure LA (w0 w : World) (gs g gx : Nat) (I seed : List Nat) (v i : Nat) : Prop where
  sec : Blk w gs 26 (u8s (I ++ seed))
  st : Stands w g I seed v i
  rt : Blk w gx 41 (rtC I seed v (nod I seed i 63))
  bel : Below w0.heap.size w0 w
  gl : w0.heap.size ≤ gs ∧ gs < g ∧ g < gx
theorem LA.below {w0 w w' : World} {gs g gx : Nat} {I seed : List Nat} {v i : Nat} (h : LA w0 w gs g gx I seed v i) (hb : Below w.heap.size w w') : LA w0 w' gs g gx I seed v i :=
  ⟨h.sec.below hb h.sec.lt, h.st.below hb, h.rt.below hb h.rt.lt, h.bel.trans (hb.mono h.bel.size), h.gl⟩
theorem LA.but {w0 w w' : World} {gs g gx : Nat} {I seed : List Nat} {v i : Nat} (h : LA w0 w gs g gx I seed v i) (hb : But w.heap.size g w w') (hs : Stands w' g I seed v i) : LA w0 w' gs g gx I seed v i :=
  ⟨h.sec.but hb h.sec.lt (by have := h.gl; omega), hs, h.rt.but hb h.rt.lt (by have := h.gl; omega), h.bel.trans (but_below hb (by have := h.gl; omega) h.bel.size), h.gl⟩
theorem sr_own {w : World} {base : Nat} {v : Value} {n : Nat} {l : List Nat} (h : w.ownsRow base 5 1 v n (u8s l)) : ∃ A c, v = .slice A n c ∧ n ≤ c ∧ Sr w A l := by
  obtain ⟨A, c, rfl, hc⟩ := own_form h
  exact ⟨A, c, rfl, hc, Sr.of_own h⟩
theorem eqIn_self (xs : List Nat) (hx : xs.length = 32) (w : World) : (Op.equalIn 10000 24 (.agg (u8s xs).toArray) (.agg (u8s xs).toArray)).run Tryz.prog w = .ok true w := by
  rw [eqIn_u8s 9998 24 32 Tryz.underlying24 xs xs hx hx w]
  simp
/-- A new block, written whole. -/
theorem below_boxH (w : World) (cs : List Value) : Below w.heap.size w ((w.alloc (.cells (u8s z32).toArray 24)).setRow w.heap.size cs.toArray) :=
  below_setRow ((Below.refl _ _).alloc (Nat.le_refl _) _) (Nat.le_refl _) _
set_option maxRecDepth 100000 in
set_option maxHeartbeats 20000000 in
theorem lasks_t (I seed xs : List Nat) (wd q r : Int) (P0 : Option Addr) (m cc : Nat) (w : World) (hI : I.length = 16) (hIb : Bytes I) (hs : seed.length = 32) (hsb : Bytes seed) (hx : xs.length = m) (hp : Sr w P0 xs) (hxb : Bytes xs) (hcc : m ≤ cc) (hml : m ≤ 9223372036854775807) (hk : KAt w) (hki : KI w) :
    Calls Tryz.prog 3 #[.agg (u8s (I ++ seed)).toArray, .int .i64 wd, .int .i64 q, .slice P0 m cc, .int .i64 r] w fun e w' => e = .returned (.bool true) ∧ Below w.heap.size w w' := by
  have HIS := Lib.hid (show (I ++ seed).length = 48 by rw [List.length_append, hI, hs])
  have S0 := Lib.hid (Blk.new w 26 (u8s (I ++ seed)))
  have B0 := Lib.hid ((Below.refl w.heap.size w).alloc (Nat.le_refl _) (.cells (u8s (I ++ seed)).toArray 26))
  have TO := Lib.hid (fun W (h : Below w.heap.size w W) => ltold_t W (hki.kept h))
  by_cases hbig : 200 < m
  · have m1 : (200 : Int) < (m : Int) := by omega
    clear hI hIb hs hsb hx hp hxb hcc hk hki hbig
    go_enter Tryz.func3, Tryz.ntmps3
    go_wp2_with fail
    refine (TO.out _ B0.out).mono ?_
    rintro e w2 ⟨rfl, b2⟩
    go_wp2_with fail
    go_ret
    exact ⟨rfl, B0.out.trans (b2.mono B0.out.size)⟩
  · have m1 : (m : Int) ≤ 200 := by omega
    have m2 : m ≤ 200 := by omega
    obtain ⟨k, hk32, hke⟩ := mod_of 32 (by decide) (by decide) q
    rw [show ((32 : Nat) : Int) = 32 from rfl] at hke
    obtain ⟨i, hi2, hie⟩ := mod_of 2 (by decide) (by decide) wd
    rw [show ((2 : Nat) : Int) = 2 from rfl] at hie
    have hi : i < 4 := by omega
    obtain ⟨v, hv⟩ : ∃ v, v = (kd i).w := ⟨_, rfl⟩
    have hvi : (1 : Int) + (i : Int) = (v : Int) := by
      rw [hv]
      have : i = 0 ∨ i = 1 := by omega
      rcases this with rfl | rfl
      · show (1 : Int) + 0 = 1; decide
      · show (1 : Int) + 1 = 2; decide
    have NW := Lib.hid (fun W (h : Below w.heap.size w W) => new_ok I seed v i W hI hs hi hv (hk.below h hk.lt) (hki.kept h))
    have RN2 := Lib.hid (fun W => refnew_t I seed v i W hI hIb hs hsb hi hv)
    have PBL := Lib.hid (fun W gs g gx (h : LA w W gs g gx I seed v i) => tree_pub_t I seed v i g W hI hIb hs hsb hi hv h.st (hk.below h.bel hk.lt) (hki.kept h.bel))
    have RPB := Lib.hid (fun W gs g gx (h : LA w W gs g gx I seed v i) => reftpub_t I seed v i gx W hI hs hi hv h.rt)
    have ND := Lib.hid (fun W gs g gx (h : LA w W gs g gx I seed v i) (j : Nat) (h1 : 1 ≤ j) (h2 : j ≤ 63) => tree_node_t I seed v i g j W hI hIb hs hsb hi hv h1 h2 h.st (hk.below h.bel hk.lt) (hki.kept h.bel))
    have NLO := Lib.hid (fun W gs g gx (h : LA w W gs g gx I seed v i) (hr : r < 1) => tree_node_low I seed v i g r W hI hs hv hr h.st)
    have NHI := Lib.hid (fun W gs g gx (h : LA w W gs g gx I seed v i) (hr : 63 < r) => tree_node_high I seed v i g r W hI hs hv hr h.st)
    have RNG := Lib.hid (fun W gs g gx (h : LA w W gs g gx I seed v i) (j : Nat) (h2 : j ≤ 63) => show W.rangeAt gx (49 + 32 * j) (u8s (tnode I seed i j)) from rt_node h.rt hI hs j (by rw [nod_length I seed i 63 (by decide)]; omega))
    have TL := Lib.hid (fun j (h2 : j ≤ 63) => tnode_length I seed i j h2)
    have UL := Lib.hid (lpubN_length I seed i hI)
    have UB := Lib.hid (lpubN_bytes I seed i hi hIb hsb)
    have SLL := Lib.hid (fun k (h : k < 32) => lsigN_length I seed i k xs h)
    have SBB := Lib.hid (fun k => lsigN_bytes I seed i k xs hi hIb hsb)
    have SZ := Lib.hid (fun W (h : Below w.heap.size w W) => show Calls Tryz.prog 15 #[.int .i64 (v : Int)] W fun e w' => e = .returned (.int .i64 ((204 + 32 * (kd i).p : Nat) : Int)) ∧ Below W.heap.size W w' by rw [hv]; exact size_yes i hi W (hki.kept h))
    have SG0 := Lib.hid (fun W gs g gx (q : Nat) (hq : q < 32) (h : LA w W gs g gx I seed v i) => tree_sign_t I seed xs v i g q P0 m cc W hI hIb hs hsb hi hv hq hx (hp.below h.bel) hxb hcc (by omega) h.st (hk.below h.bel hk.lt) (hki.kept h.bel))
    have RG0 := Lib.hid (fun W gs g gx (q : Nat) (hq : q < 32) (h : LA w W gs g gx I seed v i) => reftsign_t I seed xs v i gx q P0 m cc W hI hIb hs hsb hi hv hq hx (hp.below h.bel) hxb (by omega) h.rt)
    have SLO0 := Lib.hid (fun W gs g gx (hq : q < 0) (h : LA w W gs g gx I seed v i) => tree_sign_low I seed v i g q P0 m cc W hI hs hv hq h.st)
    have SHI0 := Lib.hid (fun W gs g gx (hq : 32 ≤ q) (h : LA w W gs g gx I seed v i) => tree_sign_high I seed v i g q P0 m cc W hI hs hv hq h.st)
    have hp9 := kd_p i hi
    obtain ⟨N, hN⟩ : ∃ N, 204 + 32 * (kd i).p = N := ⟨_, rfl⟩
    rw [hN] at SZ SG0 SLL
    have hN9 : N ≤ 9000 := by omega
    have hN1 : ((N : Int) == 0) = false := by rw [beq_eq_false_iff_ne]; omega
    clear hI hIb hs hsb hx hp hxb hcc hk hki hbig hN hp9 hv
    go_enter Tryz.func3, Tryz.ntmps3
    go_upto_region 4 with (fail)
    clear hie hvi hi2
    go_wp2_with ((with_reducible refine load_blk 26 (.tmp 5) w.heap.size 26 (u8s (I ++ seed)) _ rfl rfl ?_ Tryz.underlying26 ?_ ?_ ?_ ?_); exact S0.out; exact rfl; exact size48 _ HIS.out; exact rfl)
    refine (NW.out _ B0.out).mono ?_
    rintro e w1 ⟨g, rfl, st1, hg, b1⟩
    have ST1 := Lib.hid st1; have S1 := Lib.hid (S0.out.below b1 S0.out.lt); have B1 := Lib.hid (B0.out.trans (b1.mono B0.out.size))
    have hgs : w.heap.size < g := by have := S0.out.lt; omega
    clear st1 hg b1 S0 B0 NW
    go_wp2_with ((with_reducible refine load_blk 26 (.tmp 5) w.heap.size 26 (u8s (I ++ seed)) _ rfl rfl ?_ Tryz.underlying26 ?_ ?_ ?_ ?_); exact S1.out; exact rfl; exact size48 _ HIS.out; exact rfl)
    refine (RN2.out w1).mono ?_
    rintro e w2 ⟨gx, rfl, rt2, hgx, b2⟩
    have L2 := Lib.hid (show LA w w2 w.heap.size g gx I seed v i from ⟨S1.out.below b2 S1.out.lt, ST1.out.below b2, rt2, B1.out.trans (b2.mono B1.out.size), Nat.le_refl _, hgs, by have := ST1.out.lt; omega⟩)
    clear rt2 hgx b2 S1 ST1 B1 RN2
    obtain ⟨gs, hgse⟩ : ∃ x, w.heap.size = x := ⟨_, rfl⟩
    rw [hgse] at L2 ⊢
    clear hgse hgs
    have SG := Lib.hid (fun W q hq (h : LA w W gs g gx I seed v i) => SG0.out W gs g gx q hq h)
    have RG := Lib.hid (fun W q hq (h : LA w W gs g gx I seed v i) => RG0.out W gs g gx q hq h)
    have SLO := Lib.hid (fun W hq (h : LA w W gs g gx I seed v i) => SLO0.out W gs g gx hq h)
    have SHI := Lib.hid (fun W hq (h : LA w W gs g gx I seed v i) => SHI0.out W gs g gx hq h)
    clear SG0 RG0 SLO0 SHI0
    go_wp2_with fail
    refine (PBL.out w2 _ _ _ L2.out).mono ?_
    rintro e w3 ⟨u, rfl, o3, st3, b3⟩
    obtain ⟨A3, c3, rfl, _, s3⟩ := sr_own o3
    have L3 := Lib.hid (L2.out.but b3 st3); have S3 := Lib.hid s3
    clear o3 st3 b3 s3 L2 PBL
    go_wp2_with fail
    refine (RPB.out w3 _ _ _ L3.out).mono ?_
    rintro e w4 ⟨u, rfl, fr⟩
    obtain ⟨A4, c4, rfl, _, s4, b4⟩ := fresh_op fr
    have L4 := Lib.hid (L3.out.below b4); have S4 := Lib.hid (S3.out.below b4); have T4 := Lib.hid s4
    clear fr s4 b4 L3 S3 RPB
    go_wp2_with fail
    refine (same_texts _ _ A3 A4 _ _ c3 c4 w4 UL.out rfl S4.out T4.out UB.out UB.out).mono ?_
    rintro e w5 ⟨rfl, rfl⟩
    rw [show decide (lpubN I seed i = lpubN I seed i) = true from decide_eq_true rfl]
    clear S4 T4 UL UB
    go_upto_region 11 with (fail)
    go_loopw [15] (fun x wr => ∃ j : Nat, 1 ≤ j ∧ j ≤ 64 ∧ x = .int .i64 (j : Int) ∧ LA w wr gs g gx I seed v i) (fun x _ => 64 - (intOf x).toNat)
    case atStart => exact ⟨1, by omega, by omega, rfl, L4.out⟩
    case round =>
      clear L4
      obtain ⟨j, hj1, hj64, rfl, la⟩ := hrel
      have LJ := Lib.hid la
      clear la
      by_cases hlt : j < 64
      · have jl : (j : Int) < 64 := by omega
        have NDj := Lib.hid (ND.out wr _ _ _ LJ.out j hj1 (by omega))
        have TLj := Lib.hid (TL.out j (by omega))
        have RNj := Lib.hid (fun W (h : LA w W gs g gx I seed v i) => RNG.out W _ _ _ h j (by omega))
        obtain ⟨T, hT⟩ : ∃ x, tnode I seed i j = x := ⟨_, rfl⟩
        rw [hT] at NDj TLj
        simp only [hT] at RNj
        clear hT ND TL RNG SG RG SLO SHI SZ SLL SBB NLO NHI TO
        go_wp2_with fail
        refine NDj.out.mono ?_
        rintro e v1 ⟨rfl, st1, b1⟩
        have L1 := Lib.hid ((LJ.out.but b1 st1).below (below_boxH v1 (u8s T)))
        clear st1 b1 LJ NDj
        have Z2 := Lib.hid (Blk.new v1 24 (u8s z32))
        go_upto_region 14 with ((with_reducible refine store_blk 24 (.tmp 16) (.tmp 64) v1.heap.size 24 (u8s z32) (u8s T) rfl rfl ?_ ?_ ?_ ?_ ?_ ?_ ?_); exact Z2.out; exact hash_lenL _ TLj.out; exact size32 _ TLj.out; exact u8s_one _; exact rfl; exact rfl)
        clear Z2
        have H1 := Lib.hid (show Blk ((v1.alloc (.cells (u8s z32).toArray 24)).setRow v1.heap.size (u8s T).toArray) v1.heap.size 24 (u8s T) from (Blk.new v1 24 (u8s z32)).setRow (u8s T))
        refine world_is (fun Y => LA w Y gs g gx I seed v i ∧ Blk Y v1.heap.size 24 (u8s T)) ⟨L1.out, H1.out⟩ ?_
        rintro Y ⟨ly, hy⟩
        obtain ⟨gh, hgh⟩ : ∃ x, v1.heap.size = x := ⟨_, rfl⟩
        rw [hgh] at hy ⊢
        have LY := Lib.hid (ly.below (show Below Y.heap.size Y Y.drew from (Below.refl _ _).drew)); have HY := Lib.hid (hy.below (show Below Y.heap.size Y Y.drew from (Below.refl _ _).drew) hy.lt)
        clear ly hy hgh L1 H1
        refine wp_region_held (S := fun X => X.rangeAt gh 0 (u8s T) ∧ X.rangeAt gx (49 + 32 * j) (u8s T)) (by kernel_rfl) ?_
        change wpAnyH _ _ _ _ _ _ _ _ Y.drew
        obtain ⟨V, hV⟩ : ∃ V, Y.drew = V := ⟨_, rfl⟩
        rw [hV] at LY HY ⊢
        clear hV
        have r1 : V.rangeAt gh 0 (u8s T) ∧ V.rangeAt gx (49 + 32 * j) (u8s T) := ⟨range_of_blkA HY.out, RNj.out V LY.out⟩
        refine wpAnyH_take (i := 0) (v := ?_) rfl (by kernel_rfl) (by kernel_rfl) (by kernel_rfl) (fun _ _ _ h => h) (Or.inl ⟨by kernel_rfl, ?_⟩) r1 ?_
        rotate_left 1
        · (intro w hS; clear hS; go_simp; try (with_reducible rfl))
        refine wpAnyH_take (i := 1) (v := ?_) rfl (by kernel_rfl) (by kernel_rfl) (by kernel_rfl) (fun _ _ _ h => h) (Or.inl ⟨by kernel_rfl, ?_⟩) r1 ?_
        rotate_left 1
        · (intro w hS; clear hS; go_simp; try (with_reducible rfl))
        refine wpAnyH_take (i := 2) (v := ?_) rfl (by kernel_rfl) (by kernel_rfl) (by kernel_rfl) (fun _ _ _ h => h) (Or.inl ⟨by kernel_rfl, ?_⟩) r1 ?_
        rotate_left 1
        · (intro w hS; clear hS; go_simp; try (with_reducible rfl))
        refine wpAnyH_take (i := 3) (v := .agg (u8s T).toArray) rfl (by kernel_rfl) (by kernel_rfl) (by kernel_rfl) (fun _ _ _ h => h) (yieldsIf_load_mid (by kernel_rfl) 24 (.tmp 16) rfl gh 0 (by go_simp) (u8s T) _ (fun _ h => h.1) Tryz.underlying24 rfl (size32 _ TLj.out)) r1 ?_
        refine wpAnyH_take (i := 4) (v := ?_) rfl (by kernel_rfl) (by kernel_rfl) (by kernel_rfl) (fun _ _ _ h => h) (Or.inl ⟨by kernel_rfl, ?_⟩) r1 ?_
        rotate_left 1
        · (intro w hS; clear hS; go_simp; try (with_reducible rfl))
        refine wpAnyH_take (i := 5) (v := ?_) rfl (by kernel_rfl) (by kernel_rfl) (by kernel_rfl) (fun _ _ _ h => h) (Or.inl ⟨by kernel_rfl, ?_⟩) r1 ?_
        rotate_left 1
        · (intro w hS; clear hS; go_simp; try (with_reducible rfl))
        refine wpAnyH_take (i := 6) (v := ?_) rfl (by kernel_rfl) (by kernel_rfl) (by kernel_rfl) (fun _ _ _ h => h) (Or.inl ⟨by kernel_rfl, ?_⟩) r1 ?_
        rotate_left 1
        · (intro w hS; clear hS; go_simp; try (with_reducible rfl))
        refine wpAnyH_take (i := 7) (v := ?_) rfl (by kernel_rfl) (by kernel_rfl) (by kernel_rfl) (fun _ _ _ h => h) (Or.inl ⟨by kernel_rfl, ?_⟩) r1 ?_
        rotate_left 1
        · (intro w hS; clear hS; go_simp; try (with_reducible rfl))
        refine wpAnyH_take (i := 8) (v := ?_) rfl (by kernel_rfl) (by kernel_rfl) (by kernel_rfl) (fun _ _ _ h => h) (Or.inl ⟨by kernel_rfl, ?_⟩) r1 ?_
        rotate_left 1
        · (intro w hS; clear hS; go_simp; try (with_reducible rfl))
        refine wpAnyH_take (i := 9) (v := .agg (u8s T).toArray) rfl (by kernel_rfl) (by kernel_rfl) (by kernel_rfl) (fun _ _ _ h => h) (yieldsIf_load_mid (by kernel_rfl) 24 (.tmp 74) rfl gx (49 + 32 * j) (by go_simp) (u8s T) _ (fun _ h => h.2) Tryz.underlying24 rfl (size32 _ TLj.out)) r1 ?_
        refine wpAnyH_take (i := 10) (v := ?_) rfl (by kernel_rfl) (by kernel_rfl) (by kernel_rfl) (fun _ _ _ h => h) (Or.inl ⟨by kernel_rfl, ?_⟩) r1 ?_
        rotate_left 1
        · (intro w hS; have hs := eqIn_self T TLj.out w; clear hS; go_simp; try (with_reducible rfl))
        refine wpAnyH_take (i := 11) (v := ?_) rfl (by kernel_rfl) (by kernel_rfl) (by kernel_rfl) (fun _ _ _ h => h) (Or.inl ⟨by kernel_rfl, ?_⟩) r1 ?_
        rotate_left 1
        · (intro w hS; clear hS; go_simp; try (with_reducible rfl))
        clear r1
        refine wpAnyH_done (by kernel_rfl) ?_ _
        go_simp
        go_wp2_with fail
        exact ⟨⟨j + 1, by omega, by omega, by go_num, LY.out⟩, by simp [intOf]; omega⟩
      · obtain rfl : j = 64 := by omega
        clear hlt hj1 hj64
        go_upto_region 16 with (fail)
        have NE := Lib.hid (fun W => show (binOp .neq 24 (.agg (u8s z32).toArray) (.agg #[.int .u8 0, .int .u8 0, .int .u8 0, .int .u8 0, .int .u8 0, .int .u8 0, .int .u8 0, .int .u8 0, .int .u8 0, .int .u8 0, .int .u8 0, .int .u8 0, .int .u8 0, .int .u8 0, .int .u8 0, .int .u8 0, .int .u8 0, .int .u8 0, .int .u8 0, .int .u8 0, .int .u8 0, .int .u8 0, .int .u8 0, .int .u8 0, .int .u8 0, .int .u8 0, .int .u8 0, .int .u8 0, .int .u8 0, .int .u8 0, .int .u8 0, .int .u8 0])).run Tryz.prog W = .ok (.bool false) W from neq_self z32 rfl W)
        by_cases hr1 : r < 1
        · have nr : ¬ ((1 : Int) ≤ r) := by omega
          have NLO1 := Lib.hid (NLO.out wr _ _ _ LJ.out hr1)
          clear hr1 ND NHI NLO RNG TL
          go_wp2_with fail
          refine NLO1.out.mono ?_
          rintro e v1 ⟨rfl, b1⟩
          have L1 := Lib.hid ((LJ.out.below b1).below (below_boxH v1 (u8s z32)))
          have H1 := Lib.hid (show Blk ((v1.alloc (.cells (u8s z32).toArray 24)).setRow v1.heap.size (u8s z32).toArray) v1.heap.size 24 (u8s z32) from (Blk.new v1 24 (u8s z32)).setRow (u8s z32))
          clear b1 LJ
          have Z2 := Lib.hid (Blk.new v1 24 (u8s z32))
          go_upto_region 17 with ((with_reducible refine store_blk 24 (.tmp 18) (.tmp 82) v1.heap.size 24 (u8s z32) (u8s z32) rfl rfl ?_ ?_ ?_ ?_ ?_ ?_ ?_); exact Z2.out; exact hash_lenL _ rfl; exact size32 _ rfl; exact u8s_one _; exact rfl; exact rfl)
          clear Z2
          refine world_is (fun Y => LA w Y gs g gx I seed v i ∧ Blk Y v1.heap.size 24 (u8s z32)) ⟨L1.out, H1.out⟩ ?_
          rintro Y ⟨ly, hy⟩
          obtain ⟨gh, hgh⟩ : ∃ x, v1.heap.size = x := ⟨_, rfl⟩
          rw [hgh] at hy ⊢
          have LY := Lib.hid ly; have HY := Lib.hid hy
          clear ly hy hgh L1 H1
          have ne := NE.out
          go_upto_region 19 with ((with_reducible refine load_blk_g 24 (.tmp 18) gh 24 (u8s z32) _ ?_ rfl ?_ Tryz.underlying24 ?_ ?_ ?_ ?_); kernel_rfl; exact HY.out; exact rfl; exact z32_size; exact rfl)
          clear nr ne NE HY
          skip
          go_wp2_with fail
          try simp only [hke]
          refine (SG.out Y k hk32 LY.out).mono ?_
          rintro e v1 ⟨u, rfl, o1, st1, b1⟩
          obtain ⟨A1, c1, rfl, _, s1⟩ := sr_own o1
          have L1 := Lib.hid (LY.out.but b1 st1); have S1 := Lib.hid s1
          clear o1 st1 b1 s1 LY
          go_wp2_with fail
          refine (RG.out v1 k hk32 L1.out).mono ?_
          rintro e v2 ⟨u, rfl, fr⟩
          obtain ⟨A2, c2, rfl, _, s2, b2⟩ := fresh_op fr
          have L2 := Lib.hid (L1.out.below b2); have S2 := Lib.hid (S1.out.below b2); have T2 := Lib.hid s2
          clear fr s2 b2 L1 S1
          have SL := Lib.hid (SLL.out k hk32); have SB := Lib.hid (SBB.out k)
          obtain ⟨sg, hsg⟩ : ∃ x, lsigN I seed i k xs = x := ⟨_, rfl⟩
          rw [hsg] at SL SB S2 T2 ⊢
          clear hsg
          go_wp2_with fail
          refine (same_texts sg sg A1 A2 _ _ c1 c2 v2 SL.out rfl S2.out T2.out SB.out SB.out).mono ?_
          rintro e v3 ⟨rfl, rfl⟩
          rw [show decide (sg = sg) = true from decide_eq_true rfl]
          clear S2 T2 SL SB
          go_wp2_with fail
          refine (SZ.out v2 L2.out.bel).mono ?_
          rintro e v4 ⟨rfl, b4⟩
          have L4 := Lib.hid (L2.out.below b4)
          clear b4 L2
          go_upto_region 23 with (fail)
          clear hke
          by_cases hq0 : q < 0
          · go_wp2_with fail
            refine (SLO.out v4 hq0 L4.out).mono ?_
            rintro e v5 ⟨rfl, rfl⟩
            go_upto_region 29 with (fail)
            go_wp2_with fail
            refine (TO.out _ L4.out.bel).mono ?_
            rintro e v9 ⟨rfl, b9⟩
            have L9 := Lib.hid (L4.out.below b9)
            clear b9
            go_wp2_with fail
            go_ret
            exact ⟨by simp, L9.out.bel⟩
          · by_cases hq3 : 32 ≤ q
            · have nq : 0 ≤ q := by omega
              go_wp2_with fail
              refine (SHI.out v4 hq3 L4.out).mono ?_
              rintro e v5 ⟨rfl, rfl⟩
              go_upto_region 29 with (fail)
              go_wp2_with fail
              refine (TO.out _ L4.out.bel).mono ?_
              rintro e v9 ⟨rfl, b9⟩
              have L9 := Lib.hid (L4.out.below b9)
              clear b9
              go_wp2_with fail
              go_ret
              exact ⟨by simp, L9.out.bel⟩
            · obtain ⟨qq, rfl⟩ : ∃ n : Nat, q = (n : Int) := ⟨q.toNat, by omega⟩
              have n1 : (0 : Int) ≤ (qq : Int) := by omega
              have n2 : (qq : Int) < 32 := by omega
              go_wp2_with fail
              refine (SG.out v4 qq (by omega) L4.out).mono ?_
              rintro e v5 ⟨u, rfl, o5, st5, b5⟩
              obtain ⟨A5, c5, rfl, _, s5⟩ := sr_own o5
              have L5 := Lib.hid (L4.out.but b5 st5)
              clear o5 st5 b5 s5 L4
              go_upto_region 29 with (fail)
              go_wp2_with fail
              refine (TO.out _ L5.out.bel).mono ?_
              rintro e v9 ⟨rfl, b9⟩
              have L9 := Lib.hid (L5.out.below b9)
              clear b9
              go_wp2_with fail
              go_ret
              exact ⟨by simp, L9.out.bel⟩
        · by_cases hr6 : 63 < r
          · have nr : (1 : Int) ≤ r := by omega
            have nr2 : ¬ (r < 64) := by omega
            have NHI1 := Lib.hid (NHI.out wr _ _ _ LJ.out hr6)
            clear hr1 hr6 ND NHI NLO RNG TL
            go_wp2_with fail
            refine NHI1.out.mono ?_
            rintro e v1 ⟨rfl, b1⟩
            have L1 := Lib.hid ((LJ.out.below b1).below (below_boxH v1 (u8s z32)))
            have H1 := Lib.hid (show Blk ((v1.alloc (.cells (u8s z32).toArray 24)).setRow v1.heap.size (u8s z32).toArray) v1.heap.size 24 (u8s z32) from (Blk.new v1 24 (u8s z32)).setRow (u8s z32))
            clear b1 LJ
            have Z2 := Lib.hid (Blk.new v1 24 (u8s z32))
            go_upto_region 17 with ((with_reducible refine store_blk 24 (.tmp 18) (.tmp 82) v1.heap.size 24 (u8s z32) (u8s z32) rfl rfl ?_ ?_ ?_ ?_ ?_ ?_ ?_); exact Z2.out; exact hash_lenL _ rfl; exact size32 _ rfl; exact u8s_one _; exact rfl; exact rfl)
            clear Z2
            refine world_is (fun Y => LA w Y gs g gx I seed v i ∧ Blk Y v1.heap.size 24 (u8s z32)) ⟨L1.out, H1.out⟩ ?_
            rintro Y ⟨ly, hy⟩
            obtain ⟨gh, hgh⟩ : ∃ x, v1.heap.size = x := ⟨_, rfl⟩
            rw [hgh] at hy ⊢
            have LY := Lib.hid ly; have HY := Lib.hid hy
            clear ly hy hgh L1 H1
            have ne := NE.out
            go_upto_region 19 with ((with_reducible refine load_blk_g 24 (.tmp 18) gh 24 (u8s z32) _ ?_ rfl ?_ Tryz.underlying24 ?_ ?_ ?_ ?_); kernel_rfl; exact HY.out; exact rfl; exact z32_size; exact rfl)
            clear nr ne NE HY
            skip
            go_wp2_with fail
            try simp only [hke]
            refine (SG.out Y k hk32 LY.out).mono ?_
            rintro e v1 ⟨u, rfl, o1, st1, b1⟩
            obtain ⟨A1, c1, rfl, _, s1⟩ := sr_own o1
            have L1 := Lib.hid (LY.out.but b1 st1); have S1 := Lib.hid s1
            clear o1 st1 b1 s1 LY
            go_wp2_with fail
            refine (RG.out v1 k hk32 L1.out).mono ?_
            rintro e v2 ⟨u, rfl, fr⟩
            obtain ⟨A2, c2, rfl, _, s2, b2⟩ := fresh_op fr
            have L2 := Lib.hid (L1.out.below b2); have S2 := Lib.hid (S1.out.below b2); have T2 := Lib.hid s2
            clear fr s2 b2 L1 S1
            have SL := Lib.hid (SLL.out k hk32); have SB := Lib.hid (SBB.out k)
            obtain ⟨sg, hsg⟩ : ∃ x, lsigN I seed i k xs = x := ⟨_, rfl⟩
            rw [hsg] at SL SB S2 T2 ⊢
            clear hsg
            go_wp2_with fail
            refine (same_texts sg sg A1 A2 _ _ c1 c2 v2 SL.out rfl S2.out T2.out SB.out SB.out).mono ?_
            rintro e v3 ⟨rfl, rfl⟩
            rw [show decide (sg = sg) = true from decide_eq_true rfl]
            clear S2 T2 SL SB
            go_wp2_with fail
            refine (SZ.out v2 L2.out.bel).mono ?_
            rintro e v4 ⟨rfl, b4⟩
            have L4 := Lib.hid (L2.out.below b4)
            clear b4 L2
            go_upto_region 23 with (fail)
            clear hke
            by_cases hq0 : q < 0
            · go_wp2_with fail
              refine (SLO.out v4 hq0 L4.out).mono ?_
              rintro e v5 ⟨rfl, rfl⟩
              go_upto_region 29 with (fail)
              go_wp2_with fail
              refine (TO.out _ L4.out.bel).mono ?_
              rintro e v9 ⟨rfl, b9⟩
              have L9 := Lib.hid (L4.out.below b9)
              clear b9
              go_wp2_with fail
              go_ret
              exact ⟨by simp, L9.out.bel⟩
            · by_cases hq3 : 32 ≤ q
              · have nq : 0 ≤ q := by omega
                go_wp2_with fail
                refine (SHI.out v4 hq3 L4.out).mono ?_
                rintro e v5 ⟨rfl, rfl⟩
                go_upto_region 29 with (fail)
                go_wp2_with fail
                refine (TO.out _ L4.out.bel).mono ?_
                rintro e v9 ⟨rfl, b9⟩
                have L9 := Lib.hid (L4.out.below b9)
                clear b9
                go_wp2_with fail
                go_ret
                exact ⟨by simp, L9.out.bel⟩
              · obtain ⟨qq, rfl⟩ : ∃ n : Nat, q = (n : Int) := ⟨q.toNat, by omega⟩
                have n1 : (0 : Int) ≤ (qq : Int) := by omega
                have n2 : (qq : Int) < 32 := by omega
                go_wp2_with fail
                refine (SG.out v4 qq (by omega) L4.out).mono ?_
                rintro e v5 ⟨u, rfl, o5, st5, b5⟩
                obtain ⟨A5, c5, rfl, _, s5⟩ := sr_own o5
                have L5 := Lib.hid (L4.out.but b5 st5)
                clear o5 st5 b5 s5 L4
                go_upto_region 29 with (fail)
                go_wp2_with fail
                refine (TO.out _ L5.out.bel).mono ?_
                rintro e v9 ⟨rfl, b9⟩
                have L9 := Lib.hid (L5.out.below b9)
                clear b9
                go_wp2_with fail
                go_ret
                exact ⟨by simp, L9.out.bel⟩
          · obtain ⟨rr, rfl⟩ : ∃ n : Nat, r = (n : Int) := ⟨r.toNat, by omega⟩
            have nr : (1 : Int) ≤ (rr : Int) := by omega
            have nr2 : (rr : Int) < 64 := by omega
            have ND1 := Lib.hid (ND.out wr _ _ _ LJ.out rr (by omega) (by omega))
            have TL1 := Lib.hid (TL.out rr (by omega))
            obtain ⟨T, hT⟩ : ∃ x, tnode I seed i rr = x := ⟨_, rfl⟩
            rw [hT] at ND1 TL1
            clear hT hr1 hr6 ND NHI NLO RNG TL NE
            go_wp2_with fail
            refine ND1.out.mono ?_
            rintro e v1 ⟨rfl, st1, b1⟩
            have L1 := Lib.hid ((LJ.out.but b1 st1).below (below_boxH v1 (u8s T)))
            clear st1 b1 LJ ND1
            have Z2 := Lib.hid (Blk.new v1 24 (u8s z32))
            go_upto_region 17 with ((with_reducible refine store_blk 24 (.tmp 18) (.tmp 82) v1.heap.size 24 (u8s z32) (u8s T) rfl rfl ?_ ?_ ?_ ?_ ?_ ?_ ?_); exact Z2.out; exact hash_lenL _ TL1.out; exact size32 _ TL1.out; exact u8s_one _; exact rfl; exact rfl)
            clear Z2
            refine world_is (fun Y => LA w Y gs g gx I seed v i) L1.out ?_
            rintro Y ly
            have LY := Lib.hid ly
            clear ly L1 TL1
            go_upto_region 19 with (fail)
            clear nr nr2
            skip
            go_wp2_with fail
            try simp only [hke]
            refine (SG.out Y k hk32 LY.out).mono ?_
            rintro e v1 ⟨u, rfl, o1, st1, b1⟩
            obtain ⟨A1, c1, rfl, _, s1⟩ := sr_own o1
            have L1 := Lib.hid (LY.out.but b1 st1); have S1 := Lib.hid s1
            clear o1 st1 b1 s1 LY
            go_wp2_with fail
            refine (RG.out v1 k hk32 L1.out).mono ?_
            rintro e v2 ⟨u, rfl, fr⟩
            obtain ⟨A2, c2, rfl, _, s2, b2⟩ := fresh_op fr
            have L2 := Lib.hid (L1.out.below b2); have S2 := Lib.hid (S1.out.below b2); have T2 := Lib.hid s2
            clear fr s2 b2 L1 S1
            have SL := Lib.hid (SLL.out k hk32); have SB := Lib.hid (SBB.out k)
            obtain ⟨sg, hsg⟩ : ∃ x, lsigN I seed i k xs = x := ⟨_, rfl⟩
            rw [hsg] at SL SB S2 T2 ⊢
            clear hsg
            go_wp2_with fail
            refine (same_texts sg sg A1 A2 _ _ c1 c2 v2 SL.out rfl S2.out T2.out SB.out SB.out).mono ?_
            rintro e v3 ⟨rfl, rfl⟩
            rw [show decide (sg = sg) = true from decide_eq_true rfl]
            clear S2 T2 SL SB
            go_wp2_with fail
            refine (SZ.out v2 L2.out.bel).mono ?_
            rintro e v4 ⟨rfl, b4⟩
            have L4 := Lib.hid (L2.out.below b4)
            clear b4 L2
            go_upto_region 23 with (fail)
            clear hke
            by_cases hq0 : q < 0
            · go_wp2_with fail
              refine (SLO.out v4 hq0 L4.out).mono ?_
              rintro e v5 ⟨rfl, rfl⟩
              go_upto_region 29 with (fail)
              go_wp2_with fail
              refine (TO.out _ L4.out.bel).mono ?_
              rintro e v9 ⟨rfl, b9⟩
              have L9 := Lib.hid (L4.out.below b9)
              clear b9
              go_wp2_with fail
              go_ret
              exact ⟨by simp, L9.out.bel⟩
            · by_cases hq3 : 32 ≤ q
              · have nq : 0 ≤ q := by omega
                go_wp2_with fail
                refine (SHI.out v4 hq3 L4.out).mono ?_
                rintro e v5 ⟨rfl, rfl⟩
                go_upto_region 29 with (fail)
                go_wp2_with fail
                refine (TO.out _ L4.out.bel).mono ?_
                rintro e v9 ⟨rfl, b9⟩
                have L9 := Lib.hid (L4.out.below b9)
                clear b9
                go_wp2_with fail
                go_ret
                exact ⟨by simp, L9.out.bel⟩
              · obtain ⟨qq, rfl⟩ : ∃ n : Nat, q = (n : Int) := ⟨q.toNat, by omega⟩
                have n1 : (0 : Int) ≤ (qq : Int) := by omega
                have n2 : (qq : Int) < 32 := by omega
                go_wp2_with fail
                refine (SG.out v4 qq (by omega) L4.out).mono ?_
                rintro e v5 ⟨u, rfl, o5, st5, b5⟩
                obtain ⟨A5, c5, rfl, _, s5⟩ := sr_own o5
                have L5 := Lib.hid (L4.out.but b5 st5)
                clear o5 st5 b5 s5 L4
                go_upto_region 29 with (fail)
                go_wp2_with fail
                refine (TO.out _ L5.out.bel).mono ?_
                rintro e v9 ⟨rfl, b9⟩
                have L9 := Lib.hid (L5.out.below b9)
                clear b9
                go_wp2_with fail
                go_ret
                exact ⟨by simp, L9.out.bel⟩
end Go.Proofs.YtigbnjgmdgkgjaaGreatDoor
