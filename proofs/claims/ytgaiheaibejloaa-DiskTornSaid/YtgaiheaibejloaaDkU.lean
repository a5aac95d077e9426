/-
  DiskTorn walked.
-/
import Derived.Test.YtgaiheaibejloaaDkT
namespace Go.Proofs.Ytgaiheaibejloaa
open Go Go.RowKit Go.Maps Go.ChangeMaps Go.MapKept Sh

theorem mod_sD (m : Nat) (hm : 0 < m) (hm2 : m ≤ 1000) (n : Int) : ∃ k : Nat, k < m ∧ wrap64 ((IntKind.u64.wrap n).tmod (m : Int)) = (k : Int) := by
  have h0 : 0 ≤ IntKind.u64.wrap n := by simp [IntKind.wrap, IntKind.bits, IntKind.signed]; omega
  rw [Int.tmod_eq_emod_of_nonneg h0]
  generalize IntKind.u64.wrap n = x at *
  have h3 : 0 ≤ x % (m : Int) := Int.emod_nonneg _ (by omega)
  have h4 : x % (m : Int) < (m : Int) := Int.emod_lt_of_pos _ (by omega)
  refine ⟨(x % (m : Int)).toNat, by omega, ?_⟩
  generalize x % (m : Int) = y at *
  unfold wrap64
  omega
section
variable {w0 w w' : World} {g bs bm k n : Nat} {S : Nat → List Nat} {M : Nat → Option (List Nat)}
theorem mix_rep (q a b : Nat) (hq : q ≤ 64) : mix q (List.replicate 64 b) (List.replicate 64 a) = List.replicate q b ++ List.replicate (64 - q) a := by
  unfold mix
  rw [List.take_replicate, List.drop_replicate, Nat.min_eq_left hq]
theorem mix_at (q a b i : Nat) (hq : q ≤ 64) (hi : i < 64) : (u8s (mix q (List.replicate 64 b) (List.replicate 64 a)))[i]? = some (.int .u8 (((if i < q then b else a) : Nat) : Int)) := by
  rw [mix_rep q a b hq, u8s_get _ _ (by simp; omega)]
  by_cases h : i < q
  · rw [gt_app_left (by simpa using h), if_pos h]
    simp [gt, List.getD_eq_getElem?_getD, h]
  · rw [gt_app_right (by simp; omega), if_neg h, List.length_replicate]
    simp [gt, List.getD_eq_getElem?_getD, show i - q < 64 - q by omega]
def twoL (K : Nat) (j : Nat) : Int := if j = 0 then (K : Int) else -1
theorem two_in (K : Nat) (hK : K ≤ 20) (w : World) (bs : Nat) (hb : bs < w.heap.size) : InN (w.alloc (.cells #[.int .i64 (K : Int), .int .i64 (-1)] 3)) (some ⟨w.heap.size, 0, none⟩) 2 (twoL K) bs := fun j hj => by
  have hb2 := Blk.new w 3 [.int .i64 (K : Int), .int .i64 (-1)]
  refine ⟨w.heap.size, 0, rfl, hb2.lt, by omega, ?_, ?_⟩
  · rw [Nat.zero_add]
    refine (hb2.cell j).trans ?_
    have : j = 0 ∨ j = 1 := by omega
    rcases this with rfl | rfl <;> rfl
  · unfold twoL InI
    split <;> omega
theorem two_keep (K r : Nat) (hr : r < K) : keepB (twoL K) 2 r = false := by
  unfold keepB twoL
  simp [List.range_succ]
  omega
set_option maxRecDepth 100000 in
set_option maxHeartbeats 4000000 in
theorem torn_t (a b : Nat) (x y z : Int) (ha : a < 256) (hb : b < 256) (w : World) : Calls Try.prog 3 #[.int .u8 (a : Int), .int .u8 (b : Int), .int .i64 x, .int .i64 y, .int .i64 z] w fun e w' => e = .returned (.bool true) ∧ Below w.heap.size w w' := by
  obtain ⟨K, hK0, hK1, hre⟩ : ∃ K : Nat, 0 < K ∧ K ≤ 20 ∧ wrap64 (1 + wrap64 ((IntKind.u64.wrap y).tmod 20)) = (K : Int) := by
    obtain ⟨r, hr, hre⟩ := mod_sD 20 (by decide) (by decide) y
    have hre' : wrap64 ((IntKind.u64.wrap y).tmod 20) = (r : Int) := hre
    refine ⟨r + 1, by omega, by omega, ?_⟩
    rw [hre']
    unfold wrap64
    omega
  have NW := Lib.hid (wNew K (by omega) (Below.refl w.heap.size w))
  have mk : ∀ W, (Instr.makeSlice 26 (.int .i64 64) (.int .i64 64)).run Try.prog W = .ok (.slice (some ⟨W.heap.size, 0, none⟩) 64 64) (W.alloc (.cells (u8s zeroL).toArray 5)) := fun W => make_bytes 64 (by decide) W
  have k1 : (K : Int) ≤ 20 := by omega
  have HK0 := Lib.hid hK0
  clear hK0 hK1
  go_enter Try.func3, Try.ntmps3
  go_upto_region 2 with (fail)
  rw [hre]
  clear hre
  go_upto_region 5 with ((go_at_call 7; refine NW.out.mono ?_; rintro e w1 ⟨g, bs, bm, rfl, d1, _, _, _, _⟩))
  have D1 := Lib.hid d1
  clear d1 NW
  go_cut [14, 15] (fun s14 s15 wx => ∃ gx gy : Nat, s14 = .slice (some ⟨gx, 0, none⟩) 64 64 ∧ s15 = .slice (some ⟨gy, 0, none⟩) 64 64 ∧ gx ≠ gy ∧ Blk wx gx 5 (u8s zeroL) ∧ Blk wx gy 5 (u8s zeroL) ∧ Below w1.heap.size w1 wx ∧ w1.heap.size ≤ gx ∧ w1.heap.size ≤ gy)
  case first =>
    have W2 := Lib.hid (fun (V : World) => show Blk ((V.alloc (.cells (u8s zeroL).toArray 5)).alloc (.cells (u8s zeroL).toArray 5)) V.heap.size 5 (u8s zeroL) ∧ Blk ((V.alloc (.cells (u8s zeroL).toArray 5)).alloc (.cells (u8s zeroL).toArray 5)) (V.heap.size + 1) 5 (u8s zeroL) from ⟨(Blk.new V _ _).alloc _, Blk.new2 V _ _ _⟩)
    have B2 := Lib.hid (show Below w1.heap.size w1 (((w1.alloc (.cells (u8s zeroL).toArray 5)).alloc (.cells (u8s zeroL).toArray 5)).drew) from (((Below.refl _ _).alloc (Nat.le_refl _) _).alloc (by simp) _).drew)
    refine wp_region_held (S := fun _ => True) (by kernel_rfl) ?_
    change wpAnyH _ _ _ _ _ _ _ _ w1.drew
    have s0 : True := trivial
    refine wpAnyH_ready (rs := [0, 1]) (by kernel_rfl) (by simp) ?_
    refine AllReadyH.cons rfl (fun K hK => ?_) (AllReadyH.cons rfl (fun K hK => ?_) AllReadyH.nil)
    · skip
      go_simp
      refine hK.out _ _ trivial (fun _ => ?_)
      clear hK K
      refine wpAnyH_take (i := 2) (v := ?_) rfl (by kernel_rfl) (by kernel_rfl) (by kernel_rfl) (fun _ _ _ h => h) (Or.inl ⟨by kernel_rfl, ?_⟩) s0 ?_
      rotate_left 1
      · (intro w hS; clear hS; go_simp; try (with_reducible rfl))
      refine wpAnyH_ready (rs := [1]) (by kernel_rfl) (by simp) ?_
      refine AllReadyH.cons rfl (fun K hK => ?_) AllReadyH.nil
      rw [if_pos (by kernel_rfl)]
      go_simp
      refine hK.out _ _ trivial (fun _ => ?_)
      clear hK K
      refine wpAnyH_take (i := 3) (v := ?_) rfl (by kernel_rfl) (by kernel_rfl) (by kernel_rfl) (fun _ _ _ h => h) (Or.inl ⟨by kernel_rfl, ?_⟩) s0 ?_
      rotate_left 1
      · (intro w hS; clear hS; go_simp; try (with_reducible rfl))
      refine wpAnyH_done (by kernel_rfl) ?_ _
      go_simp
      go_wp2_with fail
      go_meet
      exact ⟨w1.heap.size, w1.heap.size + 1, rfl, rfl, by omega, (W2.out w1).1.drew, (W2.out w1).2.drew, B2.out, Nat.le_refl _, Nat.le_succ _⟩
    · skip
      go_simp
      refine hK.out _ _ trivial (fun _ => ?_)
      clear hK K
      refine wpAnyH_ready (rs := [0]) (by kernel_rfl) (by simp) ?_
      refine AllReadyH.cons rfl (fun K hK => ?_) AllReadyH.nil
      rw [if_pos (by kernel_rfl)]
      go_simp
      refine hK.out _ _ trivial (fun _ => ?_)
      clear hK K
      refine wpAnyH_take (i := 2) (v := ?_) rfl (by kernel_rfl) (by kernel_rfl) (by kernel_rfl) (fun _ _ _ h => h) (Or.inl ⟨by kernel_rfl, ?_⟩) s0 ?_
      rotate_left 1
      · (intro w hS; clear hS; go_simp; try (with_reducible rfl))
      refine wpAnyH_take (i := 3) (v := ?_) rfl (by kernel_rfl) (by kernel_rfl) (by kernel_rfl) (fun _ _ _ h => h) (Or.inl ⟨by kernel_rfl, ?_⟩) s0 ?_
      rotate_left 1
      · (intro w hS; clear hS; go_simp; try (with_reducible rfl))
      refine wpAnyH_done (by kernel_rfl) ?_ _
      go_simp
      go_wp2_with fail
      go_meet
      exact ⟨w1.heap.size + 1, w1.heap.size, rfl, rfl, by omega, (W2.out w1).2.drew, (W2.out w1).1.drew, B2.out, Nat.le_succ _, Nat.le_refl _⟩
  case rest =>
    obtain ⟨gx, gy, rfl, rfl, hxy, bx, by_, bl, lx, ly⟩ := hcut
    have D2 := Lib.hid (D1.out.below bl)
    have lg := D1.out.dk.b.lt; have ls := D1.out.dk.s.lt; have lm := D1.out.dk.m.lt
    have BX := Lib.hid bx; have BY := Lib.hid by_
    clear bl bx by_ D1
    have lw := D2.out.g0; have lw1 : w.heap.size ≤ w1.heap.size := by omega
    go_wp2_with fail
    go_loopw [16] (fun s16 wr => ∃ i : Nat, i ≤ 64 ∧ s16 = .int .i64 (i : Int) ∧ DW w wr g bs bm K 0 (fun _ => zeroL) (fun _ => none) ∧ Blk wr gx 5 (u8s (fillL i a)) ∧ Blk wr gy 5 (u8s (fillL i b))) (fun s _ => 64 - (intOf s).toNat)
    case atStart => exact ⟨0, by omega, rfl, D2.out, BX.out, BY.out⟩
    case round =>
      obtain ⟨i, hi, rfl, d3, bx3, by3⟩ := hrel
      have D3 := Lib.hid d3; have BX3 := Lib.hid bx3; have BY3 := Lib.hid by3
      clear d3 bx3 by3 D2 BX BY
      by_cases hlt : i < 64
      · have i1 : (i : Int) < 64 := by omega
        obtain ⟨vx, cx⟩ : ∃ v, wr.cell? ⟨gx, i, none⟩ = some v := by rw [BX3.out.cell]; exact ⟨_, List.getElem?_eq_getElem (by rw [u8s_length, fillL_length a (by omega)]; exact hlt)⟩
        have fx := BX3.out.frozen i
        have D4 := D3.out.farSet (x := gx) (by omega) (by omega) (by omega) (by omega) i (.int .u8 (a : Int))
        have BX4 := BX3.out.store i (.int .u8 (a : Int))
        rw [u8s_set, fillL_set a hlt] at BX4
        have BY4 := BY3.out.far (p := ⟨gx, i, none⟩) (fun e => hxy e.symm) (.int .u8 (a : Int))
        obtain ⟨W4, hW4⟩ : ∃ z, wr.setCell ⟨gx, i, none⟩ (.int .u8 (a : Int)) = z := ⟨_, rfl⟩
        rw [hW4] at D4 BX4 BY4
        obtain ⟨vy, cy⟩ : ∃ v, W4.cell? ⟨gy, i, none⟩ = some v := by rw [BY4.cell]; exact ⟨_, List.getElem?_eq_getElem (by rw [u8s_length, fillL_length b (by omega)]; exact hlt)⟩
        have fy := BY4.frozen i
        have BY5 := BY4.store i (.int .u8 (b : Int))
        rw [u8s_set, fillL_set b hlt] at BY5
        have HY5 := Lib.hid BY5; have HX5 := Lib.hid (BX4.far (p := ⟨gy, i, none⟩) hxy (.int .u8 (b : Int)))
        have D5 := Lib.hid (D4.farSet (x := gy) (by omega) (by omega) (by omega) (by omega) i (.int .u8 (b : Int)))
        rw [← hW4] at cy fy HY5 HX5 D5
        clear D4 BX4 BY4 BY5 hW4 D3 BX3 BY3
        go_wp2_with fail
        go_roundw
        case rel => exact ⟨i + 1, hlt, by go_num, D5.out, HX5.out, HY5.out⟩
        case measure => simp [intOf]; omega
      · obtain rfl : i = 64 := by omega
        rw [fillL_full] at BX3 BY3
        clear hlt
        obtain ⟨r, hr, hre⟩ := mod_sD K HK0.out (by omega) z
        go_upto_region 11 with (fail)
        rw [hre]
        clear hre
        obtain ⟨XA, hXA⟩ : ∃ l, List.replicate 64 a = l := ⟨_, rfl⟩
        obtain ⟨XB, hXB⟩ : ∃ l, List.replicate 64 b = l := ⟨_, rfl⟩
        rw [hXA] at BX3; rw [hXB] at BY3
        have HXA := Lib.hid hXA; have HXB := Lib.hid hXB
        have LA := Lib.hid (show XA.length = 64 by rw [← hXA]; simp)
        have LB := Lib.hid (show XB.length = 64 by rw [← hXB]; simp)
        have W1 := Lib.hid (wWrite r (some ⟨gx, 0, none⟩) 64 64 XA hr (by decide) LA.out BX3.out.sr (by rw [← hXA]; exact rep_bytes ha 64) (by decide) D3.out)
        rw [pad_full LA.out] at W1
        have HBB := Lib.hid (show Bytes XB by rw [← hXB]; exact rep_bytes hb 64)
        have HR := Lib.hid hr
        clear hXA hXB BX3 hr
        go_upto_region 13 with (go_at_call 8; refine W1.out.mono ?_; rintro e w4 ⟨rfl, d4, k4⟩)
        have BY4 := Lib.hid (D3.out.dk.far BY3.out (by decide) k4)
        have SY := Lib.hid (wSync d4)
        have D4 := Lib.hid d4
        clear d4 k4 W1 D3 BY3
        go_upto_region 14 with (go_at_call 9; refine SY.out.mono ?_; rintro e w5 ⟨rfl, d5, k5⟩)
        have BY5 := Lib.hid (D4.out.dk.far BY4.out (by decide) k5)
        obtain ⟨S1, hS1⟩ : ∃ f, isS (fun _ => zeroL) (upd (fun _ => none) r (some XA)) = f := ⟨_, rfl⟩
        rw [hS1] at d5
        have HS1 := Lib.hid (show S1 r = XA by rw [← hS1]; unfold isS; rw [upd_same]; rfl)
        have W2 := Lib.hid (wWrite r (some ⟨gy, 0, none⟩) 64 64 XB HR.out (by decide) LB.out BY5.out.sr HBB.out (by decide) d5)
        rw [pad_full LB.out] at W2
        clear hS1 d5 k5 SY D4 BY4
        go_upto_region 16 with (first
          | (go_at_call 8; refine W2.out.mono ?_; rintro e w6 ⟨rfl, d6, _⟩; have D6 := Lib.hid d6; have DI := Lib.hid (dDirty_t (by decide) d6.dk); rw [dlN_one XB r K HR.out] at DI; clear d6)
          | (go_at_call 10; refine DI.out.mono ?_; rintro e w7 ⟨v7, rfl, ho7, hb7⟩; obtain ⟨A7, c7, rfl, _⟩ := own_form ho7; have D7 := Lib.hid (D6.out.below hb7); clear ho7 hb7))
        have CR := Lib.hid (wCrash (w := w7.alloc (.cells #[.int .i64 (K : Int), .int .i64 (-1)] 3)) (some ⟨w7.heap.size, 0, none⟩) 2 2 (twoL K) (r : Int) x (two_in K (by omega) w7 bs D7.out.dk.s.lt) (by decide) ⟨by omega, by have := HR.out; omega⟩ (D7.out.below ((Below.refl _ _).alloc (Nat.le_refl _) _)))
        obtain ⟨q, hq⟩ : ∃ z, clampN x = z := ⟨_, rfl⟩
        have hq1 := clampN_cast x
        rw [hq] at CR hq1
        have HQ := Lib.hid (show q ≤ 64 by rw [← hq]; exact clampN_le x)
        obtain ⟨S3, hS3⟩ : ∃ f, crS S1 (upd (fun _ => none) r (some XB)) (keepB (twoL K) 2) (r : Int) q = f := ⟨_, rfl⟩
        have HS3 := Lib.hid (show S3 r = mix q XB XA by
          rw [← hS3]
          unfold crS svS
          rw [if_pos rfl, upd_same]
          unfold kpS
          rw [two_keep K r HR.out, HS1.out]
          rfl)
        rw [hS3] at CR
        clear hS3 hq D6 DI W2 BY5
        go_upto_region 17 with (go_at_call 11; refine CR.out.mono ?_; rintro e w8 ⟨rfl, d8, _⟩)
        have RD := Lib.hid (dRead_t r HR.out d8.dk)
        have he8 : isS S3 (fun _ => none) r = mix q XB XA := by unfold isS; exact HS3.out
        rw [he8] at RD
        have D8 := Lib.hid d8
        clear d8 CR D7 he8
        go_upto_region 19 with (go_at_call 12; refine RD.out.mono ?_; rintro e w9 ⟨rfl, bk9, hb9⟩)
        have D9 := Lib.hid (D8.out.below hb9)
        have BK9 := Lib.hid bk9
        clear bk9 hb9 RD D8
        have hq2 : max 0 (min x 64) = (q : Int) := by omega
        rw [hq2]
        have CZ := Lib.hid (fun i (hi : i < 64) => show w9.cell? ⟨w8.heap.size, i, none⟩ = some (.int .u8 (((if i < q then b else a) : Nat) : Int)) by
          rw [BK9.out.cell, ← HXA.out, ← HXB.out]
          exact mix_at q a b i HQ.out hi)
        have q64 : (q : Int) ≤ 64 := by have := HQ.out; omega
        have TD := Lib.hid (dtold_t w9)
        clear hq1 hq2 BK9 HXA HXB LA LB HBB HR HS1 HS3 HQ
        go_wp2_with fail
        go_loopw [21] (fun s21 wr => ∃ i : Nat, i ≤ 64 ∧ s21 = .int .i64 (i : Int) ∧ wr = w9) (fun s _ => 64 - (intOf s).toNat)
        case atStart => exact ⟨0, by omega, rfl, rfl⟩
        case round =>
          obtain ⟨i, hi, rfl, rfl⟩ := hrel
          by_cases hlt : i < 64
          · have i1 : (i : Int) < 64 := by omega
            have cz := CZ.out i hlt
            by_cases hiq : i < q
            · have i2 : (i : Int) < (q : Int) := by omega
              rw [if_pos hiq] at cz
              go_wp2_with fail
              go_roundw
              case rel => exact ⟨i + 1, by omega, by go_num, trivial⟩
              case measure => simp [intOf]; omega
            · have i2 : ¬ (i : Int) < (q : Int) := by omega
              have i3 : (q : Int) ≤ (i : Int) := by omega
              rw [if_neg hiq] at cz
              go_wp2_with fail
              go_roundw
              case rel => exact ⟨i + 1, by omega, by go_num, trivial⟩
              case measure => simp [intOf]; omega
          · obtain rfl : i = 64 := by omega
            clear hlt
            go_wp2_with (first
              | (go_at_call 13; refine TD.out.mono ?_; rintro e w10 ⟨rfl, b10⟩; have DI := Lib.hid (wDirty0 (by decide) (D9.out.below b10)); clear b10)
              | (go_at_call 10; refine DI.out.mono ?_; rintro e w11 ⟨A11, c11, rfl, d11, _⟩; have BE := Lib.hid d11.bel; clear d11))
            go_ret
            exact ⟨rfl, BE.out⟩
end
end Go.Proofs.Ytgaiheaibejloaa
