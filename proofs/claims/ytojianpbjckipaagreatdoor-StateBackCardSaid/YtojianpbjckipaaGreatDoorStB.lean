/-
  StateBack walked.
-/
import Derived.Test.YtojianpbjckipaaGreatDoorStU
import Derived.Deep.CutBlock
namespace Go.Proofs.YtojianpbjckipaaGreatDoor
open Go Go.RowKit Sh

set_option maxRecDepth 100000 in
set_option maxHeartbeats 8000000 in
theorem sback_t (A : Option Addr) (n c : Nat) (F : Nat → Av) (at_ : Int) (z : Nat) (w : World) (hn : n ≤ 9223372036854775807) (hA : AW w A n F) (hq : ∀ j, j < n → InRq (F j).r.r) (hz : z < 256) (hu : UT w) (hk : KAt w) :
    Calls Tryz.prog 4 #[.slice A n c, .int .i64 at_, .int .u8 (z : Int)] w fun e w' => e = .returned (.bool true) ∧ Below w.heap.size w w' := by
  have HA := Lib.hid hA; have HQ := Lib.hid hq; have HU := Lib.hid hu; have HK := Lib.hid hk; have HG := Lib.hid hk.lt; have HZ := Lib.hid hz
  clear hA hq hu hk hz
  go_enter Tryz.func4, Tryz.ntmps4
  go_wp2_with fail
  refine (New_t 15 15 w).mono ?_
  rintro e w2 ⟨rfl, b2⟩
  have B2 := Lib.hid b2
  have Z2 := Lib.hid (Blk.new w2 29 zSp)
  obtain ⟨x0, hx0⟩ : ∃ x, nsp 15 15 0 1 2 3 = x := ⟨_, rfl⟩
  have P0 : x0.sp = newS 15 15 := by rw [← hx0]; exact nsp_sp 15 15
  have hl0 : x0.last.length = 4 := by rw [← hx0]; rfl
  have PB0 := Lib.hid (show PB w ((w2.alloc (.cells zSp.toArray 29)).setRow w2.heap.size (sv x0).toArray) w2.heap.size x0 from
    ⟨(Blk.new w2 29 zSp).setRow (sv x0), by rw [← hx0]; exact sf_new _ _ _ _ _ _ _ _, by rw [P0]; exact Op15.new.may, by rw [P0]; exact in_new 15 15, B2.out.size, below_setRow (B2.out.alloc B2.out.size _) B2.out.size _⟩)
  have FX0 := Lib.hid (sv_size x0 hl0); have FO0 := Lib.hid (sv_one x0); have SL0 := Lib.hid (sv_len x0 hl0)
  rw [hx0]
  clear b2 B2 hx0 hl0 P0
  go_upto_region 2 with ((with_reducible refine at_op (.store 29 (.tmp 7) (.tmp 24)) rfl ?_); go_must (refine store_blk 29 (.tmp 7) (.tmp 24) w2.heap.size 29 _ (sv x0) rfl rfl Z2.out SL0.out.symm FX0.out FO0.out rfl rfl ?_))
  change Code.wp _ _ _ _ ((w2.alloc (.cells zSp.toArray 29)).setRow w2.heap.size (sv x0).toArray)
  obtain ⟨V2, hV2⟩ : ∃ V, (w2.alloc (.cells zSp.toArray 29)).setRow w2.heap.size (sv x0).toArray = V := ⟨_, rfl⟩
  rw [hV2] at PB0 ⊢
  obtain ⟨g, hg⟩ : ∃ g, w2.heap.size = g := ⟨_, rfl⟩
  rw [hg] at PB0 ⊢
  clear hV2 hg Z2 FX0 FO0 SL0
  go_upto_block 0 with (fail)
  go_cut [8] from 25 to 55 (fun _ wx => ∃ x, PB w wx g x)
  case first =>
    go_wp2_with fail
    go_loopw [8, 9] (fun s t wr => ∃ (i : Nat) (now : Int) (x : Spv), i ≤ n ∧ (i : Int) ≤ 40 ∧ s = .int .i64 now ∧ t = .int .i64 (i : Int) ∧ now ≤ 20 * (i : Int) ∧ 0 ≤ now ∧ PB w wr g x) (fun _ t _ => n - (intOf t).toNat)
    case atStart => exact ⟨0, 0, x0, by omega, by omega, rfl, rfl, by omega, by omega, PB0.out⟩
    case round =>
      clear PB0
      obtain ⟨j, now, x, hj, hj40, rfl, rfl, hn20, hn0, px⟩ := hrel
      have PX := Lib.hid px; have HN20 := Lib.hid hn20
      clear px
      by_cases hlt : j < n
      · by_cases hm : (j : Int) < 40
        · obtain ⟨b, o, rfl, hbl, rg0, cd0⟩ := HA.out.read hlt
          have rg := rows_below rg0 PX.out.bel hbl
          have cd := (PX.out.bel.cell (p := ⟨b, o + j * 7 + 6, none⟩) hbl).trans cd0
          clear rg0 cd0
          have j1 : (j : Int) < (n : Int) := by omega
          have n800 : now ≤ 800 := by omega
          obtain ⟨y, hy⟩ : ∃ y, F j = y := ⟨_, rfl⟩
          have HRY := Lib.hid (show RvW w y.r by rw [← hy]; exact HA.out.r j hlt)
          have HQY := Lib.hid (show InRq y.r.r by rw [← hy]; exact HQ.out j hlt)
          rw [hy] at rg cd
          obtain ⟨k, hk, hke⟩ := mod_s 20 (by decide) (by decide) y.d
          rw [show ((20 : Nat) : Int) = 20 from rfl] at hke
          have k1 : (k : Int) < 20 := by omega
          have RG := Lib.hid rg; have HBL := Lib.hid hbl
          have HK20 := Lib.hid (show now + (k : Int) ≤ 20 * ((j + 1 : Nat) : Int) ∧ (j : Int) + 1 ≤ 40 ∧ 0 ≤ now + (k : Int) from ⟨by have := HN20.out; omega, by omega, by omega⟩)
          clear hy rg hbl hn20 hk
          go_upto_region 7 with (fail)
          obtain ⟨now', hnw⟩ : ∃ z, now + (k : Int) = z := ⟨_, rfl⟩
          rw [hnw] at HK20 ⊢
          have FXU := Lib.hid (sv_size x PX.out.sf.l4); have FR := Lib.hid (rv_size y.r)
          obtain ⟨U, hU⟩ : ∃ U, wr.drew = U := ⟨_, rfl⟩
          have BU := Lib.hid (show Below wr.heap.size wr U from by rw [← hU]; exact (Below.refl _ _).drew)
          have PU := Lib.hid (PX.out.below BU.out)
          have HBW := Lib.hid (show b < wr.heap.size from Nat.lt_of_lt_of_le HBL.out PX.out.bel.size)
          have G1 : U.rangeAt b (o + j * 7) (rv y.r) := rows_below RG.out BU.out HBW.out
          have HBU := Lib.hid (show b < U.heap.size from Nat.lt_of_lt_of_le HBW.out BU.out.size)
          have BX := Lib.hid PU.out.box
          have HBG := Lib.hid (show b ≠ g by have := PX.out.ge; have := HBL.out; omega)
          have DO_ := Lib.hid (DoB x now' y.r U PU.out.w PU.out.mx PU.out.inn (HRY.out.below PU.out.bel) HQY.out (HU.out.below PU.out.bel))
          clear hnw PX RG HBL hke k1 cd
          refine wp_region_E (fun Y => Y.rangeAt b (o + j * 7) (rv y.r)) (fun _ => false) (by kernel_rfl) ?_
          change wpAnyE _ _ _ _ _ _ _ _ _ wr.drew
          rw [hU]
          clear hU
          refine wpAnyE_take (i := 1) (v := ?_) rfl (by kernel_rfl) (by kernel_rfl) (by kernel_rfl) (by kernel_rfl) (fun _ _ _ h => h) (Or.inl ⟨by kernel_rfl, ?_⟩) G1 ?_
          rotate_left 1
          · (intro w hS; clear hS; go_simp; try (with_reducible rfl))
          refine wpAnyE_take (i := 2) (v := ?_) rfl (by kernel_rfl) (by kernel_rfl) (by kernel_rfl) (by kernel_rfl) (fun _ _ _ h => h) (Or.inl ⟨by kernel_rfl, ?_⟩) G1 ?_
          rotate_left 1
          · (intro w hS; clear hS; go_simp; try (with_reducible rfl))
          refine wpAnyE_take (i := 3) (v := ?_) rfl (by kernel_rfl) (by kernel_rfl) (by kernel_rfl) (by kernel_rfl) (fun _ _ _ h => h) (Or.inl ⟨by kernel_rfl, ?_⟩) G1 ?_
          rotate_left 1
          · (intro w hS; clear hS; go_simp; try (with_reducible rfl))
          refine wpAnyE_take (i := 4) (v := ?_) rfl (by kernel_rfl) (by kernel_rfl) (by kernel_rfl) (by kernel_rfl) (fun _ _ _ h => h) (Or.inl ⟨by kernel_rfl, ?_⟩) G1 ?_
          rotate_left 1
          · (intro w hS; clear hS; go_simp; try (with_reducible rfl))
          refine wpAnyE_take (i := 5) (v := ?_) rfl (by kernel_rfl) (by kernel_rfl) (by kernel_rfl) (by kernel_rfl) (fun _ _ _ h => h) (Or.inl ⟨by kernel_rfl, ?_⟩) G1 ?_
          rotate_left 1
          · (intro w hS; clear hS; go_simp; try (with_reducible rfl))
          refine wpAnyE_take (i := 6) (v := .agg (rv y.r).toArray) rfl (by kernel_rfl) (by kernel_rfl) (by kernel_rfl) (by kernel_rfl) (fun _ _ _ h => h) (yieldsIf_load_mid (by kernel_rfl) 51 (.tmp 51) rfl b (o + j * 7) (by go_simp) (rv y.r) _ (fun _ h => h) Tryz.underlying51 rfl (FR.out)) G1 ?_
          refine wpAnyE_load (i := 0) (by kernel_rfl) rfl (by kernel_rfl) 29 (.tmp 7) g 29 (sv x) _ rfl BX.out Tryz.underlying29 rfl FXU.out rfl (.inr G1) ?_
          refine wpAnyE_one (i := 7) (by kernel_rfl) rfl (by kernel_rfl) (fun K hK => ?_)
          go_simp
          refine DO_.out.mono ?_
          rintro e w2 ⟨x', R, q, c', rfl, -, -, s', -, m', i', -, -, b'⟩
          have HL4 := Lib.hid (show x'.last.length = 4 from s'.l4)
          have FX2 := Lib.hid (sv_size x' HL4.out); have FO2 := Lib.hid (sv_one x'); have SL2 := Lib.hid (sv_len x' HL4.out); have SL1 := Lib.hid (sv_len x PU.out.sf.l4)
          have S2 := Lib.hid s'; have B2 := Lib.hid b'; have M2 := Lib.hid m'; have I2 := Lib.hid i'
          have BX2 := Lib.hid (BX.out.below b' BX.out.lt)
          have G2 : w2.rangeAt b (o + j * 7) (rv y.r) := rows_below G1 b' HBU.out
          refine hK.out _ _ (.inr G2) ?_
          clear hK K s' b' m' i' DO_ G1 BX
          refine wpAnyE_take (i := 8) (v := ?_) rfl (by kernel_rfl) (by kernel_rfl) (by kernel_rfl) (by kernel_rfl) (fun _ _ _ h => h) (Or.inl ⟨by kernel_rfl, ?_⟩) G2 ?_
          rotate_left 1
          · (intro w hS; clear hS; go_simp; try (with_reducible rfl))
          refine wpAnyE_take (i := 9) (v := ?_) rfl (by kernel_rfl) (by kernel_rfl) (by kernel_rfl) (by kernel_rfl) (fun _ _ _ h => h) (Or.inl ⟨by kernel_rfl, ?_⟩) G2 ?_
          rotate_left 1
          · (intro w hS; clear hS; go_simp; try (with_reducible rfl))
          refine wpAnyE_take (i := 10) (v := ?_) rfl (by kernel_rfl) (by kernel_rfl) (by kernel_rfl) (by kernel_rfl) (fun _ _ _ h => h) (Or.inl ⟨by kernel_rfl, ?_⟩) G2 ?_
          rotate_left 1
          · (intro w hS; clear hS; go_simp; try (with_reducible rfl))
          refine wpAnyE_store (i := 11) (by kernel_rfl) rfl (by kernel_rfl) 29 (.tmp 7) (.tmp 54) g 29 (sv x) (sv x') rfl BX2.out (SL1.out.trans SL2.out.symm) FX2.out FO2.out rfl rfl fun wz rz KZ => ?_
          have RZ := Lib.hid rz
          have P3 := Lib.hid (PU.out.put S2.out M2.out I2.out B2.out KZ RZ.out)
          have G3 : wz.rangeAt b (o + j * 7) (rv y.r) := fun i v hv => by
            exact (KZ.cell (p := ⟨b, o + j * 7 + i, none⟩) (Nat.lt_of_lt_of_le HBU.out B2.out.size) HBG.out).trans (G2 i v hv)
          refine ⟨.inr G3, ?_⟩
          clear G2 G3 KZ rz
          refine wpAnyE_done (by kernel_rfl) ?_ _
          go_simp
          go_wp2_with fail
          exact ⟨⟨j + 1, now', x', hlt, by have := HK20.out.2.1; omega, rfl, by go_num, HK20.out.1, HK20.out.2.2, P3.out⟩, by simp [intOf]; omega⟩
        · have hmf : decide ((j : Int) < 40) = false := decide_eq_false hm
          have j1 : (j : Int) < (n : Int) := by omega
          clear hm
          go_wp2_with fail
          go_meet
          exact ⟨x, PX.out⟩
      · obtain rfl : j = n := by omega
        clear hlt
        go_wp2_with fail
        go_meet
        exact ⟨x, PX.out⟩
  case rest =>
  obtain ⟨x, pb⟩ := hcut
  have P3 := Lib.hid pb
  obtain ⟨w3, hw3⟩ : ∃ W, wc = W := ⟨_, rfl⟩
  rw [hw3] at P3 ⊢
  clear pb hw3 PB0 HA HQ
  have MX := Lib.hid (mayS_iff.2 P3.out.mx)
  have L4 := Lib.hid (show x.sp.last.length = 4 from by show (x.last.map (·.r)).length = 4; rw [List.length_map]; exact P3.out.w.l4)
  have FX := Lib.hid (sv_size x P3.out.w.l4)
  have PY := Lib.hid (SPut_yes x w3 P3.out.w MX.out)
  have FO := Lib.hid (frontS_ok MX.out L4.out P3.out.inn)
  have PBY := Lib.hid (putS_bytes x.sp)
  have LE := Lib.hid (putS_le MX.out L4.out)
  have PO := Lib.hid (putS_pos x.sp)
  have TK := Lib.hid (fun j (hj : j < (putS x.sp).length) => take_noS MX.out L4.out P3.out.inn hj)
  have LG := Lib.hid (longS MX.out L4.out P3.out.inn z)
  have TU := Lib.hid (fun j hj => turnS (j := j) (x := z) MX.out L4.out P3.out.inn hj HZ.out)
  obtain ⟨xs, hxs⟩ : ∃ l, putS x.sp = l := ⟨_, rfl⟩
  rw [hxs] at PY FO PBY LE PO LG
  simp only [hxs] at TK TU
  obtain ⟨L, hL⟩ : ∃ L, xs.length = L := ⟨_, rfl⟩
  rw [hL] at PY LE PO
  simp only [hL] at TK TU
  have HL := Lib.hid hL
  obtain ⟨k, hk, hke⟩ := mod_bigT L PO.out (by have := LE.out; omega) at_
  have HKL := Lib.hid hk; have HKE := Lib.hid hke
  clear hxs hL hk hke
  have KB := Lib.hid P3.out.box
  go_wp2_with ((with_reducible refine load_blk 29 (.tmp 7) g 29 (sv x) _ rfl rfl ?_ Tryz.underlying29 ?_ ?_ ?_ ?_); exact KB.out; exact rfl; exact FX.out; exact rfl)
  refine PY.out.mono ?_
  rintro e w4 ⟨u, rfl, o4, b4⟩
  obtain ⟨ga, c4, rfl, hc4⟩ := own_formT o4 PO.out
  have P4 := Lib.hid (P3.out.below b4); have S4 := Lib.hid (Sr.of_own o4); have HC4 := Lib.hid hc4
  clear o4 b4 hc4 PY P3 KB
  have GT := Lib.hid (SGet_t xs (some ⟨ga, 0, none⟩) L c4 w4 HL.out S4.out PBY.out (by have := LE.out; omega))
  have i2 : ((L : Int) == 0) = false := by rw [beq_eq_false_iff_ne]; have := PO.out; omega
  go_wp2_with fail
  refine GT.out.mono ?_
  rintro e w5 ⟨b5, hh⟩
  rcases hh with ⟨hbad, _⟩ | ⟨_, y, hy, rfl, hyw⟩
  · rw [FO.out.2] at hbad; cases hbad
  have HY := Lib.hid (hy.trans FO.out.1); have P5 := Lib.hid (P4.out.below b5); have S5 := Lib.hid (S4.out.below b5); have YW := Lib.hid hyw
  clear b5 hy hyw GT P4 S4 i2
  have FX_y := Lib.hid (sv_size y YW.out.l4); have FO_y := Lib.hid (sv_one y); have SL_y := Lib.hid (sv_len y YW.out.l4)
  have Z_y := Lib.hid (Blk.new w5 29 [.int .i64 0, .slice none 0 0, .slice none 0 0, .int .i64 0, .int .i64 0, .int .i64 0, .int .i64 0, .int .i64 0, .slice none 0 0, .bool false, .int .i64 0, .int .i64 0, .int .i64 0, .slice none 0 0, .bool false, .int .i64 0, .int .i64 0, .int .i64 0, .slice none 0 0, .bool false, .int .i64 0, .int .i64 0, .int .i64 0, .slice none 0 0, .bool false])
  have KN_y := Lib.hid (KSp.new (w1 := w5) (x := y) YW.out)
  go_upto_region 12 with ((with_reducible refine at_op (.store 29 (.tmp 12) (.tmp 71)) rfl ?_); go_must (refine store_blk 29 (.tmp 12) (.tmp 71) (w5).heap.size 29 _ (sv y) rfl rfl Z_y.out SL_y.out.symm FX_y.out FO_y.out rfl rfl ?_))
  obtain ⟨V5, hV5⟩ : ∃ V, ((w5).alloc (.cells #[.int .i64 0, .slice none 0 0, .slice none 0 0, .int .i64 0, .int .i64 0, .int .i64 0, .int .i64 0, .int .i64 0, .slice none 0 0, .bool false, .int .i64 0, .int .i64 0, .int .i64 0, .slice none 0 0, .bool false, .int .i64 0, .int .i64 0, .int .i64 0, .slice none 0 0, .bool false, .int .i64 0, .int .i64 0, .int .i64 0, .slice none 0 0, .bool false] 29)).setRow (w5).heap.size (sv y).toArray = V := ⟨_, rfl⟩
  rw [hV5] at KN_y ⊢
  have K_y := Lib.hid KN_y.out.1
  have B_y := Lib.hid KN_y.out.2
  clear hV5 KN_y Z_y FO_y SL_y
  obtain ⟨g12, hg12⟩ : ∃ g, (w5).heap.size = g := ⟨_, rfl⟩
  rw [hg12] at K_y ⊢
  clear hg12
  have P6 := Lib.hid (P5.out.below B_y.out); have S6 := Lib.hid (S5.out.below B_y.out)
  have KBy := Lib.hid K_y.out.box; have KB6 := Lib.hid P6.out.box
  have SM := Lib.hid (SpSame_t y x V5 K_y.out.w P6.out.w)
  rw [spS_iff.2 HY.out] at SM
  clear P5 S5 YW B_y
  go_wp2_with (first
    | ((with_reducible refine load_blk_gdO 76 29 (.tmp 12) g12 29 (sv y) _ ?_ ?_ rfl ?_ Tryz.underlying29 ?_ ?_ ?_ ?_); exact rfl; kernel_rfl; exact KBy.out; exact rfl; exact FX_y.out; exact rfl)
    | ((with_reducible refine load_blk_gdO 77 29 (.tmp 7) g 29 (sv x) _ ?_ ?_ rfl ?_ Tryz.underlying29 ?_ ?_ ?_ ?_); exact rfl; kernel_rfl; exact KB6.out; exact rfl; exact FX.out; exact rfl))
  refine SM.out.mono ?_
  rintro e w6 ⟨rfl, b6⟩
  have P7 := Lib.hid (P6.out.below b6); have S7 := Lib.hid (S6.out.below b6)
  clear b6 SM P6 S6 KBy KB6 K_y FX_y HY
  have i2 : ((L : Int) == 0) = false := by rw [beq_eq_false_iff_ne]; have := PO.out; omega
  have i3 : (L : Int) ≠ 0 := by have := PO.out; omega
  have i4 : IntKind.u64.wrap (L : Int) = (L : Int) := IntWalk.u64_in _ (by have := LE.out; omega)
  have hke := HKE.out
  have hs1 := slice_high (P := Tryz.prog) (t := 30) (e := 5) Tryz.underlying30 byte_size (some ⟨ga, 0, none⟩) L c4 .i64 k (by have := HKL.out; have := HC4.out; omega)
  go_wp2_with fail
  clear i2 i3 i4 hs1 hke
  have HTL := Lib.hid (show (xs.take k).length = k by rw [List.length_take, HL.out]; have := HKL.out; omega)
  refine (SGet_t (xs.take k) _ k c4 w6 HTL.out (S7.out.take k) (bytes_take PBY.out k) (by have := LE.out; have := HKL.out; omega)).mono ?_
  rintro e w7 ⟨b7, hh⟩
  rcases hh with ⟨_, rfl⟩ | ⟨hbad, _⟩
  rotate_left 1
  · rw [TK.out k HKL.out] at hbad; cases hbad
  have P8 := Lib.hid (P7.out.below b7); have S8 := Lib.hid (S7.out.below b7)
  obtain ⟨zA, hzA⟩ : ∃ y, gsp 0 0 0 = y := ⟨_, rfl⟩
  have WZA := Lib.hid (show SpW w7 zA from by rw [← hzA]; exact gsp_w 0 0 0 w7)
  rw [hzA]
  clear b7 hzA HTL P7 S7 TK
  have FX_zA := Lib.hid (sv_size zA WZA.out.l4); have FO_zA := Lib.hid (sv_one zA); have SL_zA := Lib.hid (sv_len zA WZA.out.l4)
  have Z_zA := Lib.hid (Blk.new w7 29 [.int .i64 0, .slice none 0 0, .slice none 0 0, .int .i64 0, .int .i64 0, .int .i64 0, .int .i64 0, .int .i64 0, .slice none 0 0, .bool false, .int .i64 0, .int .i64 0, .int .i64 0, .slice none 0 0, .bool false, .int .i64 0, .int .i64 0, .int .i64 0, .slice none 0 0, .bool false, .int .i64 0, .int .i64 0, .int .i64 0, .slice none 0 0, .bool false])
  have KN_zA := Lib.hid (KSp.new (w1 := w7) (x := zA) WZA.out)
  go_upto_region 16 with ((with_reducible refine at_op (.store 29 (.tmp 15) (.tmp 93)) rfl ?_); go_must (refine store_blk 29 (.tmp 15) (.tmp 93) (w7).heap.size 29 _ (sv zA) rfl rfl Z_zA.out SL_zA.out.symm FX_zA.out FO_zA.out rfl rfl ?_))
  obtain ⟨V7, hV7⟩ : ∃ V, ((w7).alloc (.cells #[.int .i64 0, .slice none 0 0, .slice none 0 0, .int .i64 0, .int .i64 0, .int .i64 0, .int .i64 0, .int .i64 0, .slice none 0 0, .bool false, .int .i64 0, .int .i64 0, .int .i64 0, .slice none 0 0, .bool false, .int .i64 0, .int .i64 0, .int .i64 0, .slice none 0 0, .bool false, .int .i64 0, .int .i64 0, .int .i64 0, .slice none 0 0, .bool false] 29)).setRow (w7).heap.size (sv zA).toArray = V := ⟨_, rfl⟩
  rw [hV7] at KN_zA ⊢
  have K_zA := Lib.hid KN_zA.out.1
  have B_zA := Lib.hid KN_zA.out.2
  clear hV7 KN_zA Z_zA FO_zA SL_zA
  obtain ⟨g15, hg15⟩ : ∃ g, (w7).heap.size = g := ⟨_, rfl⟩
  rw [hg15] at K_zA ⊢
  clear hg15
  have P9 := Lib.hid (P8.out.below B_zA.out); have S9 := Lib.hid (S8.out.below B_zA.out)
  clear P8 S8 WZA B_zA K_zA FX_zA
  have SA := Lib.hid (S9.out.below ((Below.refl V7.heap.size V7).alloc (Nat.le_refl _) (.cells #[] 5)))
  have l1 : L ≤ 30000 := LE.out
  go_wp2_with (first
    | ((with_reducible refine at_op (.call { callee := .builtin .append, args := #[.tmp 96, .tmp 97], argTypes := #[30, 30] }) rfl ?_); go_must (refine append_bytes (.tmp 96) (.tmp 97) 30 rfl rfl 5 Tryz.underlying30 byte_info V7.heap.size (.slice (some ⟨V7.heap.size, 0, none⟩) 0 0) 0 [] xs rfl (own_emptyT _ _ (Nat.le_refl _)) (some ⟨ga, 0, none⟩) L c4 rfl HL.out SA.out (by omega) (by simp) ?_); intro v1 w8 a1 a2 a3; have O5 := Lib.hid (own_below (own_zero a1.out) ((Below.refl _ _).alloc (Nat.le_refl _) (.cells #[.int .u8 (z : Int)] 5))); have HB5 := Lib.hid (grown_size a2.out (.cells #[.int .u8 (z : Int)] 5)); have SM5 := Lib.hid (Sr.made [z] w8 5 (0, 0)))
    | ((with_reducible refine at_op (.call { callee := .builtin .append, args := #[.tmp 98, .tmp 100], argTypes := #[30, 30] }) rfl ?_); go_must (refine append_bytes (.tmp 98) (.tmp 100) 30 rfl rfl 5 Tryz.underlying30 byte_info V7.heap.size v1 L xs [z] rfl O5.out (some ⟨w8.heap.size, 0, none⟩) 1 1 rfl rfl SM5.out (by omega) HB5.out ?_); intro v2 w9 a4 a5 a6))
  have bk1 : Below V7.heap.size V7 w8 := ((Below.refl V7.heap.size V7).alloc (Nat.le_refl _) (.cells #[] 5)).grown a2.out (by simp) (fun k e => by have := Option.some.inj e; simp at this; omega)
  have bk : Below V7.heap.size V7 w9 := (bk1.alloc bk1.size _).grown a5.out HB5.out (fun k e => (O5.out.lt k e).1)
  obtain ⟨A2, c3, rfl, _⟩ := own_form a4.out
  have P10 := Lib.hid (P9.out.below bk); have S10 := Lib.hid (S9.out.below bk); have T10 := Lib.hid (Sr.of_own a4.out)
  have AB := Lib.hid (app_bytes PBY.out (one_bytesT z HZ.out))
  have AL := Lib.hid (show (xs ++ [z]).length = L + 1 by rw [List.length_append, HL.out]; rfl)
  clear bk1 bk a1 a2 a3 a4 a5 a6 O5 HB5 SM5 SA P9 S9
  refine (SGet_t (xs ++ [z]) A2 (L + 1) c3 w9 AL.out T10.out AB.out (by omega)).mono ?_
  rintro e w10 ⟨b10, hh⟩
  rcases hh with ⟨_, rfl⟩ | ⟨hbad, _⟩
  rotate_left 1
  · rw [LG.out] at hbad; cases hbad
  have P11 := Lib.hid (P10.out.below b10); have S11 := Lib.hid (S10.out.below b10)
  obtain ⟨zB, hzB⟩ : ∃ y, gsp 0 0 0 = y := ⟨_, rfl⟩
  have WZB := Lib.hid (show SpW w10 zB from by rw [← hzB]; exact gsp_w 0 0 0 w10)
  rw [hzB]
  clear b10 hzB AB AL LG P10 S10 T10
  have FX_zB := Lib.hid (sv_size zB WZB.out.l4); have FO_zB := Lib.hid (sv_one zB); have SL_zB := Lib.hid (sv_len zB WZB.out.l4)
  have Z_zB := Lib.hid (Blk.new w10 29 [.int .i64 0, .slice none 0 0, .slice none 0 0, .int .i64 0, .int .i64 0, .int .i64 0, .int .i64 0, .int .i64 0, .slice none 0 0, .bool false, .int .i64 0, .int .i64 0, .int .i64 0, .slice none 0 0, .bool false, .int .i64 0, .int .i64 0, .int .i64 0, .slice none 0 0, .bool false, .int .i64 0, .int .i64 0, .int .i64 0, .slice none 0 0, .bool false])
  have KN_zB := Lib.hid (KSp.new (w1 := w10) (x := zB) WZB.out)
  go_upto_region 17 with ((with_reducible refine at_op (.store 29 (.tmp 17) (.tmp 103)) rfl ?_); go_must (refine store_blk 29 (.tmp 17) (.tmp 103) (w10).heap.size 29 _ (sv zB) rfl rfl Z_zB.out SL_zB.out.symm FX_zB.out FO_zB.out rfl rfl ?_))
  obtain ⟨V10, hV10⟩ : ∃ V, ((w10).alloc (.cells #[.int .i64 0, .slice none 0 0, .slice none 0 0, .int .i64 0, .int .i64 0, .int .i64 0, .int .i64 0, .int .i64 0, .slice none 0 0, .bool false, .int .i64 0, .int .i64 0, .int .i64 0, .slice none 0 0, .bool false, .int .i64 0, .int .i64 0, .int .i64 0, .slice none 0 0, .bool false, .int .i64 0, .int .i64 0, .int .i64 0, .slice none 0 0, .bool false] 29)).setRow (w10).heap.size (sv zB).toArray = V := ⟨_, rfl⟩
  rw [hV10] at KN_zB ⊢
  have K_zB := Lib.hid KN_zB.out.1
  have B_zB := Lib.hid KN_zB.out.2
  clear hV10 KN_zB Z_zB FO_zB SL_zB
  obtain ⟨g17, hg17⟩ : ∃ g, (w10).heap.size = g := ⟨_, rfl⟩
  rw [hg17] at K_zB ⊢
  clear hg17
  have P12 := Lib.hid (P11.out.below B_zB.out); have S12 := Lib.hid (S11.out.below B_zB.out)
  clear P11 S11 WZB B_zB K_zB FX_zB
  have SA := Lib.hid (S12.out.below ((Below.refl V10.heap.size V10).alloc (Nat.le_refl _) (.cells #[] 5)))
  go_upto_region 20 with ((with_reducible refine at_op (.call { callee := .builtin .append, args := #[.tmp 111, .tmp 112], argTypes := #[30, 30] }) rfl ?_); go_must (refine append_bytes (.tmp 111) (.tmp 112) 30 rfl rfl 5 Tryz.underlying30 byte_info V10.heap.size (.slice (some ⟨V10.heap.size, 0, none⟩) 0 0) 0 [] xs rfl (own_emptyT _ _ (Nat.le_refl _)) (some ⟨ga, 0, none⟩) L c4 rfl HL.out SA.out (by omega) (by simp) ?_); intro v3 w11 a1 a2 a3)
  have bk1 : Below V10.heap.size V10 w11 := ((Below.refl V10.heap.size V10).alloc (Nat.le_refl _) (.cells #[] 5)).grown a2.out (by simp) (fun k e => by have := Option.some.inj e; simp at this; omega)
  have O11 := Lib.hid (own_zero a1.out)
  obtain ⟨gu, c5, rfl, hc5⟩ := own_formT O11.out PO.out
  have B11 := Lib.hid bk1
  clear bk1 a1 a2 a3 SA hc5 S12
  have cj : w11.cell? ⟨gu, k, none⟩ = some (.int .u8 ((gt xs k : Nat) : Int)) := by rw [O11.out.cellAt k (by have := HKL.out; omega), u8s_get _ _ (by rw [HL.out]; exact HKL.out)]
  have fj := O11.out.frozenAt k
  have hxx := xor_u8T (gt xs k) z (PBY.out k) HZ.out
  have i1 : (k : Int) < (L : Int) := by have := HKL.out; omega
  have hke := HKE.out
  go_upto_region 21 with (fail)
  clear cj fj hxx i1 hke
  have TJ := TU.out k HKL.out
  have YL := Lib.hid (show (xs.set k (gt xs k ^^^ z)).length = L by rw [List.length_set, HL.out])
  have YB := Lib.hid (set_bytesT PBY.out k z HZ.out)
  have oy := own_turnT O11.out k (gt xs k ^^^ z)
  have by_ := B11.out.setCell (p := ⟨gu, k, none⟩) (O11.out.lt gu rfl).1 (.int .u8 ((gt xs k ^^^ z : Nat) : Int))
  obtain ⟨ys, hys⟩ : ∃ ys, xs.set k (gt xs k ^^^ z) = ys := ⟨_, rfl⟩
  rw [hys] at TJ YL YB oy
  refine world_at (fun Y => Y.ownsRow V10.heap.size 5 1 (.slice (some ⟨gu, 0, none⟩) L c5) L (u8s ys) ∧ Below V10.heap.size V10 Y) ⟨oy, by_⟩ ?_
  rintro Y ⟨oy, bY⟩
  have P13 := Lib.hid (P12.out.below bY); have S13 := Lib.hid (Sr.of_own oy)
  have TN := Lib.hid TJ.1; have TY := Lib.hid TJ.2
  clear oy bY by_ hys O11 B11 TU HL TJ P12 l1 HKL HKE
  go_wp2_with fail
  refine (SGet_t ys _ L c5 Y YL.out S13.out YB.out (by have := LE.out; omega)).mono ?_
  rintro e w12 ⟨b12, hh⟩
  have P14 := Lib.hid (P13.out.below b12); have S14 := Lib.hid (S13.out.below b12)
  clear P13 S13 b12
  rcases hh with ⟨hno, rfl⟩ | ⟨hyes, y2, hy2, rfl, hyw2⟩
  · have hz0 := TN.out hno
    have e1 : ((z : Int) != 0) = true := by rw [bne_iff_ne]; omega
    obtain ⟨zC, hzC⟩ : ∃ y, gsp 0 0 0 = y := ⟨_, rfl⟩
    have WZC := Lib.hid (show SpW w12 zC from by rw [← hzC]; exact gsp_w 0 0 0 w12)
    rw [hzC]
    clear TN TY hno hz0 hzC
    have FX_zC := Lib.hid (sv_size zC WZC.out.l4); have FO_zC := Lib.hid (sv_one zC); have SL_zC := Lib.hid (sv_len zC WZC.out.l4)
    have Z_zC := Lib.hid (Blk.new w12 29 [.int .i64 0, .slice none 0 0, .slice none 0 0, .int .i64 0, .int .i64 0, .int .i64 0, .int .i64 0, .int .i64 0, .slice none 0 0, .bool false, .int .i64 0, .int .i64 0, .int .i64 0, .slice none 0 0, .bool false, .int .i64 0, .int .i64 0, .int .i64 0, .slice none 0 0, .bool false, .int .i64 0, .int .i64 0, .int .i64 0, .slice none 0 0, .bool false])
    have KN_zC := Lib.hid (KSp.new (w1 := w12) (x := zC) WZC.out)
    go_upto_region 22 with ((with_reducible refine at_op (.store 29 (.tmp 20) (.tmp 126)) rfl ?_); go_must (refine store_blk 29 (.tmp 20) (.tmp 126) (w12).heap.size 29 _ (sv zC) rfl rfl Z_zC.out SL_zC.out.symm FX_zC.out FO_zC.out rfl rfl ?_))
    obtain ⟨V12, hV12⟩ : ∃ V, ((w12).alloc (.cells #[.int .i64 0, .slice none 0 0, .slice none 0 0, .int .i64 0, .int .i64 0, .int .i64 0, .int .i64 0, .int .i64 0, .slice none 0 0, .bool false, .int .i64 0, .int .i64 0, .int .i64 0, .slice none 0 0, .bool false, .int .i64 0, .int .i64 0, .int .i64 0, .slice none 0 0, .bool false, .int .i64 0, .int .i64 0, .int .i64 0, .slice none 0 0, .bool false] 29)).setRow (w12).heap.size (sv zC).toArray = V := ⟨_, rfl⟩
    rw [hV12] at KN_zC ⊢
    have K_zC := Lib.hid KN_zC.out.1
    have B_zC := Lib.hid KN_zC.out.2
    clear hV12 KN_zC Z_zC FO_zC SL_zC
    obtain ⟨g20, hg20⟩ : ∃ g, (w12).heap.size = g := ⟨_, rfl⟩
    rw [hg20] at K_zC ⊢
    clear hg20
    have P15 := Lib.hid (P14.out.below B_zC.out)
    clear P14 S14 WZC B_zC K_zC FX_zC
    go_wp2_with fail
    refine (told9_t V12 (HK.out.below P15.out.bel HG.out)).mono ?_
    rintro e w13 ⟨rfl, b13⟩
    have B13 := Lib.hid (P15.out.bel.trans (b13.mono P15.out.bel.size))
    clear b13 P15
    go_wp2_with fail
    go_ret
    exact ⟨rfl, B13.out⟩
  · obtain ⟨t1, t2, t3⟩ := TY.out hyes
    have T1 := Lib.hid (show spMay y2.sp = true by rw [hy2]; exact t1); have T2 := Lib.hid (show putS y2.sp = ys by rw [hy2]; exact t2); have T3 := Lib.hid (show spS y2.sp x.sp = decide (z = 0) by rw [hy2]; exact t3)
    have YW2 := Lib.hid hyw2
    clear TN TY hyes t1 t2 t3 hy2 hyw2
    have FX_y2 := Lib.hid (sv_size y2 YW2.out.l4); have FO_y2 := Lib.hid (sv_one y2); have SL_y2 := Lib.hid (sv_len y2 YW2.out.l4)
    have Z_y2 := Lib.hid (Blk.new w12 29 [.int .i64 0, .slice none 0 0, .slice none 0 0, .int .i64 0, .int .i64 0, .int .i64 0, .int .i64 0, .int .i64 0, .slice none 0 0, .bool false, .int .i64 0, .int .i64 0, .int .i64 0, .slice none 0 0, .bool false, .int .i64 0, .int .i64 0, .int .i64 0, .slice none 0 0, .bool false, .int .i64 0, .int .i64 0, .int .i64 0, .slice none 0 0, .bool false])
    have KN_y2 := Lib.hid (KSp.new (w1 := w12) (x := y2) YW2.out)
    go_upto_region 22 with ((with_reducible refine at_op (.store 29 (.tmp 20) (.tmp 126)) rfl ?_); go_must (refine store_blk 29 (.tmp 20) (.tmp 126) (w12).heap.size 29 _ (sv y2) rfl rfl Z_y2.out SL_y2.out.symm FX_y2.out FO_y2.out rfl rfl ?_))
    obtain ⟨V12, hV12⟩ : ∃ V, ((w12).alloc (.cells #[.int .i64 0, .slice none 0 0, .slice none 0 0, .int .i64 0, .int .i64 0, .int .i64 0, .int .i64 0, .int .i64 0, .slice none 0 0, .bool false, .int .i64 0, .int .i64 0, .int .i64 0, .slice none 0 0, .bool false, .int .i64 0, .int .i64 0, .int .i64 0, .slice none 0 0, .bool false, .int .i64 0, .int .i64 0, .int .i64 0, .slice none 0 0, .bool false] 29)).setRow (w12).heap.size (sv y2).toArray = V := ⟨_, rfl⟩
    rw [hV12] at KN_y2 ⊢
    have K_y2 := Lib.hid KN_y2.out.1
    have B_y2 := Lib.hid KN_y2.out.2
    clear hV12 KN_y2 Z_y2 FO_y2 SL_y2
    obtain ⟨g20, hg20⟩ : ∃ g, (w12).heap.size = g := ⟨_, rfl⟩
    rw [hg20] at K_y2 ⊢
    clear hg20
    have P15 := Lib.hid (P14.out.below B_y2.out); have S15 := Lib.hid (S14.out.below B_y2.out)
    have KBz := Lib.hid K_y2.out.box
    have PZ := Lib.hid (SPut_yes y2 V12 K_y2.out.w T1.out)
    rw [T2.out, YL.out] at PZ
    clear P14 S14 YW2 B_y2 T1
    go_wp2_with ((with_reducible refine load_blk 29 (.tmp 20) g20 29 (sv y2) _ rfl rfl ?_ Tryz.underlying29 ?_ ?_ ?_ ?_); exact KBz.out; exact rfl; exact FX_y2.out; exact rfl)
    refine PZ.out.mono ?_
    rintro e w13 ⟨u, rfl, o13, b13⟩
    obtain ⟨A6, c6, rfl, _⟩ := own_form o13
    have P16 := Lib.hid (P15.out.below b13); have S16 := Lib.hid (S15.out.below b13); have D16 := Lib.hid (Sr.of_own o13); have K16 := Lib.hid (K_y2.out.below b13)
    clear o13 b13 P15 S15 PZ K_y2 KBz
    go_wp2_with fail
    refine (told9_t w13 (HK.out.below P16.out.bel HG.out)).mono ?_
    rintro e w14 ⟨rfl, b14⟩
    have P17 := Lib.hid (P16.out.below b14); have S17 := Lib.hid (S16.out.below b14); have D17 := Lib.hid (D16.out.below b14); have K17 := Lib.hid (K16.out.below b14)
    clear b14 P16 S16 D16 K16
    go_wp2_with fail
    refine (same_textsT ys ys A6 _ L L c6 c5 w14 YL.out YL.out D17.out S17.out YB.out YB.out).mono ?_
    rintro e w15 ⟨rfl, rfl⟩
    rw [decide_eq_true rfl]
    have KBz := Lib.hid K17.out.box; have KB7 := Lib.hid P17.out.box
    have SM := Lib.hid (SpSame_t y2 x w14 K17.out.w P17.out.w)
    rw [T3.out] at SM
    clear S17 D17 T3
    go_wp2_with (first
      | ((with_reducible refine load_blk_gdO 155 29 (.tmp 20) g20 29 (sv y2) _ ?_ ?_ rfl ?_ Tryz.underlying29 ?_ ?_ ?_ ?_); exact rfl; kernel_rfl; exact KBz.out; exact rfl; exact FX_y2.out; exact rfl)
      | ((with_reducible refine load_blk_gdO 156 29 (.tmp 7) g 29 (sv x) _ ?_ ?_ rfl ?_ Tryz.underlying29 ?_ ?_ ?_ ?_); exact rfl; kernel_rfl; exact KB7.out; exact rfl; exact FX.out; exact rfl))
    refine SM.out.mono ?_
    rintro e w16 ⟨rfl, b16⟩
    have B16 := Lib.hid (P17.out.bel.trans (b16.mono P17.out.bel.size))
    clear b16 SM P17 K17 KBz KB7
    obtain ⟨zb, hzb⟩ : ∃ b, decide (z = 0) = b := ⟨_, rfl⟩
    have ez : ((z : Int) == 0) = zb := by rw [← hzb, Bool.eq_iff_iff, beq_iff_eq, decide_eq_true_iff]; omega
    rw [hzb]
    clear hzb
    go_wp2_with fail
    go_ret
    exact ⟨by simp, B16.out⟩
end Go.Proofs.YtojianpbjckipaaGreatDoor
