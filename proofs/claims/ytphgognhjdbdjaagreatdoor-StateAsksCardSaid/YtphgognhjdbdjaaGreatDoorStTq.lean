/-
  LAYER 9: told.
-/
import Derived.Test.YtphgognhjdbdjaaGreatDoorStJq
import Derived.Test.YtphgognhjdbdjaaGreatDoorStDq
import Derived.Test.YtphgognhjdbdjaaGreatDoorStEq
import Derived.Test.YtphgognhjdbdjaaGreatDoorSpVq
namespace Go.Proofs.YtphgognhjdbdjaaGreatDoor
open Go Go.RowKit Sh

def nS9 : Sp := newS 15 7
theorem may9 : spMay nS9 = true := by kernel_rfl
theorem len9 : (putS nS9).length = 52 := by kernel_rfl
theorem may9' : spMay { nS9 with rd := 16 } = false := by kernel_rfl
theorem ok_nil : okS [] = false := by kernel_rfl
theorem in9 : InS nS9 := by
  refine ⟨fun i hi => ?_, fun i hi => ?_, fun r hr f hf => ?_⟩
  · cases hi
  · cases hi
  · simp only [nS9, newS, List.mem_cons, List.not_mem_nil, or_false] at hr
    rcases hr with rfl | rfl | rfl | rfl <;> cases hf
theorem gsp_w (a b c : Int) (W : World) : SpW W (gsp a b c) :=
  ⟨RowL.nil, (fun y hy => by cases hy), RowL.nil, (fun y hy => by cases hy), rfl, (fun y hy => by
    simp only [gsp, List.mem_cons, List.not_mem_nil, or_false] at hy
    rcases hy with rfl | rfl | rfl | rfl <;> exact ⟨fun j hj => absurd hj (Nat.not_lt_zero j), Nat.zero_le _⟩), Nat.zero_le _, Nat.zero_le _⟩
theorem sv_nou8 {x : Spv} {i : Nat} {z : Int} (h : (sv x)[i]? = some (.int .u8 z)) : False := by
  have hm := List.mem_of_getElem? h
  unfold sv at hm
  rcases List.mem_append.1 hm with hm | hm
  · simp only [List.mem_cons, List.not_mem_nil, or_false] at hm
    rcases hm with h | h | h | h | h <;> cases h
  · obtain ⟨y, _, hy⟩ := List.mem_flatMap.1 hm
    simp only [pv, List.mem_cons, List.not_mem_nil, or_false] at hy
    rcases hy with h | h | h | h | h <;> cases h
set_option maxRecDepth 100000 in
set_option maxHeartbeats 2000000 in
theorem told9_t (w : World) (hk : KAt w) : Calls Tryz.prog 12 #[] w fun e w' => e = .returned (.bool true) ∧ Below w.heap.size w w' := by
  have HK := Lib.hid hk; have HG := Lib.hid hk.lt
  clear hk
  go_enter Tryz.func12, Tryz.ntmps12
  go_wp2_with fail
  refine (New_t 15 7 w).mono ?_
  rintro e w1 ⟨rfl, b1⟩
  have B1 := Lib.hid b1
  obtain ⟨x0, hx0⟩ : ∃ x, nsp 15 7 0 1 2 3 = x := ⟨_, rfl⟩
  have P0 := Lib.hid (show x0.sp = nS9 by rw [← hx0]; exact nsp_sp 15 7)
  have W0 := Lib.hid (show SpW w1 x0 by rw [← hx0]; exact nsp_w 15 7 0 1 2 3 w1)
  have RD0 := Lib.hid (show x0.rd = 15 by rw [← hx0]; kernel_rfl)
  rw [hx0]
  clear b1 hx0
  have FX_x0 := Lib.hid (sv_size x0 W0.out.l4); have FO_x0 := Lib.hid (sv_one x0); have SL_x0 := Lib.hid (sv_len x0 W0.out.l4)
  have Z_x0 := Lib.hid (Blk.new w1 29 [.int .i64 0, .slice none 0 0, .slice none 0 0, .int .i64 0, .int .i64 0, .int .i64 0, .int .i64 0, .int .i64 0, .slice none 0 0, .bool false, .int .i64 0, .int .i64 0, .int .i64 0, .slice none 0 0, .bool false, .int .i64 0, .int .i64 0, .int .i64 0, .slice none 0 0, .bool false, .int .i64 0, .int .i64 0, .int .i64 0, .slice none 0 0, .bool false])
  have KN_x0 := Lib.hid (KSp.new (w1 := w1) (x := x0) W0.out)
  go_upto_region 2 with ((with_reducible refine at_op (.store 29 (.tmp 1) (.tmp 12)) rfl ?_); go_must (refine store_blk 29 (.tmp 1) (.tmp 12) (w1).heap.size 29 _ (sv x0) rfl rfl Z_x0.out SL_x0.out.symm FX_x0.out FO_x0.out rfl rfl ?_))
  obtain ⟨V1, hV1⟩ : ∃ V, ((w1).alloc (.cells #[.int .i64 0, .slice none 0 0, .slice none 0 0, .int .i64 0, .int .i64 0, .int .i64 0, .int .i64 0, .int .i64 0, .slice none 0 0, .bool false, .int .i64 0, .int .i64 0, .int .i64 0, .slice none 0 0, .bool false, .int .i64 0, .int .i64 0, .int .i64 0, .slice none 0 0, .bool false, .int .i64 0, .int .i64 0, .int .i64 0, .slice none 0 0, .bool false] 29)).setRow (w1).heap.size (sv x0).toArray = V := ⟨_, rfl⟩
  rw [hV1] at KN_x0 ⊢
  have K_x0 := Lib.hid KN_x0.out.1
  have B_x0 := Lib.hid KN_x0.out.2
  clear hV1 KN_x0 Z_x0 FO_x0 SL_x0
  obtain ⟨g1, hg1⟩ : ∃ g, (w1).heap.size = g := ⟨_, rfl⟩
  have G1L := Lib.hid (show w.heap.size ≤ g1 from by rw [← hg1]; exact B1.out.size)
  rw [hg1] at K_x0 ⊢
  clear hg1
  have B2 := Lib.hid (B1.out.trans (B_x0.out.mono B1.out.size))
  clear B1 B_x0 W0
  have KB := Lib.hid K_x0.out.box
  have PY := Lib.hid (SPut_yes x0 V1 K_x0.out.w (by rw [P0.out]; exact may9))
  rw [P0.out] at PY
  have LN := Lib.hid len9
  have FO := Lib.hid (frontS_ok may9 rfl in9)
  have HB := Lib.hid (putS_bytes nS9)
  obtain ⟨xs, hxs⟩ : ∃ l, putS nS9 = l := ⟨_, rfl⟩
  rw [hxs] at PY LN FO HB
  have HXS := Lib.hid hxs
  clear hxs
  go_wp2_with ((with_reducible refine load_blk 29 (.tmp 1) g1 29 (sv x0) _ rfl rfl ?_ Tryz.underlying29 ?_ ?_ ?_ ?_); exact KB.out; exact rfl; exact FX_x0.out; exact rfl)
  refine PY.out.mono ?_
  rintro e w2 ⟨u, rfl, o2, b2⟩
  obtain ⟨A, c, rfl, hc⟩ := own_form o2
  rw [LN.out] at hc ⊢
  have S2 := Lib.hid (Sr.of_own o2); have HC := Lib.hid hc
  have B3 := Lib.hid (B2.out.trans (b2.mono B2.out.size)); have K2 := Lib.hid (K_x0.out.below b2)
  clear o2 b2 PY B2 K_x0 KB hc
  have GT := Lib.hid (SGet_t xs A 52 c w2 LN.out S2.out HB.out (by decide))
  go_wp2_with fail
  refine GT.out.mono ?_
  rintro e w3 ⟨b3, hh⟩
  rcases hh with ⟨hbad, _⟩ | ⟨_, y, hy, rfl, hyw⟩
  · rw [FO.out.2] at hbad; cases hbad
  have HY := Lib.hid (hy.trans FO.out.1)
  have B4 := Lib.hid (B3.out.trans (b3.mono B3.out.size)); have K3 := Lib.hid (K2.out.below b3); have S3 := Lib.hid (S2.out.below b3)
  have YW := Lib.hid hyw
  clear b3 hy hyw GT B3 K2 S2
  have FX_y := Lib.hid (sv_size y YW.out.l4); have FO_y := Lib.hid (sv_one y); have SL_y := Lib.hid (sv_len y YW.out.l4)
  have Z_y := Lib.hid (Blk.new w3 29 [.int .i64 0, .slice none 0 0, .slice none 0 0, .int .i64 0, .int .i64 0, .int .i64 0, .int .i64 0, .int .i64 0, .slice none 0 0, .bool false, .int .i64 0, .int .i64 0, .int .i64 0, .slice none 0 0, .bool false, .int .i64 0, .int .i64 0, .int .i64 0, .slice none 0 0, .bool false, .int .i64 0, .int .i64 0, .int .i64 0, .slice none 0 0, .bool false])
  have KN_y := Lib.hid (KSp.new (w1 := w3) (x := y) YW.out)
  go_upto_region 4 with ((with_reducible refine at_op (.store 29 (.tmp 4) (.tmp 21)) rfl ?_); go_must (refine store_blk 29 (.tmp 4) (.tmp 21) (w3).heap.size 29 _ (sv y) rfl rfl Z_y.out SL_y.out.symm FX_y.out FO_y.out rfl rfl ?_))
  obtain ⟨V3, hV3⟩ : ∃ V, ((w3).alloc (.cells #[.int .i64 0, .slice none 0 0, .slice none 0 0, .int .i64 0, .int .i64 0, .int .i64 0, .int .i64 0, .int .i64 0, .slice none 0 0, .bool false, .int .i64 0, .int .i64 0, .int .i64 0, .slice none 0 0, .bool false, .int .i64 0, .int .i64 0, .int .i64 0, .slice none 0 0, .bool false, .int .i64 0, .int .i64 0, .int .i64 0, .slice none 0 0, .bool false] 29)).setRow (w3).heap.size (sv y).toArray = V := ⟨_, rfl⟩
  rw [hV3] at KN_y ⊢
  have K_y := Lib.hid KN_y.out.1
  have B_y := Lib.hid KN_y.out.2
  clear hV3 KN_y Z_y FO_y SL_y
  obtain ⟨g4, hg4⟩ : ∃ g, (w3).heap.size = g := ⟨_, rfl⟩
  have N14 := Lib.hid (show g1 ≠ g4 from by have := K3.out.box.lt; omega)
  rw [hg4] at K_y ⊢
  clear hg4
  have B5 := Lib.hid (B4.out.trans (B_y.out.mono B4.out.size)); have K4 := Lib.hid (K3.out.below B_y.out); have S4 := Lib.hid (S3.out.below B_y.out)
  clear B4 B_y K3 S3 YW
  have KB := Lib.hid K4.out.box
  have DG := Lib.hid (Digest_yes x0 V3 K4.out.w (by rw [P0.out]; exact may9) (HK.out.below B5.out HG.out))
  rw [P0.out, HXS.out] at DG
  obtain ⟨S, hS⟩ : ∃ S, sum (stM ++ xs) = S := ⟨_, rfl⟩
  have hSl : S.length = 32 := by rw [← hS]; rfl
  rw [hS] at DG
  have HSS := Lib.hid hS; have HSL := Lib.hid hSl
  have HZL := Lib.hid (show (u8s zH).length = (u8s S).length by rw [u8s_length, u8s_length, hSl]; rfl)
  clear hS hSl
  go_wp2_with ((with_reducible refine load_blk 29 (.tmp 1) g1 29 (sv x0) _ rfl rfl ?_ Tryz.underlying29 ?_ ?_ ?_ ?_); exact KB.out; exact rfl; exact FX_x0.out; exact rfl)
  refine DG.out.mono ?_
  rintro e w4 ⟨rfl, b4⟩
  have B6 := Lib.hid (B5.out.trans (b4.mono B5.out.size)); have K5 := Lib.hid (K4.out.below b4); have S5 := Lib.hid (S4.out.below b4); have Y5 := Lib.hid (K_y.out.below b4)
  have ZH := Lib.hid (Blk.new w4 36 (u8s zH))
  have RH := Lib.hid (ZH.out.setRow (u8s S))
  have BH := Lib.hid (below_setRow ((Below.refl w4.heap.size w4).alloc (Nat.le_refl _) (.cells (u8s zH).toArray 36)) (Nat.le_refl _) (u8s S).toArray)
  clear b4 DG B5 K4 S4 K_y KB
  go_upto_region 5 with ((with_reducible refine at_op (.store 36 (.tmp 6) (.tmp 26)) rfl ?_); go_must (refine store_blk 36 (.tmp 6) (.tmp 26) w4.heap.size 36 (u8s zH) (u8s S) rfl rfl ZH.out HZL.out (hash_size _ HSL.out) (u8s_oneD _) rfl rfl ?_))
  obtain ⟨V4, hV4⟩ : ∃ V, (w4.alloc (.cells (u8s zH).toArray 36)).setRow w4.heap.size (u8s S).toArray = V := ⟨_, rfl⟩
  change Code.wp _ _ _ _ ((w4.alloc (.cells (u8s zH).toArray 36)).setRow w4.heap.size (u8s S).toArray)
  rw [hV4] at RH BH ⊢
  obtain ⟨g6, hg6⟩ : ∃ g, w4.heap.size = g := ⟨_, rfl⟩
  have B7 := Lib.hid (B6.out.trans (BH.out.mono B6.out.size)); have K6 := Lib.hid (K5.out.below BH.out); have S6 := Lib.hid (S5.out.below BH.out); have Y6 := Lib.hid (Y5.out.below BH.out)
  have N16 := Lib.hid (show g1 ≠ g6 from by have := K5.out.box.lt; omega)
  rw [hg6] at RH ⊢
  clear hV4 hg6 BH B6 K5 S5 Y5 ZH
  have GN := Lib.hid (SGet_t [] none 0 0 V4 rfl Sr.nil nil_bytes (by decide))
  go_wp2_with fail
  refine GN.out.mono ?_
  rintro e w5 ⟨b5, hh⟩
  rcases hh with ⟨_, rfl⟩ | ⟨hbad, _⟩
  rotate_left 1
  · rw [ok_nil] at hbad; cases hbad
  have B8 := Lib.hid (B7.out.trans (b5.mono B7.out.size)); have K7 := Lib.hid (K6.out.below b5); have S7 := Lib.hid (S6.out.below b5); have Y7 := Lib.hid (Y6.out.below b5); have R7 := Lib.hid (RH.out.below b5 RH.out.lt)
  obtain ⟨z, hz⟩ : ∃ z, gsp 0 0 0 = z := ⟨_, rfl⟩
  have WZ := Lib.hid (show SpW w5 z by rw [← hz]; exact gsp_w 0 0 0 w5)
  rw [hz]
  clear b5 GN B7 K6 S6 Y6 RH hz
  have FX_z := Lib.hid (sv_size z WZ.out.l4); have FO_z := Lib.hid (sv_one z); have SL_z := Lib.hid (sv_len z WZ.out.l4)
  have Z_z := Lib.hid (Blk.new w5 29 [.int .i64 0, .slice none 0 0, .slice none 0 0, .int .i64 0, .int .i64 0, .int .i64 0, .int .i64 0, .int .i64 0, .slice none 0 0, .bool false, .int .i64 0, .int .i64 0, .int .i64 0, .slice none 0 0, .bool false, .int .i64 0, .int .i64 0, .int .i64 0, .slice none 0 0, .bool false, .int .i64 0, .int .i64 0, .int .i64 0, .slice none 0 0, .bool false])
  have KN_z := Lib.hid (KSp.new (w1 := w5) (x := z) WZ.out)
  go_upto_region 6 with ((with_reducible refine at_op (.store 29 (.tmp 8) (.tmp 30)) rfl ?_); go_must (refine store_blk 29 (.tmp 8) (.tmp 30) (w5).heap.size 29 _ (sv z) rfl rfl Z_z.out SL_z.out.symm FX_z.out FO_z.out rfl rfl ?_))
  obtain ⟨V5, hV5⟩ : ∃ V, ((w5).alloc (.cells #[.int .i64 0, .slice none 0 0, .slice none 0 0, .int .i64 0, .int .i64 0, .int .i64 0, .int .i64 0, .int .i64 0, .slice none 0 0, .bool false, .int .i64 0, .int .i64 0, .int .i64 0, .slice none 0 0, .bool false, .int .i64 0, .int .i64 0, .int .i64 0, .slice none 0 0, .bool false, .int .i64 0, .int .i64 0, .int .i64 0, .slice none 0 0, .bool false] 29)).setRow (w5).heap.size (sv z).toArray = V := ⟨_, rfl⟩
  rw [hV5] at KN_z ⊢
  have K_z := Lib.hid KN_z.out.1
  have B_z := Lib.hid KN_z.out.2
  clear hV5 KN_z Z_z FO_z SL_z
  obtain ⟨g8, hg8⟩ : ∃ g, (w5).heap.size = g := ⟨_, rfl⟩
  rw [hg8] at K_z ⊢
  clear hg8
  have B9 := Lib.hid (B8.out.trans (B_z.out.mono B8.out.size)); have K8 := Lib.hid (K7.out.below B_z.out); have S8 := Lib.hid (S7.out.below B_z.out); have Y8 := Lib.hid (Y7.out.below B_z.out); have R8 := Lib.hid (R7.out.below B_z.out R7.out.lt)
  clear B8 B_z K7 S7 Y7 R7 WZ K_z
  have c3 := (sv_cells K8.out.box).2.2.2.1
  have fz := K8.out.box.frozen 3
  rw [RD0.out] at c3
  have KC := Lib.hid ((Kept.refl (fun k => k = g1) V5).setCell (p := ⟨g1, 3, none⟩) (.inl rfl) (.int .i64 16))
  have BC := Lib.hid (B9.out.setCell (p := ⟨g1, 3, none⟩) G1L.out (.int .i64 16))
  have BX := Lib.hid (show Blk (V5.setCell ⟨g1, 3, none⟩ (.int .i64 16)) g1 29 (sv { x0 with rd := 16 }) from K8.out.box.store 3 _)
  have XE : x0.its = [] ∧ x0.wts = [] := by
    have h := P0.out
    have h1 := congrArg Sp.its h; have h2 := congrArg Sp.wts h
    exact ⟨List.map_eq_nil_iff.1 h1, List.map_eq_nil_iff.1 h2⟩
  have XW := Lib.hid (show SpW (V5.setCell ⟨g1, 3, none⟩ (.int .i64 16)) { x0 with rd := 16 } from by
    have h := K8.out.w
    refine ⟨fun j y hy => ?_, fun y hy => ?_, fun j y hy => ?_, fun y hy => ?_, h.l4, fun y hy => ?_, h.n, h.m⟩
    · have hy2 : x0.its[j]? = some y := hy
      rw [XE.1] at hy2; cases hy2
    · have hy2 : y ∈ x0.its := hy
      rw [XE.1] at hy2; cases hy2
    · have hy2 : x0.wts[j]? = some y := hy
      rw [XE.2] at hy2; cases hy2
    · have hy2 : y ∈ x0.wts := hy
      rw [XE.2] at hy2; cases hy2
    · have hy2 : y.r ∈ x0.sp.last := List.mem_map_of_mem hy
      rw [P0.out] at hy2
      simp only [nS9, newS, List.mem_cons, List.not_mem_nil, or_false] at hy2
      have ht : y.r.t = [] := by rcases hy2 with e | e | e | e <;> rw [e]
      rw [ht]
      exact ⟨fun j hj => absurd hj (Nat.not_lt_zero j), Nat.zero_le _⟩)
  have MN := Lib.hid (show spMay ({ x0 with rd := 16 } : Spv).sp = false from by
    rw [show ({ x0 with rd := 16 } : Spv).sp = { x0.sp with rd := 16 } from rfl, P0.out]
    exact may9')
  have Y9 := Lib.hid (Y8.out.box.kept KC.out (fun e => N14.out e.symm)); have R9 := Lib.hid (R8.out.kept KC.out (fun e => N16.out e.symm))
  have YWR := Lib.hid (show y.wr = 7 from by have h := congrArg Sp.wr HY.out; exact h.trans (by kernel_rfl))
  go_upto_region 7 with (fail)
  clear c3 fz XE
  obtain ⟨V6, hV6⟩ : ∃ V, V5.setCell ⟨g1, 3, none⟩ (.int .i64 16) = V := ⟨_, rfl⟩
  have S9 := Lib.hid (show Sr V6 A xs from by
    rw [← hV6]
    exact S8.out.kept KC.out (fun hx a ha e => by
      obtain ⟨b', o', e', h1, h2⟩ := S8.out hx
      rw [ha] at e'
      injection e' with e'
      subst e'
      dsimp only at e
      subst e
      have h3 := h2 0 hx
      rw [K8.out.box.cell] at h3
      exact sv_nou8 h3))
  rw [hV6] at BX BC XW Y9 R9 ⊢
  clear hV6 KC K8 Y8 R8 S8 B9
  obtain ⟨x1, hx1⟩ : ∃ x : Spv, { x0 with rd := 16 } = x := ⟨_, rfl⟩
  rw [hx1] at BX XW MN
  have FX1 := Lib.hid (sv_size x1 XW.out.l4)
  have PN := Lib.hid (SPut_no x1 V6 XW.out MN.out)
  clear hx1
  go_wp2_with ((with_reducible refine load_blk 29 (.tmp 1) g1 29 (sv x1) _ rfl rfl ?_ Tryz.underlying29 ?_ ?_ ?_ ?_); exact BX.out; exact rfl; exact FX1.out; exact rfl)
  refine PN.out.mono ?_
  rintro e w6 ⟨rfl, b6⟩
  have B10 := Lib.hid (BC.out.trans (b6.mono BC.out.size)); have Y10 := Lib.hid (Y9.out.below b6 Y9.out.lt); have R10 := Lib.hid (R9.out.below b6 R9.out.lt); have S10 := Lib.hid (S9.out.below b6)
  clear b6 PN BX XW MN Y9 R9 S9 BC
  go_upto_region 8 with (fail)
  obtain ⟨U, hU⟩ : ∃ U, w6.drew = U := ⟨_, rfl⟩
  have BU := Lib.hid (show Below w6.heap.size w6 U from by rw [← hU]; exact (Below.refl _ _).drew)
  have SU := Lib.hid (S10.out.below BU.out); have BW := Lib.hid (B10.out.trans (BU.out.mono B10.out.size))
  have s0 : U.cell? ⟨g4, 4, none⟩ = some (.int .i64 7) ∧ Blk U g6 36 (u8s S) := ⟨by rw [← YWR.out]; exact (sv_cells (Y10.out.below BU.out Y10.out.lt)).2.2.2.2, R10.out.below BU.out R10.out.lt⟩
  have eqh := fun w => eqIn_hash S HSL.out w
  have FH := Lib.hid (hash_size S HSL.out)
  have OF := Lib.hid (OfB_t xs A 52 c U LN.out HC.out SU.out HB.out (by decide) (HK.out.below BW.out HG.out))
  rw [HSS.out] at OF
  refine wp_region_held (S := fun Y => Y.cell? ⟨g4, 4, none⟩ = some (.int .i64 7) ∧ Blk Y g6 36 (u8s S)) (by kernel_rfl) ?_
  change wpAnyH _ _ _ _ _ _ _ _ w6.drew
  rw [hU]
  clear hU
  refine wpAnyH_take (i := 0) (v := ?_) rfl (by kernel_rfl) (by kernel_rfl) (by kernel_rfl) (fun _ _ _ h => h) (Or.inl ⟨by kernel_rfl, ?_⟩) s0 ?_
  rotate_left 1
  · (intro w hS; clear hS; go_simp; try (with_reducible rfl))
  refine wpAnyH_take (i := 1) (v := ?_) rfl (by kernel_rfl) (by kernel_rfl) (by kernel_rfl) (fun _ _ _ h => h) (Or.inl ⟨by kernel_rfl, ?_⟩) s0 ?_
  rotate_left 1
  · (intro w hS; clear hS; go_simp; try (with_reducible rfl))
  refine wpAnyH_take (i := 2) (v := ?_) rfl (by kernel_rfl) (by kernel_rfl) (by kernel_rfl) (fun _ _ _ h => h) (Or.inl ⟨by kernel_rfl, ?_⟩) s0 ?_
  rotate_left 1
  · (intro w hS; clear hS; go_simp; try (with_reducible rfl))
  refine wpAnyH_take (i := 3) (v := ?_) rfl (by kernel_rfl) (by kernel_rfl) (by kernel_rfl) (fun _ _ _ h => h) (Or.inl ⟨by kernel_rfl, ?_⟩) s0 ?_
  rotate_left 1
  · (intro w hS; clear hS; go_simp; try (with_reducible rfl))
  refine wpAnyH_take (i := 4) (v := ?_) rfl (by kernel_rfl) (by kernel_rfl) (by kernel_rfl) (fun _ _ _ h => h) (Or.inl ⟨by kernel_rfl, ?_⟩) s0 ?_
  rotate_left 1
  · (intro w hS; clear hS; go_simp; try (with_reducible rfl))
  refine wpAnyH_take (i := 5) (v := ?_) rfl (by kernel_rfl) (by kernel_rfl) (by kernel_rfl) (fun _ _ _ h => h) (Or.inl ⟨by kernel_rfl, ?_⟩) s0 ?_
  rotate_left 1
  · (intro w hS; clear hS; go_simp; try (with_reducible rfl))
  refine wpAnyH_take (i := 6) (v := ?_) rfl (by kernel_rfl) (by kernel_rfl) (by kernel_rfl) (fun _ _ _ h => h) (Or.inl ⟨by kernel_rfl, ?_⟩) s0 ?_
  rotate_left 1
  · (intro w hS; clear hS; go_simp; try (with_reducible rfl))
  refine wpAnyH_take (i := 7) (v := ?_) rfl (by kernel_rfl) (by kernel_rfl) (by kernel_rfl) (fun _ _ _ h => h) (Or.inl ⟨by kernel_rfl, ?_⟩) s0 ?_
  rotate_left 1
  · (intro w hS; clear hS; go_simp; try (with_reducible rfl))
  refine wpAnyH_take (i := 8) (v := ?_) rfl (by kernel_rfl) (by kernel_rfl) (by kernel_rfl) (fun _ _ _ h => h) (Or.inl ⟨by kernel_rfl, ?_⟩) s0 ?_
  rotate_left 1
  · (intro w hS; clear hS; go_simp; try (with_reducible rfl))
  refine wpAnyH_take (i := 9) (v := ?_) rfl (by kernel_rfl) (by kernel_rfl) (by kernel_rfl) (fun _ _ _ h => h) (Or.inl ⟨by kernel_rfl, ?_⟩) s0 ?_
  rotate_left 1
  · (intro w hS; clear hS; go_simp; try (with_reducible rfl))
  refine wpAnyH_take (i := 10) (v := ?_) rfl (by kernel_rfl) (by kernel_rfl) (by kernel_rfl) (fun _ _ _ h => h) (Or.inl ⟨by kernel_rfl, ?_⟩) s0 ?_
  rotate_left 1
  · (intro w hS; clear hS; go_simp; try (with_reducible rfl))
  refine wpAnyH_take (i := 11) (v := ?_) rfl (by kernel_rfl) (by kernel_rfl) (by kernel_rfl) (fun _ _ _ h => h) (Or.inl ⟨by kernel_rfl, ?_⟩) s0 ?_
  rotate_left 1
  · (intro w hS; clear hS; go_simp; try (with_reducible rfl))
  refine wpAnyH_take (i := 12) (v := ?_) rfl (by kernel_rfl) (by kernel_rfl) (by kernel_rfl) (fun _ _ _ h => h) (Or.inl ⟨by kernel_rfl, ?_⟩) s0 ?_
  rotate_left 1
  · (intro w hS; clear hS; go_simp; try (with_reducible rfl))
  refine wpAnyH_take (i := 13) (v := ?_) rfl (by kernel_rfl) (by kernel_rfl) (by kernel_rfl) (fun _ _ _ h => h) (Or.inl ⟨by kernel_rfl, ?_⟩) s0 ?_
  rotate_left 1
  · (intro w hS; have hs := hS.1; clear hS; go_simp; try (with_reducible rfl))
  refine wpAnyH_take (i := 14) (v := ?_) rfl (by kernel_rfl) (by kernel_rfl) (by kernel_rfl) (fun _ _ _ h => h) (Or.inl ⟨by kernel_rfl, ?_⟩) s0 ?_
  rotate_left 1
  · (intro w hS; clear hS; go_simp; try (with_reducible rfl))
  refine wpAnyH_take (i := 15) (v := ?_) rfl (by kernel_rfl) (by kernel_rfl) (by kernel_rfl) (fun _ _ _ h => h) (Or.inl ⟨by kernel_rfl, ?_⟩) s0 ?_
  rotate_left 1
  · (intro w hS; clear hS; go_simp; try (with_reducible rfl))
  refine wpAnyH_take (i := 16) (v := ?_) rfl (by kernel_rfl) (by kernel_rfl) (by kernel_rfl) (fun _ _ _ h => h) (Or.inl ⟨by kernel_rfl, ?_⟩) s0 ?_
  rotate_left 1
  · (intro w hS; clear hS; go_simp; try (with_reducible rfl))
  refine wpAnyH_take (i := 17) (v := ?_) rfl (by kernel_rfl) (by kernel_rfl) (by kernel_rfl) (fun _ _ _ h => h) (Or.inl ⟨by kernel_rfl, ?_⟩) s0 ?_
  rotate_left 1
  · (intro w hS; clear hS; go_simp; try (with_reducible rfl))
  refine wpAnyH_take (i := 18) (v := ?_) rfl (by kernel_rfl) (by kernel_rfl) (by kernel_rfl) (fun _ _ _ h => h) (Or.inl ⟨by kernel_rfl, ?_⟩) s0 ?_
  rotate_left 1
  · (intro w hS; clear hS; go_simp; try (with_reducible rfl))
  refine wpAnyH_take (i := 19) (v := ?_) rfl (by kernel_rfl) (by kernel_rfl) (by kernel_rfl) (fun _ _ _ h => h) (Or.inl ⟨by kernel_rfl, ?_⟩) s0 ?_
  rotate_left 1
  · (intro w hS; clear hS; go_simp; try (with_reducible rfl))
  refine wpAnyH_take (i := 20) (v := ?_) rfl (by kernel_rfl) (by kernel_rfl) (by kernel_rfl) (fun _ _ _ h => h) (Or.inl ⟨by kernel_rfl, ?_⟩) s0 ?_
  rotate_left 1
  · (intro w hS; clear hS; go_simp; try (with_reducible rfl))
  refine wpAnyH_take (i := 21) (v := .agg ((u8s S)).toArray) rfl (by kernel_rfl) (by kernel_rfl) (by kernel_rfl) (fun _ _ _ h => h) (yieldsIf_load_mid (by kernel_rfl) 36 (.tmp 6) rfl g6 0 (by go_simp) ((u8s S)) _ (fun _ h => rows_of_blk h.2) Tryz.underlying36 rfl (FH.out)) s0 ?_
  refine wpAnyH_take (i := 22) (v := ?_) rfl (by kernel_rfl) (by kernel_rfl) (by kernel_rfl) (fun _ _ _ h => h) (Or.inl ⟨by kernel_rfl, ?_⟩) s0 ?_
  rotate_left 1
  · (intro w hS; clear hS; go_simp; try (with_reducible rfl))
  refine wpAnyH_ready (rs := [23]) (by kernel_rfl) (by simp) ?_
  refine AllReadyH.cons rfl (fun K hK => ?_) AllReadyH.nil
  rw [if_pos (by kernel_rfl)]
  go_simp
  refine OF.out.mono ?_
  rintro e w7 ⟨rfl, b7⟩
  have B11 := Lib.hid (BW.out.trans (b7.mono BW.out.size))
  have s1 : w7.cell? ⟨g4, 4, none⟩ = some (.int .i64 7) ∧ Blk w7 g6 36 (u8s S) := ⟨(b7.cell (p := ⟨g4, 4, none⟩) (Nat.lt_of_lt_of_le Y10.out.lt BU.out.size)).trans s0.1, s0.2.below b7 s0.2.lt⟩
  refine hK.out _ _ s1 (fun _ => ?_)
  clear hK K b7 OF s0
  refine wpAnyH_take (i := 24) (v := ?_) rfl (by kernel_rfl) (by kernel_rfl) (by kernel_rfl) (fun _ _ _ h => h) (Or.inl ⟨by kernel_rfl, ?_⟩) s1 ?_
  rotate_left 1
  · (intro w hS; clear hS; go_simp; try (with_reducible rfl))
  refine wpAnyH_take (i := 25) (v := ?_) rfl (by kernel_rfl) (by kernel_rfl) (by kernel_rfl) (fun _ _ _ h => h) (Or.inl ⟨by kernel_rfl, ?_⟩) s1 ?_
  rotate_left 1
  · (intro w hS; clear hS; go_simp; try (with_reducible rfl))
  refine wpAnyH_take (i := 26) (v := ?_) rfl (by kernel_rfl) (by kernel_rfl) (by kernel_rfl) (fun _ _ _ h => h) (Or.inl ⟨by kernel_rfl, ?_⟩) s1 ?_
  rotate_left 1
  · (intro w hS; clear hS; go_simp; try (with_reducible rfl))
  refine wpAnyH_take (i := 27) (v := ?_) rfl (by kernel_rfl) (by kernel_rfl) (by kernel_rfl) (fun _ _ _ h => h) (Or.inl ⟨by kernel_rfl, ?_⟩) s1 ?_
  rotate_left 1
  · (intro w hS; clear hS; go_simp; try (with_reducible rfl))
  refine wpAnyH_take (i := 28) (v := ?_) rfl (by kernel_rfl) (by kernel_rfl) (by kernel_rfl) (fun _ _ _ h => h) (Or.inl ⟨by kernel_rfl, ?_⟩) s1 ?_
  rotate_left 1
  · (intro w hS; clear hS; go_simp; try (with_reducible rfl))
  refine wpAnyH_take (i := 29) (v := ?_) rfl (by kernel_rfl) (by kernel_rfl) (by kernel_rfl) (fun _ _ _ h => h) (Or.inl ⟨by kernel_rfl, ?_⟩) s1 ?_
  rotate_left 1
  · (intro w hS; clear hS; go_simp; try (with_reducible rfl))
  refine wpAnyH_take (i := 30) (v := ?_) rfl (by kernel_rfl) (by kernel_rfl) (by kernel_rfl) (fun _ _ _ h => h) (Or.inl ⟨by kernel_rfl, ?_⟩) s1 ?_
  rotate_left 1
  · (intro w hS; clear hS; go_simp; try (with_reducible rfl))
  refine wpAnyH_take (i := 31) (v := ?_) rfl (by kernel_rfl) (by kernel_rfl) (by kernel_rfl) (fun _ _ _ h => h) (Or.inl ⟨by kernel_rfl, ?_⟩) s1 ?_
  rotate_left 1
  · (intro w hS; clear hS; go_simp; try (with_reducible rfl))
  refine wpAnyH_take (i := 32) (v := ?_) rfl (by kernel_rfl) (by kernel_rfl) (by kernel_rfl) (fun _ _ _ h => h) (Or.inl ⟨by kernel_rfl, ?_⟩) s1 ?_
  rotate_left 1
  · (intro w hS; clear hS; go_simp; try (with_reducible rfl))
  refine wpAnyH_take (i := 33) (v := ?_) rfl (by kernel_rfl) (by kernel_rfl) (by kernel_rfl) (fun _ _ _ h => h) (Or.inl ⟨by kernel_rfl, ?_⟩) s1 ?_
  rotate_left 1
  · (intro w hS; clear hS; go_simp; try (with_reducible rfl))
  refine wpAnyH_take (i := 34) (v := ?_) rfl (by kernel_rfl) (by kernel_rfl) (by kernel_rfl) (fun _ _ _ h => h) (Or.inl ⟨by kernel_rfl, ?_⟩) s1 ?_
  rotate_left 1
  · (intro w hS; clear hS; go_simp; try (with_reducible rfl))
  refine wpAnyH_done (by kernel_rfl) ?_ _
  go_simp
  go_wp2_with fail
  go_ret
  exact ⟨rfl, B11.out⟩
end Go.Proofs.YtphgognhjdbdjaaGreatDoor
