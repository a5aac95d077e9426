/-
  SpaceTimes walked.
-/
import Derived.Test.YtfcmhpgopihidaaDoorSpY
namespace Go.Proofs.YtfcmhpgopihidaaDoor
open Go Go.RowKit Sh

set_option maxRecDepth 100000 in
set_option maxHeartbeats 8000000 in
theorem stimes_t (n c : Nat) (p : Option Addr) (G : Nat → Fld) (at_ ahead : Int) (w : World) (hn : n ≤ 9223372036854775807) (hr : Rw w p n G) (hu : UT w) :
    Calls Tryd.prog 3 #[.slice p n c, .int .i64 at_, .int .i64 ahead] w fun e w' => e = .returned (.bool true) ∧ Below w.heap.size w w' := by
  have HR := Lib.hid hr; have HU := Lib.hid hu; have HN := Lib.hid hn
  have MT := Lib.hid (refmayV_t n c p G w hn hr)
  obtain ⟨x, hx, hxe⟩ := mod_s 1000 (by decide) (by decide) at_
  obtain ⟨d0, hd, hde⟩ := mod_s 50 (by decide) (by decide) ahead
  rw [show ((1000 : Nat) : Int) = 1000 from rfl] at hxe
  rw [show ((50 : Nat) : Int) = 50 from rfl] at hde
  obtain ⟨mb, hmb⟩ : ∃ b, mayV n G = b := ⟨_, rfl⟩
  rw [hmb] at MT
  have MB := Lib.hid hmb
  clear hr hu hmb hn
  cases mb with
  | false =>
    go_enter Tryd.func3, Tryd.ntmps3
    go_wp2_with fail
    refine MT.out.mono ?_
    rintro e w1 ⟨rfl, b1⟩
    have B1 := Lib.hid b1
    have TD := Lib.hid (tolds_t w1 (HU.out.below b1))
    clear b1 MT
    go_wp2_with fail
    refine TD.out.mono ?_
    rintro e w2 ⟨rfl, b2⟩
    go_wp2_with fail
    go_ret
    exact ⟨rfl, B1.out.trans (b2.mono B1.out.size)⟩
  | true =>
    have HN6 := Lib.hid (show n ≤ 1000 by have := (mayP_iff (mayV_P MB.out)).2.1; omega)
    have x1 : (x : Int) < 1000 := by omega
    have d1 : (d0 : Int) < 50 := by omega
    have BT0 := built_out0 1 p n c z0 G
    have BT1 := built_look0 2 3 p n c z0 G
    clear hx hd
    go_enter Tryd.func3, Tryd.ntmps3
    go_wp2_with fail
    refine MT.out.mono ?_
    rintro e w1 ⟨rfl, b1⟩
    have B1 := Lib.hid b1
    clear b1 MT
    go_upto_region 4 with (fail)
    rw [hxe]
    clear hxe
    go_wp2_with fail
    refine (New_t 15 15 w1).mono ?_
    rintro e w2 ⟨rfl, b2⟩
    obtain ⟨x0, hx0, hw0, P0⟩ := new_sp w2
    rw [hx0]
    have W0 := Lib.hid hw0
    have B2 := Lib.hid (B1.out.trans (b2.mono B1.out.size))
    clear hx0 hw0 b2 B1
    have DA := Lib.hid (DoM x0 x ⟨⟨0, 1, 1, 0, 0, z0, n, G⟩, none, 0, p, c⟩ w2 W0.out (by rw [P0]; exact Op15.new.may) ⟨none_rw _ _ _, HR.out.below B2.out, Nat.zero_le _, HN.out⟩ (Nat.zero_le _) HN6.out (HU.out.below B2.out) (oneS 0 x 0 (fl n G), [⟨0, 1, 1, [], false⟩]) (by rw [P0]; exact out_one (by decide) (by omega) (by omega) (by decide) (by decide) MB.out))
    go_wp2_with fail
    refine DA.out.mono ?_
    rintro e w3 ⟨xA, R, q, c', rfl, pA, rA, sA, wA, mA, oA, tA_, -, bA⟩
    have B3 := Lib.hid (B2.out.trans (bA.mono B2.out.size)); have PA := Lib.hid pA
    clear sA oA tA_ rA DA B2 W0 P0 bA pA mA
    have FX_xA := Lib.hid (sv_size xA wA.l4); have FO_xA := Lib.hid (sv_one xA); have SL_xA := Lib.hid (sv_len xA wA.l4)
    have Z_xA := Lib.hid (Blk.new w3 32 [.int .i64 0, .slice none 0 0, .slice none 0 0, .int .i64 0, .int .i64 0, .int .i64 0, .int .i64 0, .int .i64 0, .slice none 0 0, .bool false, .int .i64 0, .int .i64 0, .int .i64 0, .slice none 0 0, .bool false, .int .i64 0, .int .i64 0, .int .i64 0, .slice none 0 0, .bool false, .int .i64 0, .int .i64 0, .int .i64 0, .slice none 0 0, .bool false])
    have KN_xA := Lib.hid (KSp.new (w1 := w3) (x := xA) wA)
    go_upto_region 5 with ((with_reducible refine at_op (.store 32 (.tmp 8) (.tmp 31)) rfl ?_); go_must (refine store_blk 32 (.tmp 8) (.tmp 31) (w3).heap.size 32 _ (sv xA) rfl rfl Z_xA.out SL_xA.out.symm FX_xA.out FO_xA.out rfl rfl ?_))
    obtain ⟨V3, hV3⟩ : ∃ V, ((w3).alloc (.cells #[.int .i64 0, .slice none 0 0, .slice none 0 0, .int .i64 0, .int .i64 0, .int .i64 0, .int .i64 0, .int .i64 0, .slice none 0 0, .bool false, .int .i64 0, .int .i64 0, .int .i64 0, .slice none 0 0, .bool false, .int .i64 0, .int .i64 0, .int .i64 0, .slice none 0 0, .bool false, .int .i64 0, .int .i64 0, .int .i64 0, .slice none 0 0, .bool false] 32)).setRow (w3).heap.size (sv xA).toArray = V := ⟨_, rfl⟩
    rw [hV3] at KN_xA ⊢
    have K_xA := Lib.hid KN_xA.out.1
    have B_xA := Lib.hid KN_xA.out.2
    clear hV3 KN_xA Z_xA FO_xA SL_xA
    obtain ⟨gA, hgA⟩ : ∃ g, (w3).heap.size = g := ⟨_, rfl⟩
    rw [hgA] at K_xA ⊢
    clear hgA
    have B4 := Lib.hid (B3.out.trans (B_xA.out.mono B3.out.size))
    clear B3 B_xA wA BT0
    go_upto_region 6 with (fail)
    clear hde
    obtain ⟨d, hdd⟩ : ∃ d : Nat, d = d0 + 1 := ⟨_, rfl⟩
    rw [show (1 : Int) + (d0 : Int) = (d : Int) by omega]
    have d2 : (d : Int) < 51 := by omega
    have HD := Lib.hid (show 1 ≤ d by omega)
    clear d1 hdd
    have MA : MayS xA.sp := by rw [PA.out]; exact (Op15.one (c := 0) (x := x) (le := 0) (by decide) (by omega) (by omega) (by decide) (by decide) MB.out).may
    have MA := Lib.hid MA
    have NA : xA.sp.now = (x : Int) := by rw [PA.out]; rfl
    have NA := Lib.hid NA
    have KAB := Lib.hid K_xA.out.box
    have DB := Lib.hid (DoM xA ((x : Int) - (d : Int)) ⟨⟨0, 2, 3, 0, n, G, 0, z0⟩, p, c, none, 0⟩ V3 K_xA.out.w MA.out ⟨HR.out.below B4.out, none_rw _ _ _, HN.out, Nat.zero_le _⟩ HN6.out (Nat.zero_le _) (HU.out.below B4.out) (xA.sp, []) (do_early _ (.inl (by rw [NA.out]; have := HD.out; omega))))
    go_wp2_with ((with_reducible refine load_blk 32 (.tmp 8) gA 32 (sv xA) _ rfl rfl ?_ Tryd.underlying32 ?_ ?_ ?_ ?_); exact KAB.out; exact rfl; exact FX_xA.out; exact rfl)
    refine DB.out.mono ?_
    rintro e w4 ⟨xB, R2, q2, c2, rfl, pB, rB, sB, wB, mB, oB, tB_, -, bB⟩
    obtain rfl := no_rows rB
    have B5 := Lib.hid (B4.out.trans (bB.mono B4.out.size)); have PB := Lib.hid pB
    have KA := Lib.hid (K_xA.out.below bB)
    clear sB oB tB_ rB DB bB pB mB K_xA B4 KAB
    have FX_xB := Lib.hid (sv_size xB wB.l4); have FO_xB := Lib.hid (sv_one xB); have SL_xB := Lib.hid (sv_len xB wB.l4)
    have Z_xB := Lib.hid (Blk.new w4 32 [.int .i64 0, .slice none 0 0, .slice none 0 0, .int .i64 0, .int .i64 0, .int .i64 0, .int .i64 0, .int .i64 0, .slice none 0 0, .bool false, .int .i64 0, .int .i64 0, .int .i64 0, .slice none 0 0, .bool false, .int .i64 0, .int .i64 0, .int .i64 0, .slice none 0 0, .bool false, .int .i64 0, .int .i64 0, .int .i64 0, .slice none 0 0, .bool false])
    have KN_xB := Lib.hid (KSp.new (w1 := w4) (x := xB) wB)
    go_upto_region 7 with ((with_reducible refine at_op (.store 32 (.tmp 11) (.tmp 46)) rfl ?_); go_must (refine store_blk 32 (.tmp 11) (.tmp 46) (w4).heap.size 32 _ (sv xB) rfl rfl Z_xB.out SL_xB.out.symm FX_xB.out FO_xB.out rfl rfl ?_))
    obtain ⟨V4, hV4⟩ : ∃ V, ((w4).alloc (.cells #[.int .i64 0, .slice none 0 0, .slice none 0 0, .int .i64 0, .int .i64 0, .int .i64 0, .int .i64 0, .int .i64 0, .slice none 0 0, .bool false, .int .i64 0, .int .i64 0, .int .i64 0, .slice none 0 0, .bool false, .int .i64 0, .int .i64 0, .int .i64 0, .slice none 0 0, .bool false, .int .i64 0, .int .i64 0, .int .i64 0, .slice none 0 0, .bool false] 32)).setRow (w4).heap.size (sv xB).toArray = V := ⟨_, rfl⟩
    rw [hV4] at KN_xB ⊢
    have K_xB := Lib.hid KN_xB.out.1
    have B_xB := Lib.hid KN_xB.out.2
    clear hV4 KN_xB Z_xB FO_xB SL_xB
    obtain ⟨gB, hgB⟩ : ∃ g, (w4).heap.size = g := ⟨_, rfl⟩
    rw [hgB] at K_xB ⊢
    clear hgB
    have B6 := Lib.hid (B5.out.trans (B_xB.out.mono B5.out.size))
    have KA2 := Lib.hid (KA.out.below B_xB.out)
    clear B5 B_xB wB KA
    have KAB := Lib.hid KA2.out.box
    have DC := Lib.hid (DoM xA ((1099511627776 : Int) + (d : Int)) ⟨⟨0, 2, 3, 0, n, G, 0, z0⟩, p, c, none, 0⟩ V4 KA2.out.w MA.out ⟨HR.out.below B6.out, none_rw _ _ _, HN.out, Nat.zero_le _⟩ HN6.out (Nat.zero_le _) (HU.out.below B6.out) (xA.sp, []) (do_early _ (.inr (by have := HD.out; omega))))
    go_wp2_with ((with_reducible refine load_blk 32 (.tmp 8) gA 32 (sv xA) _ rfl rfl ?_ Tryd.underlying32 ?_ ?_ ?_ ?_); exact KAB.out; exact rfl; exact FX_xA.out; exact rfl)
    refine DC.out.mono ?_
    rintro e w5 ⟨xC, R3, q3, c3, rfl, pC, rC, sC, wC, mC, oC, tC_, -, bC⟩
    obtain rfl := no_rows rC
    have B7 := Lib.hid (B6.out.trans (bC.mono B6.out.size)); have PC := Lib.hid pC
    have KA := Lib.hid (KA2.out.below bC); have KB := Lib.hid (K_xB.out.below bC)
    clear sC oC tC_ rC DC bC pC mC KA2 K_xB B6 KAB
    have FX_xC := Lib.hid (sv_size xC wC.l4); have FO_xC := Lib.hid (sv_one xC); have SL_xC := Lib.hid (sv_len xC wC.l4)
    have Z_xC := Lib.hid (Blk.new w5 32 [.int .i64 0, .slice none 0 0, .slice none 0 0, .int .i64 0, .int .i64 0, .int .i64 0, .int .i64 0, .int .i64 0, .slice none 0 0, .bool false, .int .i64 0, .int .i64 0, .int .i64 0, .slice none 0 0, .bool false, .int .i64 0, .int .i64 0, .int .i64 0, .slice none 0 0, .bool false, .int .i64 0, .int .i64 0, .int .i64 0, .slice none 0 0, .bool false])
    have KN_xC := Lib.hid (KSp.new (w1 := w5) (x := xC) wC)
    go_upto_region 8 with ((with_reducible refine at_op (.store 32 (.tmp 13) (.tmp 55)) rfl ?_); go_must (refine store_blk 32 (.tmp 13) (.tmp 55) (w5).heap.size 32 _ (sv xC) rfl rfl Z_xC.out SL_xC.out.symm FX_xC.out FO_xC.out rfl rfl ?_))
    obtain ⟨V5, hV5⟩ : ∃ V, ((w5).alloc (.cells #[.int .i64 0, .slice none 0 0, .slice none 0 0, .int .i64 0, .int .i64 0, .int .i64 0, .int .i64 0, .int .i64 0, .slice none 0 0, .bool false, .int .i64 0, .int .i64 0, .int .i64 0, .slice none 0 0, .bool false, .int .i64 0, .int .i64 0, .int .i64 0, .slice none 0 0, .bool false, .int .i64 0, .int .i64 0, .int .i64 0, .slice none 0 0, .bool false] 32)).setRow (w5).heap.size (sv xC).toArray = V := ⟨_, rfl⟩
    rw [hV5] at KN_xC ⊢
    have K_xC := Lib.hid KN_xC.out.1
    have B_xC := Lib.hid KN_xC.out.2
    clear hV5 KN_xC Z_xC FO_xC SL_xC
    obtain ⟨gC, hgC⟩ : ∃ g, (w5).heap.size = g := ⟨_, rfl⟩
    rw [hgC] at K_xC ⊢
    clear hgC
    have B8 := Lib.hid (B7.out.trans (B_xC.out.mono B7.out.size))
    have KA2 := Lib.hid (KA.out.below B_xC.out); have KB2 := Lib.hid (KB.out.below B_xC.out)
    clear B7 B_xC wC KA KB
    have KAB := Lib.hid KA2.out.box
    have HLK := Lib.hid ((look_one (c := 0) (x := x) (le := 0) (c2 := 0) (k := 3) (q := 2) (now := (x : Int)) (F := z0) (by decide) (by omega) (by omega) (by decide) (by decide) MB.out (by decide) (.inr rfl) (Int.le_refl _) (by omega) (.inl (by decide)) (by decide)).1 (.inl rfl))
    have DD := Lib.hid (DoM xA (x : Int) ⟨⟨0, 2, 3, 0, n, G, 0, z0⟩, p, c, none, 0⟩ V5 KA2.out.w MA.out ⟨HR.out.below B8.out, none_rw _ _ _, HN.out, Nat.zero_le _⟩ HN6.out (Nat.zero_le _) (HU.out.below B8.out) _ ((congrArg (fun s => doP s _ _) PA.out).trans HLK.out))
    go_wp2_with ((with_reducible refine load_blk 32 (.tmp 8) gA 32 (sv xA) _ rfl rfl ?_ Tryd.underlying32 ?_ ?_ ?_ ?_); exact KAB.out; exact rfl; exact FX_xA.out; exact rfl)
    refine DD.out.mono ?_
    rintro e w6 ⟨xD, R4, q4, c4, rfl, pD, rD, sD, wD, mD, oD, tD_, -, bD⟩
    obtain ⟨y1, gl1, rfl, hy1, rfl, ro⟩ := rep_one oD rD
    have B9 := Lib.hid (B8.out.trans (bD.mono B8.out.size))
    have ND := Lib.hid (show xD.its.length = 0 from its_len pD)
    have KA := Lib.hid (KA2.out.below bD); have KB := Lib.hid (KB2.out.below bD); have KC := Lib.hid (K_xC.out.below bD)
    have RO1 := Lib.hid ro; have HY1 := Lib.hid hy1
    clear sD oD tD_ rD DD bD pD mD KA2 KB2 K_xC B8 KAB ro hy1 HLK BT1
    have FX_xD := Lib.hid (sv_size xD wD.l4); have FO_xD := Lib.hid (sv_one xD); have SL_xD := Lib.hid (sv_len xD wD.l4)
    have Z_xD := Lib.hid (Blk.new w6 32 [.int .i64 0, .slice none 0 0, .slice none 0 0, .int .i64 0, .int .i64 0, .int .i64 0, .int .i64 0, .int .i64 0, .slice none 0 0, .bool false, .int .i64 0, .int .i64 0, .int .i64 0, .slice none 0 0, .bool false, .int .i64 0, .int .i64 0, .int .i64 0, .slice none 0 0, .bool false, .int .i64 0, .int .i64 0, .int .i64 0, .slice none 0 0, .bool false])
    have KN_xD := Lib.hid (KSp.new (w1 := w6) (x := xD) wD)
    go_upto_region 9 with ((with_reducible refine at_op (.store 32 (.tmp 15) (.tmp 63)) rfl ?_); go_must (refine store_blk 32 (.tmp 15) (.tmp 63) (w6).heap.size 32 _ (sv xD) rfl rfl Z_xD.out SL_xD.out.symm FX_xD.out FO_xD.out rfl rfl ?_))
    obtain ⟨V6, hV6⟩ : ∃ V, ((w6).alloc (.cells #[.int .i64 0, .slice none 0 0, .slice none 0 0, .int .i64 0, .int .i64 0, .int .i64 0, .int .i64 0, .int .i64 0, .slice none 0 0, .bool false, .int .i64 0, .int .i64 0, .int .i64 0, .slice none 0 0, .bool false, .int .i64 0, .int .i64 0, .int .i64 0, .slice none 0 0, .bool false, .int .i64 0, .int .i64 0, .int .i64 0, .slice none 0 0, .bool false] 32)).setRow (w6).heap.size (sv xD).toArray = V := ⟨_, rfl⟩
    rw [hV6] at KN_xD ⊢
    have K_xD := Lib.hid KN_xD.out.1
    have B_xD := Lib.hid KN_xD.out.2
    clear hV6 KN_xD Z_xD FO_xD SL_xD
    obtain ⟨gD, hgD⟩ : ∃ g, (w6).heap.size = g := ⟨_, rfl⟩
    rw [hgD] at K_xD ⊢
    clear hgD
    have B10 := Lib.hid (B9.out.trans (B_xD.out.mono B9.out.size))
    have KA2 := Lib.hid (KA.out.below B_xD.out); have KB2 := Lib.hid (KB.out.below B_xD.out); have KC2 := Lib.hid (KC.out.below B_xD.out)
    have RO2 := Lib.hid (RO1.out.below B_xD.out)
    clear B9 B_xD wD KA KB KC RO1
    have TD := Lib.hid (tolds_t V6 (HU.out.below B10.out))
    go_wp2_with fail
    refine TD.out.mono ?_
    rintro e w7 ⟨rfl, b7⟩
    have B11 := Lib.hid (B10.out.trans (b7.mono B10.out.size))
    have KA := Lib.hid (KA2.out.below b7); have KB := Lib.hid (KB2.out.below b7); have KC := Lib.hid (KC2.out.below b7); have KD := Lib.hid (K_xD.out.below b7); have RO3 := Lib.hid (RO2.out.below b7)
    clear b7 TD KA2 KB2 KC2 K_xD B10 RO2
    have SB := Lib.hid (SpSame_t xB xA w7 KB.out.w KA.out.w)
    rw [show spS xB.sp xA.sp = true from spS_iff.2 PB.out] at SB
    have KAB := Lib.hid KA.out.box; have KBB := Lib.hid KB.out.box
    go_wp2_with (first
      | ((with_reducible refine load_blk_gdO 72 32 (.tmp 11) gB 32 (sv xB) _ ?_ ?_ rfl ?_ Tryd.underlying32 ?_ ?_ ?_ ?_); exact rfl; kernel_rfl; exact KBB.out; exact rfl; exact FX_xB.out; exact rfl)
      | ((with_reducible refine load_blk_gdO 73 32 (.tmp 8) gA 32 (sv xA) _ ?_ ?_ rfl ?_ Tryd.underlying32 ?_ ?_ ?_ ?_); exact rfl; kernel_rfl; exact KAB.out; exact rfl; exact FX_xA.out; exact rfl))
    refine SB.out.mono ?_
    rintro e w8 ⟨rfl, b8⟩
    have B12 := Lib.hid (B11.out.trans (b8.mono B11.out.size))
    have KA2 := Lib.hid (KA.out.below b8); have KC2 := Lib.hid (KC.out.below b8); have KD2 := Lib.hid (KD.out.below b8); have RO4 := Lib.hid (RO3.out.below b8)
    clear b8 SB KA KB KC KD B11 RO3 KAB KBB
    have SC := Lib.hid (SpSame_t xC xA w8 KC2.out.w KA2.out.w)
    rw [show spS xC.sp xA.sp = true from spS_iff.2 PC.out] at SC
    have KAB := Lib.hid KA2.out.box; have KCB := Lib.hid KC2.out.box
    go_wp2_with (first
      | ((with_reducible refine load_blk_gdO 82 32 (.tmp 13) gC 32 (sv xC) _ ?_ ?_ rfl ?_ Tryd.underlying32 ?_ ?_ ?_ ?_); exact rfl; kernel_rfl; exact KCB.out; exact rfl; exact FX_xC.out; exact rfl)
      | ((with_reducible refine load_blk_gdO 83 32 (.tmp 8) gA 32 (sv xA) _ ?_ ?_ rfl ?_ Tryd.underlying32 ?_ ?_ ?_ ?_); exact rfl; kernel_rfl; exact KAB.out; exact rfl; exact FX_xA.out; exact rfl))
    refine SC.out.mono ?_
    rintro e w9 ⟨rfl, b9⟩
    have B13 := Lib.hid (B12.out.trans (b9.mono B12.out.size))
    have KA := Lib.hid (KA2.out.below b9); have KD := Lib.hid (KD2.out.below b9); have RO5 := Lib.hid (RO4.out.below b9)
    have c2 : w9.cell? ⟨gl1, 2, none⟩ = some (.int .i64 2) := by
      have := RO5.out.cells.2.2.1
      rwa [HY1.out] at this
    have b1 := cell_its KD.out
    have b2 := cell_its KA.out
    rw [ND.out] at b1
    rw [show xA.its.length = 1 from its_len PA.out] at b2
    clear b9 SC KAB KCB KA2 KC2 KD2 B12 RO4
    go_wp2_with fail
    go_ret
    exact ⟨rfl, B13.out⟩
end Go.Proofs.YtfcmhpgopihidaaDoor
