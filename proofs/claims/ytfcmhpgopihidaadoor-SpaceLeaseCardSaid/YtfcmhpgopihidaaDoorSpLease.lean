/-
  SpaceLease walked.
-/
import Derived.Test.YtfcmhpgopihidaaDoorSpY
namespace Go.Proofs.YtfcmhpgopihidaaDoor
open Go Go.RowKit Sh

set_option maxRecDepth 100000 in
set_option maxHeartbeats 8000000 in
theorem slease_t (n c : Nat) (p : Option Addr) (G : Nat → Fld) (lease at_ later : Int) (w : World) (hn : n ≤ 9223372036854775807) (hr : Rw w p n G) (hu : UT w) :
    Calls Tryd.prog 10 #[.slice p n c, .int .i64 lease, .int .i64 at_, .int .i64 later] w fun e w' => e = .returned (.bool true) ∧ Below w.heap.size w w' := by
  have HR := Lib.hid hr; have HU := Lib.hid hu; have HN := Lib.hid hn
  have MT := Lib.hid (refmayV_t n c p G w hn hr)
  obtain ⟨k, hk, hke⟩ := mod_s 51 (by decide) (by decide) lease
  obtain ⟨x, hx, hxe⟩ := mod_s 1000 (by decide) (by decide) at_
  obtain ⟨d, hd, hde⟩ := mod_s 80 (by decide) (by decide) later
  rw [show ((51 : Nat) : Int) = 51 from rfl] at hke
  rw [show ((1000 : Nat) : Int) = 1000 from rfl] at hxe
  rw [show ((80 : Nat) : Int) = 80 from rfl] at hde
  obtain ⟨mb, hmb⟩ : ∃ b, mayV n G = b := ⟨_, rfl⟩
  rw [hmb] at MT
  have MB := Lib.hid hmb
  clear hr hu hmb hn
  cases mb with
  | false =>
    go_enter Tryd.func10, Tryd.ntmps10
    go_wp2_with fail
    refine MT.out.mono ?_
    rintro e w1 ⟨rfl, b1⟩
    have B1 := Lib.hid b1
    have TD := Lib.hid (tolds_t w1 (HU.out.below b1))
    clear b1 MT
    go_wp2_with fail
    refine TD.out.mono ?_
    rintro e w2 ⟨rfl, b2⟩
    go_wp2_with fail
    go_ret
    exact ⟨rfl, B1.out.trans (b2.mono B1.out.size)⟩
  | true =>
    have HN6 := Lib.hid (show n ≤ 1000 by have := (mayP_iff (mayV_P MB.out)).2.1; omega)
    have k1 : (k : Int) < 51 := by omega
    have x1 : (x : Int) < 1000 := by omega
    have d1 : (d : Int) < 80 := by omega
    have BT0 := built_out 1 1 (k : Int) p n c z0 G
    have BT1 := built_look 2 1 2 p n c z0 G
    clear hk hx hd
    go_enter Tryd.func10, Tryd.ntmps10
    go_wp2_with fail
    refine MT.out.mono ?_
    rintro e w1 ⟨rfl, b1⟩
    have B1 := Lib.hid b1
    clear b1 MT
    go_wp2_with fail
    refine (New_t 15 15 w1).mono ?_
    rintro e w2 ⟨rfl, b2⟩
    obtain ⟨x0, hx0, hw0, P0⟩ := new_sp w2
    rw [hx0]
    have B2 := Lib.hid (B1.out.trans (b2.mono B1.out.size))
    clear hx0 b2 B1
    have FX_x0 := Lib.hid (sv_size x0 hw0.l4); have FO_x0 := Lib.hid (sv_one x0); have SL_x0 := Lib.hid (sv_len x0 hw0.l4)
    have Z_x0 := Lib.hid (Blk.new w2 32 [.int .i64 0, .slice none 0 0, .slice none 0 0, .int .i64 0, .int .i64 0, .int .i64 0, .int .i64 0, .int .i64 0, .slice none 0 0, .bool false, .int .i64 0, .int .i64 0, .int .i64 0, .slice none 0 0, .bool false, .int .i64 0, .int .i64 0, .int .i64 0, .slice none 0 0, .bool false, .int .i64 0, .int .i64 0, .int .i64 0, .slice none 0 0, .bool false])
    have KN_x0 := Lib.hid (KSp.new (w1 := w2) (x := x0) hw0)
    go_upto_region 4 with ((with_reducible refine at_op (.store 32 (.tmp 9) (.tmp 22)) rfl ?_); go_must (refine store_blk 32 (.tmp 9) (.tmp 22) (w2).heap.size 32 _ (sv x0) rfl rfl Z_x0.out SL_x0.out.symm FX_x0.out FO_x0.out rfl rfl ?_))
    obtain ⟨V2, hV2⟩ : ∃ V, ((w2).alloc (.cells #[.int .i64 0, .slice none 0 0, .slice none 0 0, .int .i64 0, .int .i64 0, .int .i64 0, .int .i64 0, .int .i64 0, .slice none 0 0, .bool false, .int .i64 0, .int .i64 0, .int .i64 0, .slice none 0 0, .bool false, .int .i64 0, .int .i64 0, .int .i64 0, .slice none 0 0, .bool false, .int .i64 0, .int .i64 0, .int .i64 0, .slice none 0 0, .bool false] 32)).setRow (w2).heap.size (sv x0).toArray = V := ⟨_, rfl⟩
    rw [hV2] at KN_x0 ⊢
    have K_x0 := Lib.hid KN_x0.out.1
    have B_x0 := Lib.hid KN_x0.out.2
    clear hV2 KN_x0 Z_x0 FO_x0 SL_x0
    obtain ⟨g0, hg0⟩ : ∃ g, (w2).heap.size = g := ⟨_, rfl⟩
    rw [hg0] at K_x0 ⊢
    clear hg0
    have B3 := Lib.hid (B2.out.trans (B_x0.out.mono B2.out.size))
    clear B2 B_x0 hw0
    go_upto_region 5 with (fail)
    rw [hke, hxe, hde]
    clear hke hxe hde
    have DA := Lib.hid (DoM x0 x ⟨⟨1, 1, 1, k, 0, z0, n, G⟩, none, 0, p, c⟩ V2 K_x0.out.w (by rw [P0]; exact Op15.new.may) ⟨none_rw _ _ _, HR.out.below B3.out, Nat.zero_le _, HN.out⟩ (Nat.zero_le _) HN6.out (HU.out.below B3.out) (oneS 1 x k (fl n G), [⟨1, 1, 1, [], false⟩]) (by rw [P0]; exact out_one (by decide) (by omega) (by omega) (by omega) (by omega) MB.out))
    have K0B := Lib.hid K_x0.out.box
    go_wp2_with ((with_reducible refine load_blk 32 (.tmp 9) g0 32 (sv x0) _ rfl rfl ?_ Tryd.underlying32 ?_ ?_ ?_ ?_); exact K0B.out; exact rfl; exact FX_x0.out; exact rfl)
    refine DA.out.mono ?_
    rintro e w3 ⟨xA, R, q, c', rfl, pA, rA, sA, wA, mA, oA, tA_, -, bA⟩
    have B4 := Lib.hid (B3.out.trans (bA.mono B3.out.size)); have PA := Lib.hid pA; have MA := Lib.hid mA
    clear sA oA tA_ rA DA K_x0 K0B FX_x0 bA pA mA P0 BT0 B3
    have FX_xA := Lib.hid (sv_size xA wA.l4); have FO_xA := Lib.hid (sv_one xA); have SL_xA := Lib.hid (sv_len xA wA.l4)
    have Z_xA := Lib.hid (Blk.new w3 32 [.int .i64 0, .slice none 0 0, .slice none 0 0, .int .i64 0, .int .i64 0, .int .i64 0, .int .i64 0, .int .i64 0, .slice none 0 0, .bool false, .int .i64 0, .int .i64 0, .int .i64 0, .slice none 0 0, .bool false, .int .i64 0, .int .i64 0, .int .i64 0, .slice none 0 0, .bool false, .int .i64 0, .int .i64 0, .int .i64 0, .slice none 0 0, .bool false])
    have KN_xA := Lib.hid (KSp.new (w1 := w3) (x := xA) wA)
    go_upto_region 6 with ((with_reducible refine at_op (.store 32 (.tmp 13) (.tmp 42)) rfl ?_); go_must (refine store_blk 32 (.tmp 13) (.tmp 42) (w3).heap.size 32 _ (sv xA) rfl rfl Z_xA.out SL_xA.out.symm FX_xA.out FO_xA.out rfl rfl ?_))
    obtain ⟨V3, hV3⟩ : ∃ V, ((w3).alloc (.cells #[.int .i64 0, .slice none 0 0, .slice none 0 0, .int .i64 0, .int .i64 0, .int .i64 0, .int .i64 0, .int .i64 0, .slice none 0 0, .bool false, .int .i64 0, .int .i64 0, .int .i64 0, .slice none 0 0, .bool false, .int .i64 0, .int .i64 0, .int .i64 0, .slice none 0 0, .bool false, .int .i64 0, .int .i64 0, .int .i64 0, .slice none 0 0, .bool false] 32)).setRow (w3).heap.size (sv xA).toArray = V := ⟨_, rfl⟩
    rw [hV3] at KN_xA ⊢
    have K_xA := Lib.hid KN_xA.out.1
    have B_xA := Lib.hid KN_xA.out.2
    clear hV3 KN_xA Z_xA FO_xA SL_xA
    obtain ⟨gA, hgA⟩ : ∃ g, (w3).heap.size = g := ⟨_, rfl⟩
    rw [hgA] at K_xA ⊢
    clear hgA
    have B5 := Lib.hid (B4.out.trans (B_xA.out.mono B4.out.size))
    clear B4 B_xA wA
    have HLK := Lib.hid (look_one (c := 1) (x := x) (le := k) (c2 := 2) (k := 2) (q := 1) (now := (x : Int) + (d : Int)) (F := z0) (by decide) (by omega) (by omega) (by omega) (by omega) MB.out (by decide) (.inl rfl) (by omega) (by omega) (.inr ⟨by decide, by decide⟩) (by decide))
    have KAB := Lib.hid K_xA.out.box
    by_cases hth : (k : Int) = 0 ∨ (x : Int) + (d : Int) < (x : Int) + (k : Int)
    · have DB := Lib.hid (DoM xA ((x : Int) + (d : Int)) ⟨⟨2, 1, 2, 0, n, G, 0, z0⟩, p, c, none, 0⟩ V3 K_xA.out.w MA.out ⟨HR.out.below B5.out, none_rw _ _ _, HN.out, Nat.zero_le _⟩ HN6.out (Nat.zero_le _) (HU.out.below B5.out) _ ((congrArg (fun s => doP s _ _) PA.out).trans (HLK.out.1 hth)))
      go_wp2_with ((with_reducible refine load_blk 32 (.tmp 13) gA 32 (sv xA) _ rfl rfl ?_ Tryd.underlying32 ?_ ?_ ?_ ?_); exact KAB.out; exact rfl; exact FX_xA.out; exact rfl)
      refine DB.out.mono ?_
      rintro e w5 ⟨xB, R2, q2, c2, rfl, pB, rB, sB, wB, mB, oB, tB_, -, bB⟩
      have PB := Lib.hid pB
      have HLB := Lib.hid hth
      clear HLK KAB K_xA PA FX_xA BT1 hth
      rcases Nat.eq_zero_or_pos k with rfl | hkp
      · skip
        have SB := Lib.hid (show xB.its.length = 1 from its_len PB.out)
        obtain ⟨y1, gl1, rfl, hy1, rfl, ro⟩ := rep_one oB rB
        have RO1 := Lib.hid ro; have HY1 := Lib.hid hy1; have TY1 := Lib.hid (tB_ y1 (List.mem_singleton.2 rfl))
        have B6 := Lib.hid (B5.out.trans (bB.mono B5.out.size))
        clear sB oB tB_ rB DB bB pB ro hy1
        have FX_xB := Lib.hid (sv_size xB wB.l4); have FO_xB := Lib.hid (sv_one xB); have SL_xB := Lib.hid (sv_len xB wB.l4)
        have Z_xB := Lib.hid (Blk.new w5 32 [.int .i64 0, .slice none 0 0, .slice none 0 0, .int .i64 0, .int .i64 0, .int .i64 0, .int .i64 0, .int .i64 0, .slice none 0 0, .bool false, .int .i64 0, .int .i64 0, .int .i64 0, .slice none 0 0, .bool false, .int .i64 0, .int .i64 0, .int .i64 0, .slice none 0 0, .bool false, .int .i64 0, .int .i64 0, .int .i64 0, .slice none 0 0, .bool false])
        have KN_xB := Lib.hid (KSp.new (w1 := w5) (x := xB) wB)
        go_upto_region 7 with ((with_reducible refine at_op (.store 32 (.tmp 15) (.tmp 52)) rfl ?_); go_must (refine store_blk 32 (.tmp 15) (.tmp 52) (w5).heap.size 32 _ (sv xB) rfl rfl Z_xB.out SL_xB.out.symm FX_xB.out FO_xB.out rfl rfl ?_))
        obtain ⟨V5, hV5⟩ : ∃ V, ((w5).alloc (.cells #[.int .i64 0, .slice none 0 0, .slice none 0 0, .int .i64 0, .int .i64 0, .int .i64 0, .int .i64 0, .int .i64 0, .slice none 0 0, .bool false, .int .i64 0, .int .i64 0, .int .i64 0, .slice none 0 0, .bool false, .int .i64 0, .int .i64 0, .int .i64 0, .slice none 0 0, .bool false, .int .i64 0, .int .i64 0, .int .i64 0, .slice none 0 0, .bool false] 32)).setRow (w5).heap.size (sv xB).toArray = V := ⟨_, rfl⟩
        rw [hV5] at KN_xB ⊢
        have K_xB := Lib.hid KN_xB.out.1
        have B_xB := Lib.hid KN_xB.out.2
        clear hV5 KN_xB Z_xB FO_xB SL_xB
        obtain ⟨gB, hgB⟩ : ∃ g, (w5).heap.size = g := ⟨_, rfl⟩
        rw [hgB] at K_xB ⊢
        clear hgB
        have B7 := Lib.hid (B6.out.trans (B_xB.out.mono B6.out.size))
        have RO2 := Lib.hid (RO1.out.below B_xB.out); have TY2 := Lib.hid (TY1.out.below B_xB.out)
        clear B6 RO1 TY1 B_xB wB
        have c2 : V5.cell? ⟨gl1, 2, none⟩ = some (.int .i64 2) := by
          have := RO2.out.cells.2.2.1
          rwa [HY1.out] at this
        go_upto_region 10 with (fail)
        clear c2
        have TD := Lib.hid (tolds_t V5 (HU.out.below B7.out))
        go_wp2_with fail
        refine TD.out.mono ?_
        rintro e w6 ⟨rfl, b6⟩
        have B8 := Lib.hid (B7.out.trans (b6.mono B7.out.size))
        have RO3 := Lib.hid (RO2.out.below b6); have TY3 := Lib.hid (TY2.out.below b6); have KB := Lib.hid (K_xB.out.below b6)
        have b1 := cell_its KB.out
        rw [SB.out] at b1
        have c3 := RO3.out.cells.2.2.2.1
        clear TD b6 RO2 TY2 K_xB B7
        have ht : y1.r.t = fl n G := by rw [HY1.out]
        have hl : y1.r.t.length = n := by rw [ht, fl_length]
        have SF_ := Lib.hid (refsame_t y1.r.t.length y1.c n c y1.p p (gl y1.r.t) G w6 (by rw [hl]; exact HN.out) HN.out (TY3.out.tr (by rw [hl]; exact HN.out)).t (HR.out.below B8.out))
        rw [sameN_of hl (fun j hj => by rw [ht]; exact gl_fl (by rw [hl] at hj; exact hj))] at SF_
        clear ht hl
        go_wp2_with fail
        refine SF_.out.mono ?_
        rintro e w7 ⟨rfl, b7⟩
        go_wp2_with fail
        go_ret
        exact ⟨rfl, B8.out.trans (b7.mono B8.out.size)⟩
      · have e1 : ((k : Int) == 0) = false := by rw [beq_eq_false_iff_ne]; omega
        have e2 : (d : Int) < (k : Int) := by have := HLB.out; omega
        have SB := Lib.hid (show xB.its.length = 1 from its_len PB.out)
        obtain ⟨y1, gl1, rfl, hy1, rfl, ro⟩ := rep_one oB rB
        have RO1 := Lib.hid ro; have HY1 := Lib.hid hy1; have TY1 := Lib.hid (tB_ y1 (List.mem_singleton.2 rfl))
        have B6 := Lib.hid (B5.out.trans (bB.mono B5.out.size))
        clear sB oB tB_ rB DB bB pB ro hy1
        have FX_xB := Lib.hid (sv_size xB wB.l4); have FO_xB := Lib.hid (sv_one xB); have SL_xB := Lib.hid (sv_len xB wB.l4)
        have Z_xB := Lib.hid (Blk.new w5 32 [.int .i64 0, .slice none 0 0, .slice none 0 0, .int .i64 0, .int .i64 0, .int .i64 0, .int .i64 0, .int .i64 0, .slice none 0 0, .bool false, .int .i64 0, .int .i64 0, .int .i64 0, .slice none 0 0, .bool false, .int .i64 0, .int .i64 0, .int .i64 0, .slice none 0 0, .bool false, .int .i64 0, .int .i64 0, .int .i64 0, .slice none 0 0, .bool false])
        have KN_xB := Lib.hid (KSp.new (w1 := w5) (x := xB) wB)
        go_upto_region 7 with ((with_reducible refine at_op (.store 32 (.tmp 15) (.tmp 52)) rfl ?_); go_must (refine store_blk 32 (.tmp 15) (.tmp 52) (w5).heap.size 32 _ (sv xB) rfl rfl Z_xB.out SL_xB.out.symm FX_xB.out FO_xB.out rfl rfl ?_))
        obtain ⟨V5, hV5⟩ : ∃ V, ((w5).alloc (.cells #[.int .i64 0, .slice none 0 0, .slice none 0 0, .int .i64 0, .int .i64 0, .int .i64 0, .int .i64 0, .int .i64 0, .slice none 0 0, .bool false, .int .i64 0, .int .i64 0, .int .i64 0, .slice none 0 0, .bool false, .int .i64 0, .int .i64 0, .int .i64 0, .slice none 0 0, .bool false, .int .i64 0, .int .i64 0, .int .i64 0, .slice none 0 0, .bool false] 32)).setRow (w5).heap.size (sv xB).toArray = V := ⟨_, rfl⟩
        rw [hV5] at KN_xB ⊢
        have K_xB := Lib.hid KN_xB.out.1
        have B_xB := Lib.hid KN_xB.out.2
        clear hV5 KN_xB Z_xB FO_xB SL_xB
        obtain ⟨gB, hgB⟩ : ∃ g, (w5).heap.size = g := ⟨_, rfl⟩
        rw [hgB] at K_xB ⊢
        clear hgB
        have B7 := Lib.hid (B6.out.trans (B_xB.out.mono B6.out.size))
        have RO2 := Lib.hid (RO1.out.below B_xB.out); have TY2 := Lib.hid (TY1.out.below B_xB.out)
        clear B6 RO1 TY1 B_xB wB
        have c2 : V5.cell? ⟨gl1, 2, none⟩ = some (.int .i64 2) := by
          have := RO2.out.cells.2.2.1
          rwa [HY1.out] at this
        go_upto_region 10 with (fail)
        clear c2
        have TD := Lib.hid (tolds_t V5 (HU.out.below B7.out))
        go_wp2_with fail
        refine TD.out.mono ?_
        rintro e w6 ⟨rfl, b6⟩
        have B8 := Lib.hid (B7.out.trans (b6.mono B7.out.size))
        have RO3 := Lib.hid (RO2.out.below b6); have TY3 := Lib.hid (TY2.out.below b6); have KB := Lib.hid (K_xB.out.below b6)
        have b1 := cell_its KB.out
        rw [SB.out] at b1
        have c3 := RO3.out.cells.2.2.2.1
        clear TD b6 RO2 TY2 K_xB B7
        have ht : y1.r.t = fl n G := by rw [HY1.out]
        have hl : y1.r.t.length = n := by rw [ht, fl_length]
        have SF_ := Lib.hid (refsame_t y1.r.t.length y1.c n c y1.p p (gl y1.r.t) G w6 (by rw [hl]; exact HN.out) HN.out (TY3.out.tr (by rw [hl]; exact HN.out)).t (HR.out.below B8.out))
        rw [sameN_of hl (fun j hj => by rw [ht]; exact gl_fl (by rw [hl] at hj; exact hj))] at SF_
        clear ht hl
        go_wp2_with fail
        refine SF_.out.mono ?_
        rintro e w7 ⟨rfl, b7⟩
        go_wp2_with fail
        go_ret
        exact ⟨rfl, B8.out.trans (b7.mono B8.out.size)⟩
    · have DB := Lib.hid (DoM xA ((x : Int) + (d : Int)) ⟨⟨2, 1, 2, 0, n, G, 0, z0⟩, p, c, none, 0⟩ V3 K_xA.out.w MA.out ⟨HR.out.below B5.out, none_rw _ _ _, HN.out, Nat.zero_le _⟩ HN6.out (Nat.zero_le _) (HU.out.below B5.out) _ ((congrArg (fun s => doP s _ _) PA.out).trans (HLK.out.2 (by omega) (by omega))))
      have e1 : ((k : Int) == 0) = false := by rw [beq_eq_false_iff_ne]; omega
      have e2 : (k : Int) ≤ (d : Int) := by omega
      have e3 : k ≤ d := by omega
      have e4 : ¬ (d : Int) < (k : Int) := by omega
      go_wp2_with ((with_reducible refine load_blk 32 (.tmp 13) gA 32 (sv xA) _ rfl rfl ?_ Tryd.underlying32 ?_ ?_ ?_ ?_); exact KAB.out; exact rfl; exact FX_xA.out; exact rfl)
      refine DB.out.mono ?_
      rintro e w5 ⟨xB, R2, q2, c2, rfl, pB, rB, sB, wB, mB, oB, tB_, -, bB⟩
      have PB := Lib.hid pB
      clear HLK KAB K_xA PA FX_xA BT1 hth
      have SB := Lib.hid (show xB.its.length = 0 from its_len PB.out)
      obtain ⟨y1, gl1, rfl, hy1, rfl, ro⟩ := rep_one oB rB
      have RO1 := Lib.hid ro; have HY1 := Lib.hid hy1; have TY1 := Lib.hid (tB_ y1 (List.mem_singleton.2 rfl))
      have B6 := Lib.hid (B5.out.trans (bB.mono B5.out.size))
      clear sB oB tB_ rB DB bB pB ro hy1
      have FX_xB := Lib.hid (sv_size xB wB.l4); have FO_xB := Lib.hid (sv_one xB); have SL_xB := Lib.hid (sv_len xB wB.l4)
      have Z_xB := Lib.hid (Blk.new w5 32 [.int .i64 0, .slice none 0 0, .slice none 0 0, .int .i64 0, .int .i64 0, .int .i64 0, .int .i64 0, .int .i64 0, .slice none 0 0, .bool false, .int .i64 0, .int .i64 0, .int .i64 0, .slice none 0 0, .bool false, .int .i64 0, .int .i64 0, .int .i64 0, .slice none 0 0, .bool false, .int .i64 0, .int .i64 0, .int .i64 0, .slice none 0 0, .bool false])
      have KN_xB := Lib.hid (KSp.new (w1 := w5) (x := xB) wB)
      go_upto_region 7 with ((with_reducible refine at_op (.store 32 (.tmp 15) (.tmp 52)) rfl ?_); go_must (refine store_blk 32 (.tmp 15) (.tmp 52) (w5).heap.size 32 _ (sv xB) rfl rfl Z_xB.out SL_xB.out.symm FX_xB.out FO_xB.out rfl rfl ?_))
      obtain ⟨V5, hV5⟩ : ∃ V, ((w5).alloc (.cells #[.int .i64 0, .slice none 0 0, .slice none 0 0, .int .i64 0, .int .i64 0, .int .i64 0, .int .i64 0, .int .i64 0, .slice none 0 0, .bool false, .int .i64 0, .int .i64 0, .int .i64 0, .slice none 0 0, .bool false, .int .i64 0, .int .i64 0, .int .i64 0, .slice none 0 0, .bool false, .int .i64 0, .int .i64 0, .int .i64 0, .slice none 0 0, .bool false] 32)).setRow (w5).heap.size (sv xB).toArray = V := ⟨_, rfl⟩
      rw [hV5] at KN_xB ⊢
      have K_xB := Lib.hid KN_xB.out.1
      have B_xB := Lib.hid KN_xB.out.2
      clear hV5 KN_xB Z_xB FO_xB SL_xB
      obtain ⟨gB, hgB⟩ : ∃ g, (w5).heap.size = g := ⟨_, rfl⟩
      rw [hgB] at K_xB ⊢
      clear hgB
      have B7 := Lib.hid (B6.out.trans (B_xB.out.mono B6.out.size))
      have RO2 := Lib.hid (RO1.out.below B_xB.out); have TY2 := Lib.hid (TY1.out.below B_xB.out)
      clear B6 RO1 TY1 B_xB wB
      have c2 : V5.cell? ⟨gl1, 2, none⟩ = some (.int .i64 3) := by
        have := RO2.out.cells.2.2.1
        rwa [HY1.out] at this
      go_upto_region 10 with (fail)
      clear c2
      have TD := Lib.hid (tolds_t V5 (HU.out.below B7.out))
      go_wp2_with fail
      refine TD.out.mono ?_
      rintro e w6 ⟨rfl, b6⟩
      have B8 := Lib.hid (B7.out.trans (b6.mono B7.out.size))
      have RO3 := Lib.hid (RO2.out.below b6); have TY3 := Lib.hid (TY2.out.below b6); have KB := Lib.hid (K_xB.out.below b6)
      have b1 := cell_its KB.out
      rw [SB.out] at b1
      have c3 := RO3.out.cells.2.2.2.1
      clear TD b6 RO2 TY2 K_xB B7
      go_wp2_with fail
      go_ret
      exact ⟨rfl, B8.out⟩
end Go.Proofs.YtfcmhpgopihidaaDoor
