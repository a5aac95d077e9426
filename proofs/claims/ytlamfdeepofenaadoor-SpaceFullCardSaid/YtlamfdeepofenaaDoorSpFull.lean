/-
  SpaceFull walked.
-/
import Derived.Test.YtlamfdeepofenaaDoorSpOldest
import Derived.Test.YtlamfdeepofenaaDoorSpXd
import Derived.Test.YtlamfdeepofenaaDoorSrB
namespace Go.Proofs.YtlamfdeepofenaaDoor
open Go Go.RowKit Sh

theorem and3f : ∀ k : Nat, k < 128 → bits .and .i64 (k : Int) 3 = ((k % 4 : Nat) : Int) := by decide +kernel
theorem built_outF (k q : Int) (p : Option Addr) (n c : Nat) (F G : Nat → Fld) : Tryd.prog.built 39 [(0, .int .i64 k), (1, .int .i64 q), (2, .int .i64 1), (4, .slice p n c)] = some (rv ⟨⟨k, q, 1, 0, 0, F, n, G⟩, none, 0, p, c⟩).toArray := by kernel_rfl
set_option maxRecDepth 100000 in
set_option maxHeartbeats 8000000 in
theorem sfull_t (n : Int) (one : Bool) (wait : Int) (w : World) (hu : UT w) :
    Calls Tryd.prog 7 #[.int .i64 n, .bool one, .int .i64 wait] w fun e w' => e = .returned (.bool true) ∧ Below w.heap.size w w' := by
  have HU := Lib.hid hu
  clear hu
  go_enter Tryd.func7, Tryd.ntmps7
  go_wp2_with fail
  refine (New_t 15 15 w).mono ?_
  rintro e w2 ⟨rfl, b2⟩
  have B2 := Lib.hid b2
  have Z2 := Lib.hid (Blk.new w2 33 zSp)
  obtain ⟨x0, hx0⟩ : ∃ x, nsp 15 15 0 1 2 3 = x := ⟨_, rfl⟩
  have P0 : x0.sp = newS 15 15 := by rw [← hx0]; exact nsp_sp 15 15
  have hl0 : x0.last.length = 4 := by rw [← hx0]; rfl
  have PL0 := Lib.hid (show PL w ((w2.alloc (.cells zSp.toArray 33)).setRow w2.heap.size (sv x0).toArray) w2.heap.size x0 from
    ⟨(Blk.new w2 33 zSp).setRow (sv x0), by rw [← hx0]; exact sf_new _ _ _ _ _ _ _ _, by rw [P0]; exact Op15.new, B2.out.size, below_setRow (B2.out.alloc B2.out.size _) B2.out.size _⟩)
  have FX0 := Lib.hid (sv_size x0 hl0); have FO0 := Lib.hid (sv_one x0); have SL0 := Lib.hid (sv_len x0 hl0)
  rw [hx0]
  clear b2 B2 hx0 hl0
  go_upto_region 2 with ((with_reducible refine at_op (.store 33 (.tmp 7) (.tmp 17)) rfl ?_); go_must (refine store_blk 33 (.tmp 7) (.tmp 17) w2.heap.size 33 _ (sv x0) rfl rfl Z2.out SL0.out.symm FX0.out FO0.out rfl rfl ?_))
  change Code.wp _ _ _ _ ((w2.alloc (.cells zSp.toArray 33)).setRow w2.heap.size (sv x0).toArray)
  obtain ⟨V2, hV2⟩ : ∃ V, (w2.alloc (.cells zSp.toArray 33)).setRow w2.heap.size (sv x0).toArray = V := ⟨_, rfl⟩
  rw [hV2] at PL0 ⊢
  obtain ⟨g, hg⟩ : ∃ g, w2.heap.size = g := ⟨_, rfl⟩
  rw [hg] at PL0 ⊢
  have N0 := Lib.hid (show FullS one 0 ((0 : Nat) : Int) x0.sp by rw [P0]; exact full_new one)
  clear hV2 hg Z2 FX0 FO0 SL0 P0
  obtain ⟨k, hk, hke⟩ := mod_s 91 (by decide) (by decide) n
  rw [show ((91 : Nat) : Int) = 91 from rfl] at hke
  go_upto_region 3 with (fail)
  rw [hke]
  have k91 : (k : Int) < 91 := by omega
  have HK := Lib.hid hk
  clear hk hke
  go_upto_region 4 with (fail)
  go_loopw [9] (fun s wr => ∃ (i : Nat) (x : Spv), i ≤ k ∧ s = .int .i64 (i : Int) ∧ PL w wr g x ∧ FullS one i (i : Int) x.sp) (fun s _ => k - (intOf s).toNat)
  case atStart => exact ⟨0, x0, Nat.zero_le _, rfl, PL0.out, N0.out⟩
  case round =>
    clear PL0 N0
    obtain ⟨i, x, hi, rfl, px, od⟩ := hrel
    have PX := Lib.hid px; have OD := Lib.hid od
    clear px od
    by_cases hlt : i < k
    · have i2 : (i : Int) < (k : Int) := by omega
      have a3 := and3f i (by have := HK.out; omega)
      have OO := Lib.hid (full_step1 (F := z0) (G := fun _ => fN (i : Int)) OD.out (by have := HK.out; omega) rfl)
      obtain ⟨cl, hcl⟩ : ∃ z : Int, (clF one i : Int) = z := ⟨_, rfl⟩
      rw [hcl] at OO
      cases one with
      | false =>
        rw [show clF false i = i % 4 from rfl] at hcl
        rw [hcl] at a3
        by_cases hc : i < 64
        · have hc1 : (i : Int) < 64 := by omega
          have hkd : (if i < capF false then (1 : Int) else 5) = 1 := if_pos hc
          have BT := built_outF cl ((i : Int) + 1) (some ⟨wr.heap.size, 0, none⟩) 1 1 z0 (fun _ => fN (i : Int))
          have PA := Lib.hid (PX.out.below ((Below.refl wr.heap.size wr).alloc (Nat.le_refl _) (.cells (fv (fN (i : Int))).toArray 25)))
          have FPA := Lib.hid (Blk.new wr 25 (fv (fN (i : Int))))
          have DA := Lib.hid (DoM x 0 ⟨⟨cl, (i : Int) + 1, 1, 0, 0, z0, 1, fun _ => fN (i : Int)⟩, none, 0, some ⟨wr.heap.size, 0, none⟩, 1⟩ (wr.alloc (.cells (fv (fN (i : Int))).toArray 25)) PA.out.w PA.out.op.may ⟨none_rw _ _ _, rw_one FPA.out, Nat.zero_le _, (by decide : (1 : Nat) ≤ 9223372036854775807)⟩ (Nat.zero_le _) (by decide : (1 : Nat) ≤ 1000) (HU.out.below PA.out.bel) _ rfl)
          have BX := Lib.hid PX.out.box; have FXU := Lib.hid (sv_size x PX.out.sf.l4); have SL1 := Lib.hid (sv_len x PX.out.sf.l4)
          clear hcl
          go_wp2_with ((with_reducible refine load_blk 33 (.tmp 7) g 33 (sv x) _ rfl rfl ?_ Tryd.underlying33 ?_ ?_ ?_ ?_); exact BX.out; exact rfl; exact FXU.out; exact rfl)
          refine DA.out.mono ?_
          rintro e w4 ⟨xT, R, q, c', rfl, p', r', s', w', m', ow, ft, -, b'⟩
          have OD2 := Lib.hid (show FullS false (i + 1) ((i : Int) + 1) xT.sp by rw [p']; exact OO.out.2)
          obtain ⟨y1, gl1, rfl, hy1, rfl, ro⟩ := rep_one ow (r'.trans OO.out.1)
          have RO1 := Lib.hid ro; have HY1 := Lib.hid hy1
          have S4 := Lib.hid s'; have B4 := Lib.hid b'
          clear s' b' p' r' m' ow ft ro hy1 DA BX BT OO
          have FX_xT := Lib.hid (sv_size xT w'.l4); have FO_xT := Lib.hid (sv_one xT); have SL_xT := Lib.hid (sv_len xT w'.l4)
          have Z_xT := Lib.hid (Blk.new w4 33 [.int .i64 0, .slice none 0 0, .slice none 0 0, .int .i64 0, .int .i64 0, .int .i64 0, .int .i64 0, .int .i64 0, .slice none 0 0, .bool false, .int .i64 0, .int .i64 0, .int .i64 0, .slice none 0 0, .bool false, .int .i64 0, .int .i64 0, .int .i64 0, .slice none 0 0, .bool false, .int .i64 0, .int .i64 0, .int .i64 0, .slice none 0 0, .bool false])
          have KN_xT := Lib.hid (KSp.new (w1 := w4) (x := xT) w')
          go_upto_region 10 with ((with_reducible refine at_op (.store 33 (.tmp 11) (.tmp 40)) rfl ?_); go_must (refine store_blk 33 (.tmp 11) (.tmp 40) (w4).heap.size 33 _ (sv xT) rfl rfl Z_xT.out SL_xT.out.symm FX_xT.out FO_xT.out rfl rfl ?_))
          obtain ⟨V8, hV8⟩ : ∃ V, ((w4).alloc (.cells #[.int .i64 0, .slice none 0 0, .slice none 0 0, .int .i64 0, .int .i64 0, .int .i64 0, .int .i64 0, .int .i64 0, .slice none 0 0, .bool false, .int .i64 0, .int .i64 0, .int .i64 0, .slice none 0 0, .bool false, .int .i64 0, .int .i64 0, .int .i64 0, .slice none 0 0, .bool false, .int .i64 0, .int .i64 0, .int .i64 0, .slice none 0 0, .bool false] 33)).setRow (w4).heap.size (sv xT).toArray = V := ⟨_, rfl⟩
          rw [hV8] at KN_xT ⊢
          have K_xT := Lib.hid KN_xT.out.1
          have B_xT := Lib.hid KN_xT.out.2
          clear hV8 KN_xT Z_xT FO_xT SL_xT
          obtain ⟨g8, hg8⟩ : ∃ g, (w4).heap.size = g := ⟨_, rfl⟩
          rw [hg8] at K_xT ⊢
          clear hg8
          have S8 := Lib.hid ((S4.out.below B_xT.out).low PA.out.bel.size)
          have B8 := Lib.hid (B4.out.trans (B_xT.out.mono B4.out.size))
          have P8 := Lib.hid (PA.out.below B8.out)
          have RO2 := Lib.hid (RO1.out.below B_xT.out)
          have BXg := Lib.hid P8.out.box; have BTg := Lib.hid K_xT.out.box
          have SL2 := Lib.hid (sv_len xT S8.out.l4); have FO2 := Lib.hid (sv_one xT)
          have KZ : Kept (fun b => b = g) V8 (V8.setRow g (sv xT).toArray) := (Kept.refl (fun b => b = g) V8).setRowK (.inl rfl) _
          have PZ := Lib.hid (show PL w (V8.setRow g (sv xT).toArray) g xT from ⟨BXg.out.setRow (sv xT), S8.out.kept KZ BXg.out, OD2.out.o, P8.out.ge, below_setRow P8.out.bel P8.out.ge _⟩)
          have cr := RO2.out.cells.2.2.1
          rw [HY1.out] at cr
          dsimp only at cr
          rw [hkd] at cr
          clear S4 B4 FPA B_xT RO1 w' S8 B8 K_xT KZ PX PA RO2 HY1 OD
          go_wp2_with (first
            | ((with_reducible refine load_blk 33 (.tmp 11) g8 33 (sv xT) _ rfl rfl ?_ Tryd.underlying33 ?_ ?_ ?_ ?_); exact BTg.out; exact rfl; exact FX_xT.out; exact rfl)
            | ((with_reducible refine at_op (.store 33 (.tmp 7) (.tmp 70)) rfl ?_); go_must (refine store_blk 33 (.tmp 7) (.tmp 70) g 33 (sv x) (sv xT) rfl rfl BXg.out (SL1.out.trans SL2.out.symm) FX_xT.out FO2.out rfl rfl ?_)))
          exact ⟨⟨i + 1, xT, hlt, by go_num, PZ.out, by simpa using OD2.out⟩, by simp [intOf]; omega⟩
        · have hc1 : decide ((i : Int) < 64) = false := decide_eq_false (by omega)
          have hkd : (if i < capF false then (1 : Int) else 5) = 5 := if_neg hc
          have BT := built_outF cl ((i : Int) + 1) (some ⟨wr.heap.size, 0, none⟩) 1 1 z0 (fun _ => fN (i : Int))
          have PA := Lib.hid (PX.out.below ((Below.refl wr.heap.size wr).alloc (Nat.le_refl _) (.cells (fv (fN (i : Int))).toArray 25)))
          have FPA := Lib.hid (Blk.new wr 25 (fv (fN (i : Int))))
          have DA := Lib.hid (DoM x 0 ⟨⟨cl, (i : Int) + 1, 1, 0, 0, z0, 1, fun _ => fN (i : Int)⟩, none, 0, some ⟨wr.heap.size, 0, none⟩, 1⟩ (wr.alloc (.cells (fv (fN (i : Int))).toArray 25)) PA.out.w PA.out.op.may ⟨none_rw _ _ _, rw_one FPA.out, Nat.zero_le _, (by decide : (1 : Nat) ≤ 9223372036854775807)⟩ (Nat.zero_le _) (by decide : (1 : Nat) ≤ 1000) (HU.out.below PA.out.bel) _ rfl)
          have BX := Lib.hid PX.out.box; have FXU := Lib.hid (sv_size x PX.out.sf.l4); have SL1 := Lib.hid (sv_len x PX.out.sf.l4)
          clear hcl
          go_wp2_with ((with_reducible refine load_blk 33 (.tmp 7) g 33 (sv x) _ rfl rfl ?_ Tryd.underlying33 ?_ ?_ ?_ ?_); exact BX.out; exact rfl; exact FXU.out; exact rfl)
          refine DA.out.mono ?_
          rintro e w4 ⟨xT, R, q, c', rfl, p', r', s', w', m', ow, ft, -, b'⟩
          have OD2 := Lib.hid (show FullS false (i + 1) ((i : Int) + 1) xT.sp by rw [p']; exact OO.out.2)
          obtain ⟨y1, gl1, rfl, hy1, rfl, ro⟩ := rep_one ow (r'.trans OO.out.1)
          have RO1 := Lib.hid ro; have HY1 := Lib.hid hy1
          have S4 := Lib.hid s'; have B4 := Lib.hid b'
          clear s' b' p' r' m' ow ft ro hy1 DA BX BT OO
          have FX_xT := Lib.hid (sv_size xT w'.l4); have FO_xT := Lib.hid (sv_one xT); have SL_xT := Lib.hid (sv_len xT w'.l4)
          have Z_xT := Lib.hid (Blk.new w4 33 [.int .i64 0, .slice none 0 0, .slice none 0 0, .int .i64 0, .int .i64 0, .int .i64 0, .int .i64 0, .int .i64 0, .slice none 0 0, .bool false, .int .i64 0, .int .i64 0, .int .i64 0, .slice none 0 0, .bool false, .int .i64 0, .int .i64 0, .int .i64 0, .slice none 0 0, .bool false, .int .i64 0, .int .i64 0, .int .i64 0, .slice none 0 0, .bool false])
          have KN_xT := Lib.hid (KSp.new (w1 := w4) (x := xT) w')
          go_upto_region 10 with ((with_reducible refine at_op (.store 33 (.tmp 11) (.tmp 40)) rfl ?_); go_must (refine store_blk 33 (.tmp 11) (.tmp 40) (w4).heap.size 33 _ (sv xT) rfl rfl Z_xT.out SL_xT.out.symm FX_xT.out FO_xT.out rfl rfl ?_))
          obtain ⟨V8, hV8⟩ : ∃ V, ((w4).alloc (.cells #[.int .i64 0, .slice none 0 0, .slice none 0 0, .int .i64 0, .int .i64 0, .int .i64 0, .int .i64 0, .int .i64 0, .slice none 0 0, .bool false, .int .i64 0, .int .i64 0, .int .i64 0, .slice none 0 0, .bool false, .int .i64 0, .int .i64 0, .int .i64 0, .slice none 0 0, .bool false, .int .i64 0, .int .i64 0, .int .i64 0, .slice none 0 0, .bool false] 33)).setRow (w4).heap.size (sv xT).toArray = V := ⟨_, rfl⟩
          rw [hV8] at KN_xT ⊢
          have K_xT := Lib.hid KN_xT.out.1
          have B_xT := Lib.hid KN_xT.out.2
          clear hV8 KN_xT Z_xT FO_xT SL_xT
          obtain ⟨g8, hg8⟩ : ∃ g, (w4).heap.size = g := ⟨_, rfl⟩
          rw [hg8] at K_xT ⊢
          clear hg8
          have S8 := Lib.hid ((S4.out.below B_xT.out).low PA.out.bel.size)
          have B8 := Lib.hid (B4.out.trans (B_xT.out.mono B4.out.size))
          have P8 := Lib.hid (PA.out.below B8.out)
          have RO2 := Lib.hid (RO1.out.below B_xT.out)
          have BXg := Lib.hid P8.out.box; have BTg := Lib.hid K_xT.out.box
          have SL2 := Lib.hid (sv_len xT S8.out.l4); have FO2 := Lib.hid (sv_one xT)
          have KZ : Kept (fun b => b = g) V8 (V8.setRow g (sv xT).toArray) := (Kept.refl (fun b => b = g) V8).setRowK (.inl rfl) _
          have PZ := Lib.hid (show PL w (V8.setRow g (sv xT).toArray) g xT from ⟨BXg.out.setRow (sv xT), S8.out.kept KZ BXg.out, OD2.out.o, P8.out.ge, below_setRow P8.out.bel P8.out.ge _⟩)
          have cr := RO2.out.cells.2.2.1
          rw [HY1.out] at cr
          dsimp only at cr
          rw [hkd] at cr
          clear S4 B4 FPA B_xT RO1 w' S8 B8 K_xT KZ PX PA RO2 HY1 OD
          go_wp2_with (first
            | ((with_reducible refine load_blk 33 (.tmp 11) g8 33 (sv xT) _ rfl rfl ?_ Tryd.underlying33 ?_ ?_ ?_ ?_); exact BTg.out; exact rfl; exact FX_xT.out; exact rfl)
            | ((with_reducible refine at_op (.store 33 (.tmp 7) (.tmp 70)) rfl ?_); go_must (refine store_blk 33 (.tmp 7) (.tmp 70) g 33 (sv x) (sv xT) rfl rfl BXg.out (SL1.out.trans SL2.out.symm) FX_xT.out FO2.out rfl rfl ?_)))
          exact ⟨⟨i + 1, xT, hlt, by go_num, PZ.out, by simpa using OD2.out⟩, by simp [intOf]; omega⟩
      | true =>
        rw [show clF true i = 1 from rfl] at hcl
        obtain rfl : cl = 1 := hcl.symm
        clear hcl
        by_cases hc : i < 24
        · have hc1 : (i : Int) < 24 := by omega
          have hc2 : (i : Int) < 64 := by omega
          have hkd : (if i < capF true then (1 : Int) else 5) = 1 := if_pos hc
          have BT := built_outF 1 ((i : Int) + 1) (some ⟨wr.heap.size, 0, none⟩) 1 1 z0 (fun _ => fN (i : Int))
          have PA := Lib.hid (PX.out.below ((Below.refl wr.heap.size wr).alloc (Nat.le_refl _) (.cells (fv (fN (i : Int))).toArray 25)))
          have FPA := Lib.hid (Blk.new wr 25 (fv (fN (i : Int))))
          have DA := Lib.hid (DoM x 0 ⟨⟨1, (i : Int) + 1, 1, 0, 0, z0, 1, fun _ => fN (i : Int)⟩, none, 0, some ⟨wr.heap.size, 0, none⟩, 1⟩ (wr.alloc (.cells (fv (fN (i : Int))).toArray 25)) PA.out.w PA.out.op.may ⟨none_rw _ _ _, rw_one FPA.out, Nat.zero_le _, (by decide : (1 : Nat) ≤ 9223372036854775807)⟩ (Nat.zero_le _) (by decide : (1 : Nat) ≤ 1000) (HU.out.below PA.out.bel) _ rfl)
          have BX := Lib.hid PX.out.box; have FXU := Lib.hid (sv_size x PX.out.sf.l4); have SL1 := Lib.hid (sv_len x PX.out.sf.l4)
          clear a3
          go_wp2_with ((with_reducible refine load_blk 33 (.tmp 7) g 33 (sv x) _ rfl rfl ?_ Tryd.underlying33 ?_ ?_ ?_ ?_); exact BX.out; exact rfl; exact FXU.out; exact rfl)
          refine DA.out.mono ?_
          rintro e w4 ⟨xT, R, q, c', rfl, p', r', s', w', m', ow, ft, -, b'⟩
          have OD2 := Lib.hid (show FullS true (i + 1) ((i : Int) + 1) xT.sp by rw [p']; exact OO.out.2)
          obtain ⟨y1, gl1, rfl, hy1, rfl, ro⟩ := rep_one ow (r'.trans OO.out.1)
          have RO1 := Lib.hid ro; have HY1 := Lib.hid hy1
          have S4 := Lib.hid s'; have B4 := Lib.hid b'
          clear s' b' p' r' m' ow ft ro hy1 DA BX BT OO
          have FX_xT := Lib.hid (sv_size xT w'.l4); have FO_xT := Lib.hid (sv_one xT); have SL_xT := Lib.hid (sv_len xT w'.l4)
          have Z_xT := Lib.hid (Blk.new w4 33 [.int .i64 0, .slice none 0 0, .slice none 0 0, .int .i64 0, .int .i64 0, .int .i64 0, .int .i64 0, .int .i64 0, .slice none 0 0, .bool false, .int .i64 0, .int .i64 0, .int .i64 0, .slice none 0 0, .bool false, .int .i64 0, .int .i64 0, .int .i64 0, .slice none 0 0, .bool false, .int .i64 0, .int .i64 0, .int .i64 0, .slice none 0 0, .bool false])
          have KN_xT := Lib.hid (KSp.new (w1 := w4) (x := xT) w')
          go_upto_region 10 with ((with_reducible refine at_op (.store 33 (.tmp 11) (.tmp 40)) rfl ?_); go_must (refine store_blk 33 (.tmp 11) (.tmp 40) (w4).heap.size 33 _ (sv xT) rfl rfl Z_xT.out SL_xT.out.symm FX_xT.out FO_xT.out rfl rfl ?_))
          obtain ⟨V8, hV8⟩ : ∃ V, ((w4).alloc (.cells #[.int .i64 0, .slice none 0 0, .slice none 0 0, .int .i64 0, .int .i64 0, .int .i64 0, .int .i64 0, .int .i64 0, .slice none 0 0, .bool false, .int .i64 0, .int .i64 0, .int .i64 0, .slice none 0 0, .bool false, .int .i64 0, .int .i64 0, .int .i64 0, .slice none 0 0, .bool false, .int .i64 0, .int .i64 0, .int .i64 0, .slice none 0 0, .bool false] 33)).setRow (w4).heap.size (sv xT).toArray = V := ⟨_, rfl⟩
          rw [hV8] at KN_xT ⊢
          have K_xT := Lib.hid KN_xT.out.1
          have B_xT := Lib.hid KN_xT.out.2
          clear hV8 KN_xT Z_xT FO_xT SL_xT
          obtain ⟨g8, hg8⟩ : ∃ g, (w4).heap.size = g := ⟨_, rfl⟩
          rw [hg8] at K_xT ⊢
          clear hg8
          have S8 := Lib.hid ((S4.out.below B_xT.out).low PA.out.bel.size)
          have B8 := Lib.hid (B4.out.trans (B_xT.out.mono B4.out.size))
          have P8 := Lib.hid (PA.out.below B8.out)
          have RO2 := Lib.hid (RO1.out.below B_xT.out)
          have BXg := Lib.hid P8.out.box; have BTg := Lib.hid K_xT.out.box
          have SL2 := Lib.hid (sv_len xT S8.out.l4); have FO2 := Lib.hid (sv_one xT)
          have KZ : Kept (fun b => b = g) V8 (V8.setRow g (sv xT).toArray) := (Kept.refl (fun b => b = g) V8).setRowK (.inl rfl) _
          have PZ := Lib.hid (show PL w (V8.setRow g (sv xT).toArray) g xT from ⟨BXg.out.setRow (sv xT), S8.out.kept KZ BXg.out, OD2.out.o, P8.out.ge, below_setRow P8.out.bel P8.out.ge _⟩)
          have cr := RO2.out.cells.2.2.1
          rw [HY1.out] at cr
          dsimp only at cr
          rw [hkd] at cr
          clear S4 B4 FPA B_xT RO1 w' S8 B8 K_xT KZ PX PA RO2 HY1 OD
          go_wp2_with (first
            | ((with_reducible refine load_blk 33 (.tmp 11) g8 33 (sv xT) _ rfl rfl ?_ Tryd.underlying33 ?_ ?_ ?_ ?_); exact BTg.out; exact rfl; exact FX_xT.out; exact rfl)
            | ((with_reducible refine at_op (.store 33 (.tmp 7) (.tmp 70)) rfl ?_); go_must (refine store_blk 33 (.tmp 7) (.tmp 70) g 33 (sv x) (sv xT) rfl rfl BXg.out (SL1.out.trans SL2.out.symm) FX_xT.out FO2.out rfl rfl ?_)))
          exact ⟨⟨i + 1, xT, hlt, by go_num, PZ.out, by simpa using OD2.out⟩, by simp [intOf]; omega⟩
        · by_cases hc64 : i < 64
          · have hc1 : decide ((i : Int) < 24) = false := decide_eq_false (by omega)
            have hc2 : (i : Int) < 64 := by omega
            have hkd : (if i < capF true then (1 : Int) else 5) = 5 := if_neg hc
            have BT := built_outF 1 ((i : Int) + 1) (some ⟨wr.heap.size, 0, none⟩) 1 1 z0 (fun _ => fN (i : Int))
            have PA := Lib.hid (PX.out.below ((Below.refl wr.heap.size wr).alloc (Nat.le_refl _) (.cells (fv (fN (i : Int))).toArray 25)))
            have FPA := Lib.hid (Blk.new wr 25 (fv (fN (i : Int))))
            have DA := Lib.hid (DoM x 0 ⟨⟨1, (i : Int) + 1, 1, 0, 0, z0, 1, fun _ => fN (i : Int)⟩, none, 0, some ⟨wr.heap.size, 0, none⟩, 1⟩ (wr.alloc (.cells (fv (fN (i : Int))).toArray 25)) PA.out.w PA.out.op.may ⟨none_rw _ _ _, rw_one FPA.out, Nat.zero_le _, (by decide : (1 : Nat) ≤ 9223372036854775807)⟩ (Nat.zero_le _) (by decide : (1 : Nat) ≤ 1000) (HU.out.below PA.out.bel) _ rfl)
            have BX := Lib.hid PX.out.box; have FXU := Lib.hid (sv_size x PX.out.sf.l4); have SL1 := Lib.hid (sv_len x PX.out.sf.l4)
            clear a3
            go_wp2_with ((with_reducible refine load_blk 33 (.tmp 7) g 33 (sv x) _ rfl rfl ?_ Tryd.underlying33 ?_ ?_ ?_ ?_); exact BX.out; exact rfl; exact FXU.out; exact rfl)
            refine DA.out.mono ?_
            rintro e w4 ⟨xT, R, q, c', rfl, p', r', s', w', m', ow, ft, -, b'⟩
            have OD2 := Lib.hid (show FullS true (i + 1) ((i : Int) + 1) xT.sp by rw [p']; exact OO.out.2)
            obtain ⟨y1, gl1, rfl, hy1, rfl, ro⟩ := rep_one ow (r'.trans OO.out.1)
            have RO1 := Lib.hid ro; have HY1 := Lib.hid hy1
            have S4 := Lib.hid s'; have B4 := Lib.hid b'
            clear s' b' p' r' m' ow ft ro hy1 DA BX BT OO
            have FX_xT := Lib.hid (sv_size xT w'.l4); have FO_xT := Lib.hid (sv_one xT); have SL_xT := Lib.hid (sv_len xT w'.l4)
            have Z_xT := Lib.hid (Blk.new w4 33 [.int .i64 0, .slice none 0 0, .slice none 0 0, .int .i64 0, .int .i64 0, .int .i64 0, .int .i64 0, .int .i64 0, .slice none 0 0, .bool false, .int .i64 0, .int .i64 0, .int .i64 0, .slice none 0 0, .bool false, .int .i64 0, .int .i64 0, .int .i64 0, .slice none 0 0, .bool false, .int .i64 0, .int .i64 0, .int .i64 0, .slice none 0 0, .bool false])
            have KN_xT := Lib.hid (KSp.new (w1 := w4) (x := xT) w')
            go_upto_region 10 with ((with_reducible refine at_op (.store 33 (.tmp 11) (.tmp 40)) rfl ?_); go_must (refine store_blk 33 (.tmp 11) (.tmp 40) (w4).heap.size 33 _ (sv xT) rfl rfl Z_xT.out SL_xT.out.symm FX_xT.out FO_xT.out rfl rfl ?_))
            obtain ⟨V8, hV8⟩ : ∃ V, ((w4).alloc (.cells #[.int .i64 0, .slice none 0 0, .slice none 0 0, .int .i64 0, .int .i64 0, .int .i64 0, .int .i64 0, .int .i64 0, .slice none 0 0, .bool false, .int .i64 0, .int .i64 0, .int .i64 0, .slice none 0 0, .bool false, .int .i64 0, .int .i64 0, .int .i64 0, .slice none 0 0, .bool false, .int .i64 0, .int .i64 0, .int .i64 0, .slice none 0 0, .bool false] 33)).setRow (w4).heap.size (sv xT).toArray = V := ⟨_, rfl⟩
            rw [hV8] at KN_xT ⊢
            have K_xT := Lib.hid KN_xT.out.1
            have B_xT := Lib.hid KN_xT.out.2
            clear hV8 KN_xT Z_xT FO_xT SL_xT
            obtain ⟨g8, hg8⟩ : ∃ g, (w4).heap.size = g := ⟨_, rfl⟩
            rw [hg8] at K_xT ⊢
            clear hg8
            have S8 := Lib.hid ((S4.out.below B_xT.out).low PA.out.bel.size)
            have B8 := Lib.hid (B4.out.trans (B_xT.out.mono B4.out.size))
            have P8 := Lib.hid (PA.out.below B8.out)
            have RO2 := Lib.hid (RO1.out.below B_xT.out)
            have BXg := Lib.hid P8.out.box; have BTg := Lib.hid K_xT.out.box
            have SL2 := Lib.hid (sv_len xT S8.out.l4); have FO2 := Lib.hid (sv_one xT)
            have KZ : Kept (fun b => b = g) V8 (V8.setRow g (sv xT).toArray) := (Kept.refl (fun b => b = g) V8).setRowK (.inl rfl) _
            have PZ := Lib.hid (show PL w (V8.setRow g (sv xT).toArray) g xT from ⟨BXg.out.setRow (sv xT), S8.out.kept KZ BXg.out, OD2.out.o, P8.out.ge, below_setRow P8.out.bel P8.out.ge _⟩)
            have cr := RO2.out.cells.2.2.1
            rw [HY1.out] at cr
            dsimp only at cr
            rw [hkd] at cr
            clear S4 B4 FPA B_xT RO1 w' S8 B8 K_xT KZ PX PA RO2 HY1 OD
            go_wp2_with (first
              | ((with_reducible refine load_blk 33 (.tmp 11) g8 33 (sv xT) _ rfl rfl ?_ Tryd.underlying33 ?_ ?_ ?_ ?_); exact BTg.out; exact rfl; exact FX_xT.out; exact rfl)
              | ((with_reducible refine at_op (.store 33 (.tmp 7) (.tmp 70)) rfl ?_); go_must (refine store_blk 33 (.tmp 7) (.tmp 70) g 33 (sv x) (sv xT) rfl rfl BXg.out (SL1.out.trans SL2.out.symm) FX_xT.out FO2.out rfl rfl ?_)))
            exact ⟨⟨i + 1, xT, hlt, by go_num, PZ.out, by simpa using OD2.out⟩, by simp [intOf]; omega⟩
          · have hc1 : decide ((i : Int) < 24) = false := decide_eq_false (by omega)
            have hc2 : decide ((i : Int) < 64) = false := decide_eq_false (by omega)
            have hkd : (if i < capF true then (1 : Int) else 5) = 5 := if_neg hc
            have BT := built_outF 1 ((i : Int) + 1) (some ⟨wr.heap.size, 0, none⟩) 1 1 z0 (fun _ => fN (i : Int))
            have PA := Lib.hid (PX.out.below ((Below.refl wr.heap.size wr).alloc (Nat.le_refl _) (.cells (fv (fN (i : Int))).toArray 25)))
            have FPA := Lib.hid (Blk.new wr 25 (fv (fN (i : Int))))
            have DA := Lib.hid (DoM x 0 ⟨⟨1, (i : Int) + 1, 1, 0, 0, z0, 1, fun _ => fN (i : Int)⟩, none, 0, some ⟨wr.heap.size, 0, none⟩, 1⟩ (wr.alloc (.cells (fv (fN (i : Int))).toArray 25)) PA.out.w PA.out.op.may ⟨none_rw _ _ _, rw_one FPA.out, Nat.zero_le _, (by decide : (1 : Nat) ≤ 9223372036854775807)⟩ (Nat.zero_le _) (by decide : (1 : Nat) ≤ 1000) (HU.out.below PA.out.bel) _ rfl)
            have BX := Lib.hid PX.out.box; have FXU := Lib.hid (sv_size x PX.out.sf.l4); have SL1 := Lib.hid (sv_len x PX.out.sf.l4)
            clear a3
            go_wp2_with ((with_reducible refine load_blk 33 (.tmp 7) g 33 (sv x) _ rfl rfl ?_ Tryd.underlying33 ?_ ?_ ?_ ?_); exact BX.out; exact rfl; exact FXU.out; exact rfl)
            refine DA.out.mono ?_
            rintro e w4 ⟨xT, R, q, c', rfl, p', r', s', w', m', ow, ft, -, b'⟩
            have OD2 := Lib.hid (show FullS true (i + 1) ((i : Int) + 1) xT.sp by rw [p']; exact OO.out.2)
            obtain ⟨y1, gl1, rfl, hy1, rfl, ro⟩ := rep_one ow (r'.trans OO.out.1)
            have RO1 := Lib.hid ro; have HY1 := Lib.hid hy1
            have S4 := Lib.hid s'; have B4 := Lib.hid b'
            clear s' b' p' r' m' ow ft ro hy1 DA BX BT OO
            have FX_xT := Lib.hid (sv_size xT w'.l4); have FO_xT := Lib.hid (sv_one xT); have SL_xT := Lib.hid (sv_len xT w'.l4)
            have Z_xT := Lib.hid (Blk.new w4 33 [.int .i64 0, .slice none 0 0, .slice none 0 0, .int .i64 0, .int .i64 0, .int .i64 0, .int .i64 0, .int .i64 0, .slice none 0 0, .bool false, .int .i64 0, .int .i64 0, .int .i64 0, .slice none 0 0, .bool false, .int .i64 0, .int .i64 0, .int .i64 0, .slice none 0 0, .bool false, .int .i64 0, .int .i64 0, .int .i64 0, .slice none 0 0, .bool false])
            have KN_xT := Lib.hid (KSp.new (w1 := w4) (x := xT) w')
            go_upto_region 10 with ((with_reducible refine at_op (.store 33 (.tmp 11) (.tmp 40)) rfl ?_); go_must (refine store_blk 33 (.tmp 11) (.tmp 40) (w4).heap.size 33 _ (sv xT) rfl rfl Z_xT.out SL_xT.out.symm FX_xT.out FO_xT.out rfl rfl ?_))
            obtain ⟨V8, hV8⟩ : ∃ V, ((w4).alloc (.cells #[.int .i64 0, .slice none 0 0, .slice none 0 0, .int .i64 0, .int .i64 0, .int .i64 0, .int .i64 0, .int .i64 0, .slice none 0 0, .bool false, .int .i64 0, .int .i64 0, .int .i64 0, .slice none 0 0, .bool false, .int .i64 0, .int .i64 0, .int .i64 0, .slice none 0 0, .bool false, .int .i64 0, .int .i64 0, .int .i64 0, .slice none 0 0, .bool false] 33)).setRow (w4).heap.size (sv xT).toArray = V := ⟨_, rfl⟩
            rw [hV8] at KN_xT ⊢
            have K_xT := Lib.hid KN_xT.out.1
            have B_xT := Lib.hid KN_xT.out.2
            clear hV8 KN_xT Z_xT FO_xT SL_xT
            obtain ⟨g8, hg8⟩ : ∃ g, (w4).heap.size = g := ⟨_, rfl⟩
            rw [hg8] at K_xT ⊢
            clear hg8
            have S8 := Lib.hid ((S4.out.below B_xT.out).low PA.out.bel.size)
            have B8 := Lib.hid (B4.out.trans (B_xT.out.mono B4.out.size))
            have P8 := Lib.hid (PA.out.below B8.out)
            have RO2 := Lib.hid (RO1.out.below B_xT.out)
            have BXg := Lib.hid P8.out.box; have BTg := Lib.hid K_xT.out.box
            have SL2 := Lib.hid (sv_len xT S8.out.l4); have FO2 := Lib.hid (sv_one xT)
            have KZ : Kept (fun b => b = g) V8 (V8.setRow g (sv xT).toArray) := (Kept.refl (fun b => b = g) V8).setRowK (.inl rfl) _
            have PZ := Lib.hid (show PL w (V8.setRow g (sv xT).toArray) g xT from ⟨BXg.out.setRow (sv xT), S8.out.kept KZ BXg.out, OD2.out.o, P8.out.ge, below_setRow P8.out.bel P8.out.ge _⟩)
            have cr := RO2.out.cells.2.2.1
            rw [HY1.out] at cr
            dsimp only at cr
            rw [hkd] at cr
            clear S4 B4 FPA B_xT RO1 w' S8 B8 K_xT KZ PX PA RO2 HY1 OD
            go_wp2_with (first
              | ((with_reducible refine load_blk 33 (.tmp 11) g8 33 (sv xT) _ rfl rfl ?_ Tryd.underlying33 ?_ ?_ ?_ ?_); exact BTg.out; exact rfl; exact FX_xT.out; exact rfl)
              | ((with_reducible refine at_op (.store 33 (.tmp 7) (.tmp 70)) rfl ?_); go_must (refine store_blk 33 (.tmp 7) (.tmp 70) g 33 (sv x) (sv xT) rfl rfl BXg.out (SL1.out.trans SL2.out.symm) FX_xT.out FO2.out rfl rfl ?_)))
            exact ⟨⟨i + 1, xT, hlt, by go_num, PZ.out, by simpa using OD2.out⟩, by simp [intOf]; omega⟩
    · obtain rfl : i = k := by omega
      clear hlt
      have WB := Lib.hid OD.out.wait
      obtain ⟨m, hm, hme⟩ := mod_s 21 (by decide) (by decide) wait
      rw [show ((21 : Nat) : Int) = 21 from rfl] at hme
      have m21 : (m : Int) < 21 := by omega
      have HM := Lib.hid hm
      clear hm OD
      go_upto_region 17 with (fail)
      go_loopw [14] (fun s wr => ∃ (j : Nat) (b : Int) (x : Spv), j ≤ m ∧ s = .int .i64 (j : Int) ∧ b < 200 + (j : Int) ∧ PL w wr g x ∧ FullW j b x.sp) (fun s _ => m - (intOf s).toNat)
      case atStart => exact ⟨0, i, x, Nat.zero_le _, rfl, by have := HK.out; omega, PX.out, WB.out⟩
      case round =>
        clear PX WB
        obtain ⟨i, b, x, hi, rfl, hb, px, wb⟩ := hrel
        have PX := Lib.hid px; have WB := Lib.hid wb
        clear px wb
        by_cases hlt : i < m
        · have i2 : (i : Int) < (m : Int) := by omega
          have a3 := and3f i (by have := HM.out; omega)
          have OO := Lib.hid (full_wait (F := z0) (G := fun _ => fAT) WB.out (by have := HM.out; omega) hb rfl)
          obtain ⟨c2, hc2⟩ : ∃ z : Int, ((i % 4 : Nat) : Int) = z := ⟨_, rfl⟩
          rw [hc2] at a3 OO
          clear hc2 hb WB
          by_cases hc : i < 16
          · have hc1 : (i : Int) < 16 := by omega
            have hkd : (if i < 16 then (4 : Int) else 5) = 4 := if_pos hc
            have BT := built_look c2 (200 + (i : Int)) 5 (some ⟨wr.heap.size, 0, none⟩) 1 1 z0 (fun _ => fAT)
            have PA := Lib.hid (PX.out.below ((Below.refl wr.heap.size wr).alloc (Nat.le_refl _) (.cells (fv fAT).toArray 25)))
            have FPA := Lib.hid (Blk.new wr 25 (fv fAT))
            have DA := Lib.hid (DoM x 0 ⟨⟨c2, 200 + (i : Int), 5, 0, 1, fun _ => fAT, 0, z0⟩, some ⟨wr.heap.size, 0, none⟩, 1, none, 0⟩ (wr.alloc (.cells (fv fAT).toArray 25)) PA.out.w PA.out.op.may ⟨rw_one FPA.out, none_rw _ _ _, (by decide : (1 : Nat) ≤ 9223372036854775807), Nat.zero_le _⟩ (by decide : (1 : Nat) ≤ 1000) (Nat.zero_le _) (HU.out.below PA.out.bel) _ rfl)
            have BX := Lib.hid PX.out.box; have FXU := Lib.hid (sv_size x PX.out.sf.l4); have SL1 := Lib.hid (sv_len x PX.out.sf.l4)
            go_wp2_with ((with_reducible refine load_blk 33 (.tmp 7) g 33 (sv x) _ rfl rfl ?_ Tryd.underlying33 ?_ ?_ ?_ ?_); exact BX.out; exact rfl; exact FXU.out; exact rfl)
            refine DA.out.mono ?_
            rintro e w4 ⟨xT, R, q, c', rfl, p', r', s', w', m', ow, ft, -, b'⟩
            have OD2 := Lib.hid (show FullW (i + 1) (200 + (i : Int)) xT.sp by rw [p']; exact OO.out.2)
            obtain ⟨y1, gl1, rfl, hy1, rfl, ro⟩ := rep_one ow (r'.trans OO.out.1)
            have RO1 := Lib.hid ro; have HY1 := Lib.hid hy1
            have S4 := Lib.hid s'; have B4 := Lib.hid b'
            clear s' b' p' r' m' ow ft ro hy1 DA BX BT OO
            have FX_xT := Lib.hid (sv_size xT w'.l4); have FO_xT := Lib.hid (sv_one xT); have SL_xT := Lib.hid (sv_len xT w'.l4)
            have Z_xT := Lib.hid (Blk.new w4 33 [.int .i64 0, .slice none 0 0, .slice none 0 0, .int .i64 0, .int .i64 0, .int .i64 0, .int .i64 0, .int .i64 0, .slice none 0 0, .bool false, .int .i64 0, .int .i64 0, .int .i64 0, .slice none 0 0, .bool false, .int .i64 0, .int .i64 0, .int .i64 0, .slice none 0 0, .bool false, .int .i64 0, .int .i64 0, .int .i64 0, .slice none 0 0, .bool false])
            have KN_xT := Lib.hid (KSp.new (w1 := w4) (x := xT) w')
            go_upto_region 20 with ((with_reducible refine at_op (.store 33 (.tmp 15) (.tmp 89)) rfl ?_); go_must (refine store_blk 33 (.tmp 15) (.tmp 89) (w4).heap.size 33 _ (sv xT) rfl rfl Z_xT.out SL_xT.out.symm FX_xT.out FO_xT.out rfl rfl ?_))
            obtain ⟨V8, hV8⟩ : ∃ V, ((w4).alloc (.cells #[.int .i64 0, .slice none 0 0, .slice none 0 0, .int .i64 0, .int .i64 0, .int .i64 0, .int .i64 0, .int .i64 0, .slice none 0 0, .bool false, .int .i64 0, .int .i64 0, .int .i64 0, .slice none 0 0, .bool false, .int .i64 0, .int .i64 0, .int .i64 0, .slice none 0 0, .bool false, .int .i64 0, .int .i64 0, .int .i64 0, .slice none 0 0, .bool false] 33)).setRow (w4).heap.size (sv xT).toArray = V := ⟨_, rfl⟩
            rw [hV8] at KN_xT ⊢
            have K_xT := Lib.hid KN_xT.out.1
            have B_xT := Lib.hid KN_xT.out.2
            clear hV8 KN_xT Z_xT FO_xT SL_xT
            obtain ⟨g8, hg8⟩ : ∃ g, (w4).heap.size = g := ⟨_, rfl⟩
            rw [hg8] at K_xT ⊢
            clear hg8
            have S8 := Lib.hid ((S4.out.below B_xT.out).low PA.out.bel.size)
            have B8 := Lib.hid (B4.out.trans (B_xT.out.mono B4.out.size))
            have P8 := Lib.hid (PA.out.below B8.out)
            have RO2 := Lib.hid (RO1.out.below B_xT.out)
            have BXg := Lib.hid P8.out.box; have BTg := Lib.hid K_xT.out.box
            have SL2 := Lib.hid (sv_len xT S8.out.l4); have FO2 := Lib.hid (sv_one xT)
            have KZ : Kept (fun b => b = g) V8 (V8.setRow g (sv xT).toArray) := (Kept.refl (fun b => b = g) V8).setRowK (.inl rfl) _
            have PZ := Lib.hid (show PL w (V8.setRow g (sv xT).toArray) g xT from ⟨BXg.out.setRow (sv xT), S8.out.kept KZ BXg.out, OD2.out.o, P8.out.ge, below_setRow P8.out.bel P8.out.ge _⟩)
            have cr := RO2.out.cells.2.2.1
            rw [HY1.out] at cr
            dsimp only at cr
            rw [hkd] at cr
            clear S4 B4 FPA B_xT RO1 w' S8 B8 K_xT KZ PX PA RO2 HY1
            go_wp2_with (first
              | ((with_reducible refine load_blk 33 (.tmp 15) g8 33 (sv xT) _ rfl rfl ?_ Tryd.underlying33 ?_ ?_ ?_ ?_); exact BTg.out; exact rfl; exact FX_xT.out; exact rfl)
              | ((with_reducible refine at_op (.store 33 (.tmp 7) (.tmp 104)) rfl ?_); go_must (refine store_blk 33 (.tmp 7) (.tmp 104) g 33 (sv x) (sv xT) rfl rfl BXg.out (SL1.out.trans SL2.out.symm) FX_xT.out FO2.out rfl rfl ?_)))
            exact ⟨⟨i + 1, 200 + (i : Int), xT, hlt, by go_num, by omega, PZ.out, OD2.out⟩, by simp [intOf]; omega⟩
          · have hc1 : decide ((i : Int) < 16) = false := decide_eq_false (by omega)
            have hkd : (if i < 16 then (4 : Int) else 5) = 5 := if_neg hc
            have BT := built_look c2 (200 + (i : Int)) 5 (some ⟨wr.heap.size, 0, none⟩) 1 1 z0 (fun _ => fAT)
            have PA := Lib.hid (PX.out.below ((Below.refl wr.heap.size wr).alloc (Nat.le_refl _) (.cells (fv fAT).toArray 25)))
            have FPA := Lib.hid (Blk.new wr 25 (fv fAT))
            have DA := Lib.hid (DoM x 0 ⟨⟨c2, 200 + (i : Int), 5, 0, 1, fun _ => fAT, 0, z0⟩, some ⟨wr.heap.size, 0, none⟩, 1, none, 0⟩ (wr.alloc (.cells (fv fAT).toArray 25)) PA.out.w PA.out.op.may ⟨rw_one FPA.out, none_rw _ _ _, (by decide : (1 : Nat) ≤ 9223372036854775807), Nat.zero_le _⟩ (by decide : (1 : Nat) ≤ 1000) (Nat.zero_le _) (HU.out.below PA.out.bel) _ rfl)
            have BX := Lib.hid PX.out.box; have FXU := Lib.hid (sv_size x PX.out.sf.l4); have SL1 := Lib.hid (sv_len x PX.out.sf.l4)
            go_wp2_with ((with_reducible refine load_blk 33 (.tmp 7) g 33 (sv x) _ rfl rfl ?_ Tryd.underlying33 ?_ ?_ ?_ ?_); exact BX.out; exact rfl; exact FXU.out; exact rfl)
            refine DA.out.mono ?_
            rintro e w4 ⟨xT, R, q, c', rfl, p', r', s', w', m', ow, ft, -, b'⟩
            have OD2 := Lib.hid (show FullW (i + 1) (200 + (i : Int)) xT.sp by rw [p']; exact OO.out.2)
            obtain ⟨y1, gl1, rfl, hy1, rfl, ro⟩ := rep_one ow (r'.trans OO.out.1)
            have RO1 := Lib.hid ro; have HY1 := Lib.hid hy1
            have S4 := Lib.hid s'; have B4 := Lib.hid b'
            clear s' b' p' r' m' ow ft ro hy1 DA BX BT OO
            have FX_xT := Lib.hid (sv_size xT w'.l4); have FO_xT := Lib.hid (sv_one xT); have SL_xT := Lib.hid (sv_len xT w'.l4)
            have Z_xT := Lib.hid (Blk.new w4 33 [.int .i64 0, .slice none 0 0, .slice none 0 0, .int .i64 0, .int .i64 0, .int .i64 0, .int .i64 0, .int .i64 0, .slice none 0 0, .bool false, .int .i64 0, .int .i64 0, .int .i64 0, .slice none 0 0, .bool false, .int .i64 0, .int .i64 0, .int .i64 0, .slice none 0 0, .bool false, .int .i64 0, .int .i64 0, .int .i64 0, .slice none 0 0, .bool false])
            have KN_xT := Lib.hid (KSp.new (w1 := w4) (x := xT) w')
            go_upto_region 20 with ((with_reducible refine at_op (.store 33 (.tmp 15) (.tmp 89)) rfl ?_); go_must (refine store_blk 33 (.tmp 15) (.tmp 89) (w4).heap.size 33 _ (sv xT) rfl rfl Z_xT.out SL_xT.out.symm FX_xT.out FO_xT.out rfl rfl ?_))
            obtain ⟨V8, hV8⟩ : ∃ V, ((w4).alloc (.cells #[.int .i64 0, .slice none 0 0, .slice none 0 0, .int .i64 0, .int .i64 0, .int .i64 0, .int .i64 0, .int .i64 0, .slice none 0 0, .bool false, .int .i64 0, .int .i64 0, .int .i64 0, .slice none 0 0, .bool false, .int .i64 0, .int .i64 0, .int .i64 0, .slice none 0 0, .bool false, .int .i64 0, .int .i64 0, .int .i64 0, .slice none 0 0, .bool false] 33)).setRow (w4).heap.size (sv xT).toArray = V := ⟨_, rfl⟩
            rw [hV8] at KN_xT ⊢
            have K_xT := Lib.hid KN_xT.out.1
            have B_xT := Lib.hid KN_xT.out.2
            clear hV8 KN_xT Z_xT FO_xT SL_xT
            obtain ⟨g8, hg8⟩ : ∃ g, (w4).heap.size = g := ⟨_, rfl⟩
            rw [hg8] at K_xT ⊢
            clear hg8
            have S8 := Lib.hid ((S4.out.below B_xT.out).low PA.out.bel.size)
            have B8 := Lib.hid (B4.out.trans (B_xT.out.mono B4.out.size))
            have P8 := Lib.hid (PA.out.below B8.out)
            have RO2 := Lib.hid (RO1.out.below B_xT.out)
            have BXg := Lib.hid P8.out.box; have BTg := Lib.hid K_xT.out.box
            have SL2 := Lib.hid (sv_len xT S8.out.l4); have FO2 := Lib.hid (sv_one xT)
            have KZ : Kept (fun b => b = g) V8 (V8.setRow g (sv xT).toArray) := (Kept.refl (fun b => b = g) V8).setRowK (.inl rfl) _
            have PZ := Lib.hid (show PL w (V8.setRow g (sv xT).toArray) g xT from ⟨BXg.out.setRow (sv xT), S8.out.kept KZ BXg.out, OD2.out.o, P8.out.ge, below_setRow P8.out.bel P8.out.ge _⟩)
            have cr := RO2.out.cells.2.2.1
            rw [HY1.out] at cr
            dsimp only at cr
            rw [hkd] at cr
            clear S4 B4 FPA B_xT RO1 w' S8 B8 K_xT KZ PX PA RO2 HY1
            go_wp2_with (first
              | ((with_reducible refine load_blk 33 (.tmp 15) g8 33 (sv xT) _ rfl rfl ?_ Tryd.underlying33 ?_ ?_ ?_ ?_); exact BTg.out; exact rfl; exact FX_xT.out; exact rfl)
              | ((with_reducible refine at_op (.store 33 (.tmp 7) (.tmp 104)) rfl ?_); go_must (refine store_blk 33 (.tmp 7) (.tmp 104) g 33 (sv x) (sv xT) rfl rfl BXg.out (SL1.out.trans SL2.out.symm) FX_xT.out FO2.out rfl rfl ?_)))
            exact ⟨⟨i + 1, 200 + (i : Int), xT, hlt, by go_num, by omega, PZ.out, OD2.out⟩, by simp [intOf]; omega⟩
        · obtain rfl : i = m := by omega
          have TD := Lib.hid (tolds_t wr (HU.out.below PX.out.bel))
          clear hlt
          go_wp2_with fail
          refine TD.out.mono ?_
          rintro e w4 ⟨rfl, b4⟩
          have P4 := Lib.hid (PX.out.below b4)
          have BX := Lib.hid P4.out.box; have FXU := Lib.hid (sv_size x P4.out.sf.l4)
          have MY := Lib.hid (refMaySpace_t x w4 P4.out.w)
          rw [mayS_iff.2 P4.out.op.may] at MY
          clear b4 TD
          go_wp2_with ((with_reducible refine load_blk_gdO 107 33 (.tmp 7) g 33 (sv x) _ ?_ ?_ rfl ?_ Tryd.underlying33 ?_ ?_ ?_ ?_); exact rfl; kernel_rfl; exact BX.out; exact rfl; exact FXU.out; exact rfl)
          refine MY.out.mono ?_
          rintro e w5 ⟨rfl, b5⟩
          go_wp2_with fail
          go_ret
          exact ⟨rfl, P4.out.bel.trans (b5.mono P4.out.bel.size)⟩
end Go.Proofs.YtlamfdeepofenaaDoor
