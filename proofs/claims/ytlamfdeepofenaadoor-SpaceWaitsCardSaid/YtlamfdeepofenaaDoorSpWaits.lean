/-
  SpaceWaits walked.
-/
import Derived.Test.YtlamfdeepofenaaDoorSpOldest
import Derived.Test.YtlamfdeepofenaaDoorSpXe
namespace Go.Proofs.YtlamfdeepofenaaDoor
open Go Go.RowKit Sh

theorem and1s : ∀ k : Nat, k < 64 → bits .and .i64 (k : Int) 1 = ((k % 2 : Nat) : Int) := by decide +kernel
theorem SF.farS {B b : Nat} {W W' : World} {x : Spv} {cs : List Value} (h : SF B W x) (hb : Blk W b 33 cs) (hk : Kept (fun k => k = b) W W') : SF B W' x := h.kept hk hb
/-- Where the inner loop of SpaceWaits stands. -/
structure RunS (T : Nat → Bool) (k a0 a : Nat) (tk : Bool) : Prop where
  ge : a0 ≤ a
  le : a ≤ k
  no : tk = false → runW T a0 (k - a0) = runW T a (k - a)
  yes : tk = true → runW T a0 (k - a0) = (a, true)
theorem RunS.start {T : Nat → Bool} {k a : Nat} (h : a ≤ k) : RunS T k a a false := ⟨Nat.le_refl _, h, fun _ => rfl, fun h => by cases h⟩
theorem RunS.next {T : Nat → Bool} {k a0 a : Nat} (h : RunS T k a0 a false) (hl : a < k) : RunS T k a0 (a + 1) (T a) ∧ a < (runW T a0 (k - a0)).1 := by
  have e := h.no rfl
  obtain ⟨d, hd⟩ : ∃ d, k - a = d + 1 := ⟨k - a - 1, by omega⟩
  have hge := runW_ge T d (a + 1)
  have e2 : runW T a (d + 1) = if T a then (a + 1, true) else runW T (a + 1) d := rfl
  rw [hd, e2] at e
  cases ht : T a with
  | true =>
    rw [ht, if_pos rfl] at e
    exact ⟨⟨by have := h.ge; omega, hl, fun h => (by cases h), fun _ => e⟩, by rw [e]; exact Nat.lt_succ_self a⟩
  | false =>
    rw [ht, if_neg (by decide)] at e
    exact ⟨⟨by have := h.ge; omega, hl, fun _ => by rw [e, show k - (a + 1) = d by omega], fun h => (by cases h)⟩, by rw [e]; omega⟩
theorem RunS.stop {T : Nat → Bool} {k a0 a : Nat} {tk : Bool} (h : RunS T k a0 a tk) (hs : tk = true ∨ a = k) : runW T a0 (k - a0) = (a, tk) := by
  cases tk with
  | true => exact h.yes rfl
  | false =>
    obtain rfl : a = k := by simpa using hs
    rw [h.no rfl, Nat.sub_self]
    rfl
/-- A row of replies as it lies. -/
structure RR (W : World) (b o : Nat) (R : List Rpv) : Prop where
  lt : b < W.heap.size
  at_ : ∀ j y, R[j]? = some y → W.rangeAt b (o + j * 5) (pv y)
theorem RR.below {W W' : World} {b o : Nat} {R : List Rpv} (h : RR W b o R) (hb : Below W.heap.size W W') : RR W' b o R := ⟨Nat.lt_of_lt_of_le h.lt hb.size, fun j y hy => rows_below (h.at_ j y hy) hb h.lt⟩
theorem RR.cells {W : World} {b o j : Nat} {R : List Rpv} {y : Rpv} (h : RR W b o R) (hy : R[j]? = some y) : W.cell? ⟨b, o + j * 5, none⟩ = some (.int .i64 y.r.cl) ∧ W.cell? ⟨b, o + j * 5 + 1, none⟩ = some (.int .i64 y.r.sq) ∧ W.cell? ⟨b, o + j * 5 + 2, none⟩ = some (.int .i64 y.r.kd) ∧ W.cell? ⟨b, o + j * 5 + 3, none⟩ = some (.slice y.p y.r.t.length y.c) ∧ W.cell? ⟨b, o + j * 5 + 4, none⟩ = some (.bool y.r.lt) := by
  have h := h.at_ j y hy
  exact ⟨h 0 _ rfl, h 1 _ rfl, h 2 _ rfl, h 3 _ rfl, h 4 _ rfl⟩
theorem RR.of {W : World} {B c : Nat} {q : Option Addr} {R : List Rpv} (h : W.ownsRow B 30 5 (.slice q R.length c) R.length (R.flatMap pv)) (hr : 0 < R.length) : ∃ b o, q = some ⟨b, o, none⟩ ∧ RR W b o R := by
  have hl := RowL.of_own pv_len rfl h
  obtain ⟨b, o, e, hb, _⟩ := hl.at hr
  refine ⟨b, o, e, hb, fun j y hy => ?_⟩
  obtain ⟨b', o', e', _, r⟩ := hl j y hy
  rw [e] at e'
  injection e' with e'
  injection e' with e1 e2
  subst e1 e2
  exact r
theorem late_at {R : List Rpv} {r0 : Rp} {f : Nat → Rp} {a0 d a : Nat} (h : R.map (·.r) = r0 :: (List.range' a0 d).map f) (h1 : a0 ≤ a) (h2 : a < a0 + d) : ∃ y, R[1 + (a - a0)]? = some y ∧ y.r = f a := by
  have e : (R.map (·.r))[1 + (a - a0)]? = some (f a) := by
    rw [h, Nat.add_comm 1, List.getElem?_cons_succ, List.getElem?_map, List.getElem?_range' (by omega)]
    show some (f (a0 + 1 * (a - a0))) = some (f a)
    rw [Nat.one_mul, Nat.add_sub_cancel' h1]
  rw [List.getElem?_map] at e
  obtain ⟨y, hy, hr⟩ := Option.map_eq_some_iff.1 e
  exact ⟨y, hy, hr⟩
theorem late_head {R : List Rpv} {r0 : Rp} {l : List Rp} (h : R.map (·.r) = r0 :: l) : ∃ y, R[0]? = some y ∧ y.r = r0 ∧ R.length = l.length + 1 := by
  cases R with
  | nil => simp at h
  | cons y R =>
    simp only [List.map_cons, List.cons.injEq] at h
    exact ⟨y, rfl, h.1, by rw [List.length_cons, ← h.2, List.length_map]⟩
theorem ft_num {W : World} {B c : Nat} {p : Option Addr} {t : List Fld} {v : Int} (h : FT W B p c t) (ht : t = [fN v]) : ∃ b o, p = some ⟨b, o, none⟩ ∧ b < W.heap.size ∧ W.cell? ⟨b, o + 1, none⟩ = some (.int .i64 v) := by
  subst ht
  obtain ⟨b, o, e, hb, r⟩ := (FT.tr h (show [fN v].length ≤ 9223372036854775807 from (by decide : (1 : Nat) ≤ 9223372036854775807))).t 0 (show 0 < [fN v].length from Nat.zero_lt_one)
  exact ⟨b, o, e, hb, r 1 _ rfl⟩
theorem built_out1 (k q : Int) (p : Option Addr) (n c : Nat) (F G : Nat → Fld) : Tryd.prog.built 39 [(0, .int .i64 k), (1, .int .i64 q), (2, .int .i64 1), (4, .slice p n c)] = some (rv ⟨⟨k, q, 1, 0, 0, F, n, G⟩, none, 0, p, c⟩).toArray := by kernel_rfl
set_option maxRecDepth 100000 in
set_option maxHeartbeats 8000000 in
theorem swaits_t (A : Option Addr) (n c : Nat) (T : Nat → Bool) (tuples : Int) (w : World) (hn : n ≤ 9223372036854775807) (hA : BsW w A n T) (hu : UT w) :
    Calls Tryd.prog 6 #[.slice A n c, .int .i64 tuples] w fun e w' => e = .returned (.bool true) ∧ Below w.heap.size w w' := by
  have HA := Lib.hid hA; have HU := Lib.hid hu
  clear hA hu
  go_enter Tryd.func6, Tryd.ntmps6
  go_wp2_with fail
  refine (New_t 15 15 w).mono ?_
  rintro e w2 ⟨rfl, b2⟩
  have B2 := Lib.hid b2
  have Z2 := Lib.hid (Blk.new w2 33 zSp)
  obtain ⟨x0, hx0⟩ : ∃ x, nsp 15 15 0 1 2 3 = x := ⟨_, rfl⟩
  have P0 : x0.sp = newS 15 15 := by rw [← hx0]; exact nsp_sp 15 15
  have hl0 : x0.last.length = 4 := by rw [← hx0]; rfl
  have PL0 := Lib.hid (show PL w ((w2.alloc (.cells zSp.toArray 33)).setRow w2.heap.size (sv x0).toArray) w2.heap.size x0 from
    ⟨(Blk.new w2 33 zSp).setRow (sv x0), by rw [← hx0]; exact sf_new _ _ _ _ _ _ _ _, by rw [P0]; exact Op15.new, B2.out.size, below_setRow (B2.out.alloc B2.out.size _) B2.out.size _⟩)
  have FX0 := Lib.hid (sv_size x0 hl0); have FO0 := Lib.hid (sv_one x0); have SL0 := Lib.hid (sv_len x0 hl0)
  rw [hx0]
  clear b2 B2 hx0 hl0
  go_upto_region 2 with ((with_reducible refine at_op (.store 33 (.tmp 5) (.tmp 19)) rfl ?_); go_must (refine store_blk 33 (.tmp 5) (.tmp 19) w2.heap.size 33 _ (sv x0) rfl rfl Z2.out SL0.out.symm FX0.out FO0.out rfl rfl ?_))
  change Code.wp _ _ _ _ ((w2.alloc (.cells zSp.toArray 33)).setRow w2.heap.size (sv x0).toArray)
  obtain ⟨V2, hV2⟩ : ∃ V, (w2.alloc (.cells zSp.toArray 33)).setRow w2.heap.size (sv x0).toArray = V := ⟨_, rfl⟩
  rw [hV2] at PL0 ⊢
  obtain ⟨g, hg⟩ : ∃ g, w2.heap.size = g := ⟨_, rfl⟩
  rw [hg] at PL0 ⊢
  have N0 := Lib.hid (show WaitA T 0 x0.sp by rw [P0]; exact waitA_new T)
  clear hV2 hg Z2 FX0 FO0 SL0 P0
  obtain ⟨k, hk⟩ : ∃ k : Nat, min n 10 = k := ⟨_, rfl⟩
  have hk10 : k ≤ 10 := by omega
  have hkn : k ≤ n := by omega
  go_upto_region 3 with (fail)
  rw [show (if (10 : Int) < (n : Int) then (10 : Int) else (n : Int)) = (k : Int) by split <;> omega]
  have HK := Lib.hid (And.intro hk10 hkn)
  have k10 : (k : Int) ≤ 10 := by omega
  clear hk hk10 hkn
  go_upto_region 4 with (fail)
  have BA := Lib.hid ((Below.refl V2.heap.size V2).alloc (Nat.le_refl _) (.cells (fv fAI).toArray 25))
  have PV := Lib.hid (PL0.out.below BA.out)
  have FP0 := Lib.hid (Blk.new V2 25 (fv fAI))
  change Code.wp _ _ _ _ (V2.alloc (.cells (fv fAI).toArray 25))
  clear BA
  obtain ⟨V, hV⟩ : ∃ V, V2.alloc (.cells (fv fAI).toArray 25) = V := ⟨_, rfl⟩
  obtain ⟨hp, hhp⟩ : ∃ h, V2.heap.size = h := ⟨_, rfl⟩
  rw [hV] at PV FP0 ⊢
  rw [hhp] at FP0 ⊢
  clear hV hhp PL0
  go_upto_region 5 with (fail)
  go_loopw [8] (fun s wr => ∃ (i : Nat) (x : Spv), i ≤ k ∧ s = .int .i64 (i : Int) ∧ PL w wr g x ∧ WaitA T i x.sp ∧ Blk wr hp 25 (fv fAI)) (fun s _ => k - (intOf s).toNat)
  case atStart => exact ⟨0, x0, Nat.zero_le _, rfl, PV.out, N0.out, FP0.out⟩
  case round =>
    clear PV N0 FP0
    obtain ⟨i, x, hi, rfl, px, od, fp⟩ := hrel
    have PX := Lib.hid px; have OD := Lib.hid od; have FP := Lib.hid fp
    clear px od fp
    by_cases hlt : i < k
    · obtain ⟨b, o, rfl, _, ca⟩ := HA.out.at PX.out.bel (show i < n by have := HK.out; omega)
      have i1 : (i : Int) < (n : Int) := by have := HK.out; omega
      have i2 : (i : Int) < (k : Int) := by omega
      have a3 := and1s i (by have := HK.out; omega)
      obtain ⟨c2, hc2⟩ : ∃ z : Int, ((i % 2 : Nat) : Int) = z := ⟨_, rfl⟩
      rw [hc2] at a3
      cases htk : T i with
      | false =>
      rw [htk] at ca
      have BT := built_look c2 ((i : Int) + 1) 4 (some ⟨hp, 0, none⟩) 1 1 z0 (fun _ => fAI)
      have OO := Lib.hid (wait_step1 (F := z0) (G := fun _ => fAI) (kd := 4) OD.out (by have := HK.out; omega) (by rw [htk]; rfl) rfl)
      rw [hc2] at OO
      have DA := Lib.hid (DoM x 1 ⟨⟨c2, (i : Int) + 1, 4, 0, 1, fun _ => fAI, 0, z0⟩, some ⟨hp, 0, none⟩, 1, none, 0⟩ wr PX.out.w PX.out.op.may ⟨rw_one FP.out, none_rw _ _ _, (by decide : (1 : Nat) ≤ 9223372036854775807), Nat.zero_le _⟩ (by decide : (1 : Nat) ≤ 1000) (Nat.zero_le _) (HU.out.below PX.out.bel) _ rfl)
      have BX := Lib.hid PX.out.box; have FXU := Lib.hid (sv_size x PX.out.sf.l4); have SL1 := Lib.hid (sv_len x PX.out.sf.l4)
      clear hc2
      go_wp2_with ((with_reducible refine load_blk 33 (.tmp 5) g 33 (sv x) _ rfl rfl ?_ Tryd.underlying33 ?_ ?_ ?_ ?_); exact BX.out; exact rfl; exact FXU.out; exact rfl)
      refine DA.out.mono ?_
      rintro e w4 ⟨xT, R, q, c', rfl, p', r', s', w', m', ow, ft, -, b'⟩
      have OD2 := Lib.hid (show WaitA T (i + 1) xT.sp by rw [p']; exact OO.out.2)
      obtain ⟨y1, gl1, rfl, hy1, rfl, ro⟩ := rep_one ow (r'.trans OO.out.1)
      have RO1 := Lib.hid ro; have HY1 := Lib.hid hy1
      have S4 := Lib.hid s'; have B4 := Lib.hid b'; have FP4 := Lib.hid (FP.out.below b' FP.out.lt)
      clear s' b' p' r' m' ow ft ro hy1 DA BX OO ca BT a3 FP
      have FX_xT := Lib.hid (sv_size xT w'.l4); have FO_xT := Lib.hid (sv_one xT); have SL_xT := Lib.hid (sv_len xT w'.l4)
      have Z_xT := Lib.hid (Blk.new w4 33 [.int .i64 0, .slice none 0 0, .slice none 0 0, .int .i64 0, .int .i64 0, .int .i64 0, .int .i64 0, .int .i64 0, .slice none 0 0, .bool false, .int .i64 0, .int .i64 0, .int .i64 0, .slice none 0 0, .bool false, .int .i64 0, .int .i64 0, .int .i64 0, .slice none 0 0, .bool false, .int .i64 0, .int .i64 0, .int .i64 0, .slice none 0 0, .bool false])
      have KN_xT := Lib.hid (KSp.new (w1 := w4) (x := xT) w')
      go_upto_region 11 with ((with_reducible refine at_op (.store 33 (.tmp 10) (.tmp 44)) rfl ?_); go_must (refine store_blk 33 (.tmp 10) (.tmp 44) (w4).heap.size 33 _ (sv xT) rfl rfl Z_xT.out SL_xT.out.symm FX_xT.out FO_xT.out rfl rfl ?_))
      obtain ⟨V8, hV8⟩ : ∃ V, ((w4).alloc (.cells #[.int .i64 0, .slice none 0 0, .slice none 0 0, .int .i64 0, .int .i64 0, .int .i64 0, .int .i64 0, .int .i64 0, .slice none 0 0, .bool false, .int .i64 0, .int .i64 0, .int .i64 0, .slice none 0 0, .bool false, .int .i64 0, .int .i64 0, .int .i64 0, .slice none 0 0, .bool false, .int .i64 0, .int .i64 0, .int .i64 0, .slice none 0 0, .bool false] 33)).setRow (w4).heap.size (sv xT).toArray = V := ⟨_, rfl⟩
      rw [hV8] at KN_xT ⊢
      have K_xT := Lib.hid KN_xT.out.1
      have B_xT := Lib.hid KN_xT.out.2
      clear hV8 KN_xT Z_xT FO_xT SL_xT
      obtain ⟨g8, hg8⟩ : ∃ g, (w4).heap.size = g := ⟨_, rfl⟩
      rw [hg8] at K_xT ⊢
      clear hg8
      have S8 := Lib.hid ((S4.out.below B_xT.out).low PX.out.bel.size)
      have B8 := Lib.hid (B4.out.trans (B_xT.out.mono B4.out.size))
      have P8 := Lib.hid (PX.out.below B8.out)
      have FP8 := Lib.hid (FP4.out.below B_xT.out FP4.out.lt)
      have RO2 := Lib.hid (RO1.out.below B_xT.out)
      have BXg := Lib.hid P8.out.box; have BTg := Lib.hid K_xT.out.box
      have SL2 := Lib.hid (sv_len xT S8.out.l4); have FO2 := Lib.hid (sv_one xT)
      have KZ : Kept (fun b => b = g) V8 (V8.setRow g (sv xT).toArray) := (Kept.refl (fun b => b = g) V8).setRowK (.inl rfl) _
      have PZ := Lib.hid (show PL w (V8.setRow g (sv xT).toArray) g xT from ⟨BXg.out.setRow (sv xT), S8.out.kept KZ BXg.out, OD2.out.o, P8.out.ge, below_setRow P8.out.bel P8.out.ge _⟩)
      have FPZ := Lib.hid (FP8.out.kept KZ (FP8.out.apart BXg.out (by decide)))
      have cr := RO2.out.cells.2.2.1
      rw [HY1.out] at cr
      change _ = some (Value.int .i64 4) at cr
      have cw := (sv_cells K_xT.out.box).2.2.1
      rw [show xT.wts.length = i + 1 by rw [wts_len (x := xT) rfl, OD2.out.wts]; simp] at cw
      clear S4 B4 FP4 B_xT RO1 w' S8 B8 FP8 RO2 K_xT KZ P8 PX OD
      go_wp2_with (first
        | ((with_reducible refine load_blk 33 (.tmp 10) g8 33 (sv xT) _ rfl rfl ?_ Tryd.underlying33 ?_ ?_ ?_ ?_); exact BTg.out; exact rfl; exact FX_xT.out; exact rfl)
        | ((with_reducible refine at_op (.store 33 (.tmp 5) (.tmp 64)) rfl ?_); go_must (refine store_blk 33 (.tmp 5) (.tmp 64) g 33 (sv x) (sv xT) rfl rfl BXg.out (SL1.out.trans SL2.out.symm) FX_xT.out FO2.out rfl rfl ?_)))
      exact ⟨⟨i + 1, xT, hlt, by go_num, PZ.out, OD2.out, FPZ.out⟩, by simp [intOf]; omega⟩
      | true =>
      rw [htk] at ca
      have BT := built_look c2 ((i : Int) + 1) 5 (some ⟨hp, 0, none⟩) 1 1 z0 (fun _ => fAI)
      have OO := Lib.hid (wait_step1 (F := z0) (G := fun _ => fAI) (kd := 5) OD.out (by have := HK.out; omega) (by rw [htk]; rfl) rfl)
      rw [hc2] at OO
      have DA := Lib.hid (DoM x 1 ⟨⟨c2, (i : Int) + 1, 5, 0, 1, fun _ => fAI, 0, z0⟩, some ⟨hp, 0, none⟩, 1, none, 0⟩ wr PX.out.w PX.out.op.may ⟨rw_one FP.out, none_rw _ _ _, (by decide : (1 : Nat) ≤ 9223372036854775807), Nat.zero_le _⟩ (by decide : (1 : Nat) ≤ 1000) (Nat.zero_le _) (HU.out.below PX.out.bel) _ rfl)
      have BX := Lib.hid PX.out.box; have FXU := Lib.hid (sv_size x PX.out.sf.l4); have SL1 := Lib.hid (sv_len x PX.out.sf.l4)
      clear hc2
      go_wp2_with ((with_reducible refine load_blk 33 (.tmp 5) g 33 (sv x) _ rfl rfl ?_ Tryd.underlying33 ?_ ?_ ?_ ?_); exact BX.out; exact rfl; exact FXU.out; exact rfl)
      refine DA.out.mono ?_
      rintro e w4 ⟨xT, R, q, c', rfl, p', r', s', w', m', ow, ft, -, b'⟩
      have OD2 := Lib.hid (show WaitA T (i + 1) xT.sp by rw [p']; exact OO.out.2)
      obtain ⟨y1, gl1, rfl, hy1, rfl, ro⟩ := rep_one ow (r'.trans OO.out.1)
      have RO1 := Lib.hid ro; have HY1 := Lib.hid hy1
      have S4 := Lib.hid s'; have B4 := Lib.hid b'; have FP4 := Lib.hid (FP.out.below b' FP.out.lt)
      clear s' b' p' r' m' ow ft ro hy1 DA BX OO ca BT a3 FP
      have FX_xT := Lib.hid (sv_size xT w'.l4); have FO_xT := Lib.hid (sv_one xT); have SL_xT := Lib.hid (sv_len xT w'.l4)
      have Z_xT := Lib.hid (Blk.new w4 33 [.int .i64 0, .slice none 0 0, .slice none 0 0, .int .i64 0, .int .i64 0, .int .i64 0, .int .i64 0, .int .i64 0, .slice none 0 0, .bool false, .int .i64 0, .int .i64 0, .int .i64 0, .slice none 0 0, .bool false, .int .i64 0, .int .i64 0, .int .i64 0, .slice none 0 0, .bool false, .int .i64 0, .int .i64 0, .int .i64 0, .slice none 0 0, .bool false])
      have KN_xT := Lib.hid (KSp.new (w1 := w4) (x := xT) w')
      go_upto_region 11 with ((with_reducible refine at_op (.store 33 (.tmp 10) (.tmp 44)) rfl ?_); go_must (refine store_blk 33 (.tmp 10) (.tmp 44) (w4).heap.size 33 _ (sv xT) rfl rfl Z_xT.out SL_xT.out.symm FX_xT.out FO_xT.out rfl rfl ?_))
      obtain ⟨V8, hV8⟩ : ∃ V, ((w4).alloc (.cells #[.int .i64 0, .slice none 0 0, .slice none 0 0, .int .i64 0, .int .i64 0, .int .i64 0, .int .i64 0, .int .i64 0, .slice none 0 0, .bool false, .int .i64 0, .int .i64 0, .int .i64 0, .slice none 0 0, .bool false, .int .i64 0, .int .i64 0, .int .i64 0, .slice none 0 0, .bool false, .int .i64 0, .int .i64 0, .int .i64 0, .slice none 0 0, .bool false] 33)).setRow (w4).heap.size (sv xT).toArray = V := ⟨_, rfl⟩
      rw [hV8] at KN_xT ⊢
      have K_xT := Lib.hid KN_xT.out.1
      have B_xT := Lib.hid KN_xT.out.2
      clear hV8 KN_xT Z_xT FO_xT SL_xT
      obtain ⟨g8, hg8⟩ : ∃ g, (w4).heap.size = g := ⟨_, rfl⟩
      rw [hg8] at K_xT ⊢
      clear hg8
      have S8 := Lib.hid ((S4.out.below B_xT.out).low PX.out.bel.size)
      have B8 := Lib.hid (B4.out.trans (B_xT.out.mono B4.out.size))
      have P8 := Lib.hid (PX.out.below B8.out)
      have FP8 := Lib.hid (FP4.out.below B_xT.out FP4.out.lt)
      have RO2 := Lib.hid (RO1.out.below B_xT.out)
      have BXg := Lib.hid P8.out.box; have BTg := Lib.hid K_xT.out.box
      have SL2 := Lib.hid (sv_len xT S8.out.l4); have FO2 := Lib.hid (sv_one xT)
      have KZ : Kept (fun b => b = g) V8 (V8.setRow g (sv xT).toArray) := (Kept.refl (fun b => b = g) V8).setRowK (.inl rfl) _
      have PZ := Lib.hid (show PL w (V8.setRow g (sv xT).toArray) g xT from ⟨BXg.out.setRow (sv xT), S8.out.kept KZ BXg.out, OD2.out.o, P8.out.ge, below_setRow P8.out.bel P8.out.ge _⟩)
      have FPZ := Lib.hid (FP8.out.kept KZ (FP8.out.apart BXg.out (by decide)))
      have cr := RO2.out.cells.2.2.1
      rw [HY1.out] at cr
      change _ = some (Value.int .i64 4) at cr
      have cw := (sv_cells K_xT.out.box).2.2.1
      rw [show xT.wts.length = i + 1 by rw [wts_len (x := xT) rfl, OD2.out.wts]; simp] at cw
      clear S4 B4 FP4 B_xT RO1 w' S8 B8 FP8 RO2 K_xT KZ P8 PX OD
      go_wp2_with (first
        | ((with_reducible refine load_blk 33 (.tmp 10) g8 33 (sv xT) _ rfl rfl ?_ Tryd.underlying33 ?_ ?_ ?_ ?_); exact BTg.out; exact rfl; exact FX_xT.out; exact rfl)
        | ((with_reducible refine at_op (.store 33 (.tmp 5) (.tmp 64)) rfl ?_); go_must (refine store_blk 33 (.tmp 5) (.tmp 64) g 33 (sv x) (sv xT) rfl rfl BXg.out (SL1.out.trans SL2.out.symm) FX_xT.out FO2.out rfl rfl ?_)))
      exact ⟨⟨i + 1, xT, hlt, by go_num, PZ.out, OD2.out, FPZ.out⟩, by simp [intOf]; omega⟩
    · obtain rfl : k = i := by omega
      clear hlt
      go_upto_region 14 with (fail)
      go_upto_region 15 with (fail)
      obtain ⟨m, hm, hme⟩ := mod_s 11 (by decide) (by decide) tuples
      rw [show ((11 : Nat) : Int) = 11 from rfl] at hme
      have m11 : (m : Int) < 11 := by omega
      go_upto_region 16 with (fail)
      rw [hme]
      have WB := Lib.hid OD.out.go
      have K10 := Lib.hid HK.out
      have HM := Lib.hid hm
      clear hme hm OD FP
      go_upto_region 17 with (fail)
      go_loopw [12, 14] (fun s t wr => ∃ (i a : Nat) (x : Spv), i ≤ m ∧ s = .int .i64 (a : Int) ∧ t = .int .i64 (i : Int) ∧ PL w wr g x ∧ WaitB T k a i x.sp) (fun _ t _ => m - (intOf t).toNat)
      case atStart => exact ⟨0, 0, x, Nat.zero_le _, rfl, rfl, PX.out, WB.out⟩
      case round =>
        clear PX WB
        obtain ⟨i, a0, x, hi, rfl, rfl, px, wb⟩ := hrel
        have PX := Lib.hid px; have WB := Lib.hid wb
        clear px wb
        by_cases hlt : i < m
        · have i11 : (i : Int) < 11 := by omega
          have i2 : (i : Int) < (m : Int) := by omega
          have BT := built_out1 2 ((i : Int) + 1) (some ⟨wr.heap.size, 0, none⟩) 1 1 z0 (fun _ => fN (i : Int))
          have PA := Lib.hid (PX.out.below ((Below.refl wr.heap.size wr).alloc (Nat.le_refl _) (.cells (fv (fN (i : Int))).toArray 25)))
          have FPA := Lib.hid (Blk.new wr 25 (fv (fN (i : Int))))
          have OO := Lib.hid (wait_step2 (F := z0) (G := fun _ => fN (i : Int)) WB.out (by have := HM.out; omega) rfl)
          have DA := Lib.hid (DoM x 2 ⟨⟨2, (i : Int) + 1, 1, 0, 0, z0, 1, fun _ => fN (i : Int)⟩, none, 0, some ⟨wr.heap.size, 0, none⟩, 1⟩ (wr.alloc (.cells (fv (fN (i : Int))).toArray 25)) PA.out.w PA.out.op.may ⟨none_rw _ _ _, rw_one FPA.out, Nat.zero_le _, (by decide : (1 : Nat) ≤ 9223372036854775807)⟩ (Nat.zero_le _) (by decide : (1 : Nat) ≤ 1000) (HU.out.below PA.out.bel) _ rfl)
          have BX := Lib.hid PX.out.box; have FXU := Lib.hid (sv_size x PX.out.sf.l4); have SL1 := Lib.hid (sv_len x PX.out.sf.l4)
          go_wp2_with ((with_reducible refine load_blk 33 (.tmp 5) g 33 (sv x) _ rfl rfl ?_ Tryd.underlying33 ?_ ?_ ?_ ?_); exact BX.out; exact rfl; exact FXU.out; exact rfl)
          refine DA.out.mono ?_
          rintro e w4 ⟨xT, R, q, c', rfl, p', r', s', w', m', ow, ft, -, b'⟩
          obtain ⟨o1, o2, o3⟩ := OO.out
          rw [← p'] at o2 o3
          obtain ⟨y0, hy0, hyr, hrl⟩ := late_head (r'.trans o1)
          have HLA := Lib.hid (fun a => late_at (a := a) (r'.trans o1))
          obtain ⟨rb, ro, rfl, rr⟩ := RR.of ow (by omega)
          rw [List.length_map, List.length_range'] at hrl
          have RR1 := Lib.hid rr; have HY0 := Lib.hid hy0; have HYR := Lib.hid hyr; have FT1 := Lib.hid ft; have O2 := Lib.hid o2; have O3 := Lib.hid o3; have HRL := Lib.hid hrl
          have S4 := Lib.hid s'; have B4 := Lib.hid b'
          clear s' b' p' r' m' ow ft rr hy0 hyr o1 o2 o3 OO DA BX BT hrl
          have FX_xT := Lib.hid (sv_size xT w'.l4); have FO_xT := Lib.hid (sv_one xT); have SL_xT := Lib.hid (sv_len xT w'.l4)
          have Z_xT := Lib.hid (Blk.new w4 33 [.int .i64 0, .slice none 0 0, .slice none 0 0, .int .i64 0, .int .i64 0, .int .i64 0, .int .i64 0, .int .i64 0, .slice none 0 0, .bool false, .int .i64 0, .int .i64 0, .int .i64 0, .slice none 0 0, .bool false, .int .i64 0, .int .i64 0, .int .i64 0, .slice none 0 0, .bool false, .int .i64 0, .int .i64 0, .int .i64 0, .slice none 0 0, .bool false])
          have KN_xT := Lib.hid (KSp.new (w1 := w4) (x := xT) w')
          go_upto_region 20 with ((with_reducible refine at_op (.store 33 (.tmp 15) (.tmp 83)) rfl ?_); go_must (refine store_blk 33 (.tmp 15) (.tmp 83) (w4).heap.size 33 _ (sv xT) rfl rfl Z_xT.out SL_xT.out.symm FX_xT.out FO_xT.out rfl rfl ?_))
          obtain ⟨V8, hV8⟩ : ∃ V, ((w4).alloc (.cells #[.int .i64 0, .slice none 0 0, .slice none 0 0, .int .i64 0, .int .i64 0, .int .i64 0, .int .i64 0, .int .i64 0, .slice none 0 0, .bool false, .int .i64 0, .int .i64 0, .int .i64 0, .slice none 0 0, .bool false, .int .i64 0, .int .i64 0, .int .i64 0, .slice none 0 0, .bool false, .int .i64 0, .int .i64 0, .int .i64 0, .slice none 0 0, .bool false] 33)).setRow (w4).heap.size (sv xT).toArray = V := ⟨_, rfl⟩
          rw [hV8] at KN_xT ⊢
          have K_xT := Lib.hid KN_xT.out.1
          have B_xT := Lib.hid KN_xT.out.2
          clear hV8 KN_xT Z_xT FO_xT SL_xT
          obtain ⟨g8, hg8⟩ : ∃ g, (w4).heap.size = g := ⟨_, rfl⟩
          rw [hg8] at K_xT ⊢
          clear hg8
          have S8 := Lib.hid ((S4.out.below B_xT.out).low PA.out.bel.size)
          have B8 := Lib.hid (B4.out.trans (B_xT.out.mono B4.out.size))
          have P8 := Lib.hid (PA.out.below B8.out)
          have RR2 := Lib.hid (RR1.out.below B_xT.out)
          have FT2 := Lib.hid (fun y hy => (FT1.out y hy).below B_xT.out)
          have BXg := Lib.hid P8.out.box; have BTg := Lib.hid K_xT.out.box
          have SL2 := Lib.hid (sv_len xT S8.out.l4); have FO2 := Lib.hid (sv_one xT)
          have KZ : Kept (fun b => b = g) V8 (V8.setRow g (sv xT).toArray) := (Kept.refl (fun b => b = g) V8).setRowK (.inl rfl) _
          have PZ := Lib.hid (show PL w (V8.setRow g (sv xT).toArray) g xT from ⟨BXg.out.setRow (sv xT), S8.out.kept KZ BXg.out, O2.out.o, P8.out.ge, below_setRow P8.out.bel P8.out.ge _⟩)
          obtain ⟨rl, hrl⟩ : ∃ z, R.length = z := ⟨_, rfl⟩
          have HRL2 := Lib.hid (hrl.symm.trans HRL.out)
          rw [hrl]
          have rl0 : 0 < rl := by have := HRL2.out; omega
          have rl1 : decide ((rl : Int) < 1) = false := decide_eq_false (by omega)
          obtain ⟨_, _, e2, _, e4⟩ := RR2.out.cells HY0.out
          rw [HYR.out] at e2 e4
          have ca : V8.cell? ⟨rb, ro + 2, none⟩ = some (.int .i64 1) := by simpa using e2
          have cb : V8.cell? ⟨rb, ro + 4, none⟩ = some (.bool false) := by simpa using e4
          have HAN := Lib.hid WB.out.an
          clear S4 B4 FPA B_xT RR1 FT1 w' S8 B8 K_xT KZ PX PA WB e2 e4 hrl HRL HY0 HYR
          go_upto_region 24 with (fail)
          clear ca cb
          go_loopw [12, 17, 18] (fun s t u wx => ∃ (a kk : Nat) (tk : Bool), s = .int .i64 (a : Int) ∧ t = .int .i64 (kk : Int) ∧ u = .bool tk ∧ kk = 1 + (a - a0) ∧ RunS T k a0 a tk ∧ V8 = wx) (fun s _ _ _ => k - (intOf s).toNat)
          case atStart => exact ⟨a0, 1, false, rfl, rfl, rfl, by omega, RunS.start HAN.out, rfl⟩
          case round =>
            obtain ⟨a, kk, tk, rfl, rfl, rfl, hkk, rs, rfl⟩ := hrel
            have RS := Lib.hid rs
            clear rs
            by_cases hc : tk = false ∧ a < k
            · obtain ⟨rfl, hak⟩ := hc
              obtain ⟨nx, hlt2⟩ := RS.out.next hak
              have NX := Lib.hid nx
              obtain ⟨y, hy, hyr0⟩ := HLA.out a RS.out.ge (by have := RS.out.ge; omega)
              have hyr : y.r = ⟨((a % 2 : Nat) : Int), (a : Int) + 1, 2, [fN (i : Int)], true⟩ := hyr0
              obtain ⟨e0, e1, _, e3, e4⟩ := RR2.out.cells hy
              obtain ⟨b2, o2, hp2, _, cn⟩ := ft_num (FT2.out y (List.mem_of_getElem? hy)) (show y.r.t = [fN (i : Int)] by rw [hyr])
              rw [hyr, ← hkk] at e0 e1 e3 e4
              rw [hp2] at e3
              dsimp only at e0 e1 e4
              have e5 : V8.cell? ⟨rb, ro + kk * 5 + 3, none⟩ = some (.slice (some ⟨b2, o2, none⟩) 1 y.c) := e3
              obtain ⟨b, o, rfl, _, ca2⟩ := HA.out.at P8.out.bel (show a < n by have := K10.out; omega)
              have a3 := and1s a (by have := K10.out; omega)
              obtain ⟨c2, hc2⟩ : ∃ z : Int, ((a % 2 : Nat) : Int) = z := ⟨_, rfl⟩
              rw [hc2] at a3 e0
              have a1 : (a : Int) < (k : Int) := by omega
              have an : (a : Int) < (n : Int) := by have := K10.out; omega
              have kk1 : (kk : Int) < (rl : Int) := by have := HRL2.out; have := RS.out.ge; omega
              have kk2 : decide ((rl : Int) ≤ (kk : Int)) = false := decide_eq_false (by omega)
              have rlB : (rl : Int) ≤ 100 := by have := HRL2.out; have := (runW_ge T (k - a0) a0).2; have := K10.out; have := HAN.out; omega
              have HKK := Lib.hid hkk; have HAK := Lib.hid hak; have HGE := Lib.hid RS.out.ge
              clear e3 hy hyr hyr0 hp2 hlt2 nx hkk hak hc2
              obtain ⟨ta, hta⟩ : ∃ z, T a = z := ⟨_, rfl⟩
              rw [hta] at ca2 NX
              clear hta
              go_wp2_with fail
              go_roundw
              case rel => exact ⟨a + 1, kk + 1, ta, by go_num, by go_num, rfl, by have := HKK.out; have := HGE.out; omega, NX.out, trivial⟩
              case measure => have := HAK.out; simp [intOf]; omega
            · have hle := RS.out.le
              have hge := RS.out.ge
              have hs : tk = true ∨ a = k := by
                cases tk with
                | true => exact .inl rfl
                | false => exact .inr (by have : ¬ a < k := fun h => hc ⟨rfl, h⟩; omega)
              have hrun := RS.out.stop hs
              rw [hrun] at O2 O3 HRL2
              have HWL := Lib.hid (show xT.wts.length = k - a by rw [wts_len (x := xT) rfl, O2.out.wts, List.length_map, List.length_range'])
              have HIL := Lib.hid (show xT.its.length = x.its.length + (if tk then 0 else 1) by rw [its_len (x := xT) rfl, its_len (x := x) rfl]; exact O3.out)
              obtain rfl : kk = rl := by have := HRL2.out; dsimp only at this; omega
              have cw := (sv_cells BTg.out).2.2.1
              have ct := (sv_cells BTg.out).2.1
              have cx := (sv_cells BXg.out).2.1
              obtain ⟨wl, hwl⟩ : ∃ z, xT.wts.length = z := ⟨_, rfl⟩
              obtain ⟨il2, hil2⟩ : ∃ z, xT.its.length = z := ⟨_, rfl⟩
              obtain ⟨il, hil⟩ : ∃ z, x.its.length = z := ⟨_, rfl⟩
              rw [hwl] at cw HWL
              rw [hil2] at ct HIL
              rw [hil] at cx HIL
              have ilB : (il : Int) ≤ 1000 := by
                have h1 := P8.out.op.may.il
                have h2 : x.sp.its.length = x.its.length := List.length_map _
                omega
              have e1 : (k : Int) - (a : Int) = (wl : Int) := by have := HWL.out; omega
              have a10 : (a : Int) ≤ 10 := by omega
              have HSK := Lib.hid (show tk = false → a = k from fun h => by rcases hs with e | e; rw [h] at e; cases e; exact e)
              clear hwl hil2 hil hrun hs hc hle hge hkk HLA RS HRL2 O3 HWL
              cases tk with
              | true =>
                obtain rfl : il2 = il := by have := HIL.out; simpa using this
                clear HIL
                by_cases hak : (a : Int) < (k : Int)
                · skip
                  go_upto_region 32 with (fail)
                  go_wp2_with (first
                    | ((with_reducible refine load_blk 33 (.tmp 15) g8 33 (sv xT) _ rfl rfl ?_ Tryd.underlying33 ?_ ?_ ?_ ?_); exact BTg.out; exact rfl; exact FX_xT.out; exact rfl)
                    | ((with_reducible refine at_op (.store 33 (.tmp 5) (.tmp 208)) rfl ?_); go_must (refine store_blk 33 (.tmp 5) (.tmp 208) g 33 (sv x) (sv xT) rfl rfl BXg.out (SL1.out.trans SL2.out.symm) FX_xT.out FO2.out rfl rfl ?_)))
                  exact ⟨⟨i + 1, a, xT, hlt, rfl, by go_num, PZ.out, O2.out⟩, by simp [intOf]; omega⟩
                · have hak2 : decide ((a : Int) < (k : Int)) = false := decide_eq_false hak
                  go_upto_region 32 with (fail)
                  go_wp2_with (first
                    | ((with_reducible refine load_blk 33 (.tmp 15) g8 33 (sv xT) _ rfl rfl ?_ Tryd.underlying33 ?_ ?_ ?_ ?_); exact BTg.out; exact rfl; exact FX_xT.out; exact rfl)
                    | ((with_reducible refine at_op (.store 33 (.tmp 5) (.tmp 208)) rfl ?_); go_must (refine store_blk 33 (.tmp 5) (.tmp 208) g 33 (sv x) (sv xT) rfl rfl BXg.out (SL1.out.trans SL2.out.symm) FX_xT.out FO2.out rfl rfl ?_)))
                  exact ⟨⟨i + 1, a, xT, hlt, rfl, by go_num, PZ.out, O2.out⟩, by simp [intOf]; omega⟩
              | false =>
                have hak2 : ¬ a < k := by have := HSK.out rfl; omega
                have e2 : (il2 : Int) = (il : Int) + 1 := by have := HIL.out; simp at this; omega
                clear HIL
                go_upto_region 30 with (fail)
                go_upto_region 32 with (fail)
                go_wp2_with (first
                  | ((with_reducible refine load_blk 33 (.tmp 15) g8 33 (sv xT) _ rfl rfl ?_ Tryd.underlying33 ?_ ?_ ?_ ?_); exact BTg.out; exact rfl; exact FX_xT.out; exact rfl)
                  | ((with_reducible refine at_op (.store 33 (.tmp 5) (.tmp 208)) rfl ?_); go_must (refine store_blk 33 (.tmp 5) (.tmp 208) g 33 (sv x) (sv xT) rfl rfl BXg.out (SL1.out.trans SL2.out.symm) FX_xT.out FO2.out rfl rfl ?_)))
                exact ⟨⟨i + 1, a, xT, hlt, rfl, by go_num, PZ.out, O2.out⟩, by simp [intOf]; omega⟩
        · obtain rfl : m = i := by omega
          have TD := Lib.hid (tolds_t wr (HU.out.below PX.out.bel))
          go_wp2_with fail
          refine TD.out.mono ?_
          rintro e w4 ⟨rfl, b4⟩
          have P4 := Lib.hid (PX.out.below b4)
          have BX := Lib.hid P4.out.box; have FXU := Lib.hid (sv_size x P4.out.sf.l4)
          have MY := Lib.hid (SpMay_t x w4 P4.out.w)
          rw [mayS_iff.2 P4.out.op.may] at MY
          clear b4 TD
          go_wp2_with ((with_reducible refine load_blk_gdO 211 33 (.tmp 5) g 33 (sv x) _ ?_ ?_ rfl ?_ Tryd.underlying33 ?_ ?_ ?_ ?_); exact rfl; kernel_rfl; exact BX.out; exact rfl; exact FXU.out; exact rfl)
          refine MY.out.mono ?_
          rintro e w5 ⟨rfl, b5⟩
          go_wp2_with fail
          go_ret
          exact ⟨rfl, P4.out.bel.trans (b5.mono P4.out.bel.size)⟩
end Go.Proofs.YtlamfdeepofenaaDoor
