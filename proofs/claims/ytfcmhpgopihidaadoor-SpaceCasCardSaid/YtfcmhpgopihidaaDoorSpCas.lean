/-
  SpaceCas walked.
-/
import Derived.Test.YtfcmhpgopihidaaDoorSpOldest
import Derived.Test.YtfcmhpgopihidaaDoorSpXc
namespace Go.Proofs.YtfcmhpgopihidaaDoor
open Go Go.RowKit Sh

def hasL (has : Nat → Bool) : List Value := [.bool (has 0), .bool (has 1), .bool (has 2), .bool (has 3)]
theorem has_get {has : Nat → Bool} {v : Nat} (hv : v < 4) : (hasL has)[v]? = some (.bool (has v)) := by
  rcases (show v = 0 ∨ v = 1 ∨ v = 2 ∨ v = 3 by omega) with rfl | rfl | rfl | rfl <;> rfl
theorem has_set {has : Nat → Bool} {v : Nat} (hv : v < 4) (hh : has v = false) : (hasL has).set v (.bool true) = hasL (hasU has v false) := by
  unfold hasU
  rw [hh]
  rcases (show v = 0 ∨ v = 1 ∨ v = 2 ∨ v = 3 by omega) with rfl | rfl | rfl | rfl <;> rfl
theorem has_same {has : Nat → Bool} {v : Nat} {rep : Bool} (h : casN (has v) rep ≠ 1) : hasU has v rep = has := by
  funext u
  unfold hasU
  rw [if_neg (fun e => h e.2)]
def rqC (i : Nat) (kd : Int) (v : Nat) (h1 h2 : Nat) : Rv := ⟨⟨3, (i : Int) + 1, kd, 0, 2, gl [fN v, fAny], 2, gl [fN v, fN i]⟩, some ⟨h1, 0, none⟩, 2, some ⟨h2, 0, none⟩, 2⟩
theorem built_cas (i : Nat) (v h1 h2 : Nat) : Tryd.prog.built 38 [(0, .int .i64 3), (1, .int .i64 ((i : Int) + 1)), (2, .int .i64 6), (3, .slice (some ⟨h1, 0, none⟩) 2 2), (4, .slice (some ⟨h2, 0, none⟩) 2 2)] = some (rv (rqC i 6 v h1 h2)).toArray := by kernel_rfl
theorem SF.farT {B b : Nat} {W W' : World} {t : TypeId} {x : Spv} {cs : List Value} (h : SF B W x) (hb : Blk W b t cs) (h2 : 78 ≠ t) (h3 : 56 ≠ t) (h4 : 43 ≠ t) (hk : Kept (fun k => k = b) W W') : SF B W' x := by
  have f : ∀ {B sz n : Nat} {e : TypeId} {v : Value} {xs : List Value}, W.ownsRow B e sz v n xs → e ≠ t → W'.ownsRow B e sz v n xs := fun ho he => own_kept ho hk (fun k hk' e' => own_apart ho hb he (by rw [hk', e']))
  exact ⟨f h.its h2, fun y hy => f (h.it y hy) h4, f h.wts h3, fun y hy => f (h.wt y hy) h4, h.l4, fun y hy => f (h.la y hy) h4⟩
theorem PL.put2 {w0 W V : World} {g : Nat} {x x' : Spv} (h : PL w0 W g x) (hs : SF w0.heap.size W x') (ho : Op15 x'.sp) (hk : Kept (fun b => b = g) W V) (hx : Blk V g 32 (sv x')) : PL w0 V g x' :=
  ⟨hx, hs.kept hk h.box, ho, h.ge, h.bel.trans ⟨hk.os, hk.tape, hk.output, hk.size, fun k hlt => hk.block k (Nat.lt_of_lt_of_le hlt h.bel.size) (by have := h.ge; omega)⟩⟩
/-- Where a round of SpaceCas looks. -/
structure CC (W : World) (g gT : Nat) (x xT : Spv) : Prop where
  bx : Blk W g 32 (sv x)
  bt : Blk W gT 32 (sv xT)
theorem CC.below {W W' : World} {g gT : Nat} {x xT : Spv} (h : CC W g gT x xT) (hb : Below W.heap.size W W') : CC W' g gT x xT := ⟨h.bx.below hb h.bx.lt, h.bt.below hb h.bt.lt⟩
set_option maxRecDepth 100000 in
set_option maxHeartbeats 8000000 in
theorem scas_t (A : Option Addr) (n c : Nat) (L : Nat → Int) (B : Option Addr) (m d : Nat) (T : Nat → Bool) (w : World) (hn : n ≤ 9223372036854775807) (_ : m ≤ 9223372036854775807) (hA : NsW w A n L) (hB : BsW w B m T) (hu : UT w) :
    Calls Tryd.prog 13 #[.slice A n c, .slice B m d] w fun e w' => e = .returned (.bool true) ∧ Below w.heap.size w w' := by
  have HA := Lib.hid hA; have HB := Lib.hid hB; have HU := Lib.hid hu
  clear hA hB hu
  go_enter Tryd.func13, Tryd.ntmps13
  go_wp2_with fail
  refine (New_t 15 15 w).mono ?_
  rintro e w2 ⟨rfl, b2⟩
  have B2 := Lib.hid b2
  have Z2 := Lib.hid (Blk.new w2 32 zSp)
  obtain ⟨x0, hx0⟩ : ∃ x, nsp 15 15 0 1 2 3 = x := ⟨_, rfl⟩
  have P0 : x0.sp = newS 15 15 := by rw [← hx0]; exact nsp_sp 15 15
  have hl0 : x0.last.length = 4 := by rw [← hx0]; rfl
  have PL0 := Lib.hid (show PL w ((w2.alloc (.cells zSp.toArray 32)).setRow w2.heap.size (sv x0).toArray) w2.heap.size x0 from
    ⟨(Blk.new w2 32 zSp).setRow (sv x0), by rw [← hx0]; exact sf_new _ _ _ _ _ _ _ _, by rw [P0]; exact Op15.new, B2.out.size, below_setRow (B2.out.alloc B2.out.size _) B2.out.size _⟩)
  have FX0 := Lib.hid (sv_size x0 hl0); have FO0 := Lib.hid (sv_one x0); have SL0 := Lib.hid (sv_len x0 hl0)
  rw [hx0]
  clear b2 B2 hx0 hl0
  go_upto_region 2 with ((with_reducible refine at_op (.store 32 (.tmp 5) (.tmp 16)) rfl ?_); go_must (refine store_blk 32 (.tmp 5) (.tmp 16) w2.heap.size 32 _ (sv x0) rfl rfl Z2.out SL0.out.symm FX0.out FO0.out rfl rfl ?_))
  change Code.wp _ _ _ _ ((w2.alloc (.cells zSp.toArray 32)).setRow w2.heap.size (sv x0).toArray)
  obtain ⟨V2, hV2⟩ : ∃ V, (w2.alloc (.cells zSp.toArray 32)).setRow w2.heap.size (sv x0).toArray = V := ⟨_, rfl⟩
  rw [hV2] at PL0 ⊢
  obtain ⟨g, hg⟩ : ∃ g, w2.heap.size = g := ⟨_, rfl⟩
  rw [hg] at PL0 ⊢
  have N0 := Lib.hid (show CasS (fun _ => false) 0 x0.sp [] by rw [P0]; exact cas_new)
  clear hV2 hg Z2 FX0 FO0 SL0 P0
  have hmk := run_make_row' (P := Tryd.prog) 65 4 (.bool false) 1 Tryd.underlying65 bool_info rfl .i64 .i64 4 (by decide) (by decide)
  rw [show ((4 : Nat) : Int) = 4 from rfl, made_false] at hmk
  go_upto_region 3 with (fail)
  have BA := Lib.hid ((Below.refl V2.heap.size V2).alloc (Nat.le_refl _) (.cells (hasL (fun _ => false)).toArray 4))
  have PV := Lib.hid (PL0.out.below BA.out)
  have GB0 := Lib.hid (Blk.new V2 4 (hasL (fun _ => false)))
  change Code.wp _ _ _ _ (V2.alloc (.cells (hasL (fun _ => false)).toArray 4))
  clear BA hmk
  obtain ⟨V, hV⟩ : ∃ V, V2.alloc (.cells (hasL (fun _ => false)).toArray 4) = V := ⟨_, rfl⟩
  obtain ⟨gb, hgb⟩ : ∃ h, V2.heap.size = h := ⟨_, rfl⟩
  have HNE := Lib.hid (show gb ≠ g by have := PL0.out.box.lt; omega)
  have HGBW := Lib.hid (show w.heap.size ≤ gb by have := PL0.out.bel.size; omega)
  rw [hV] at PV GB0 ⊢
  rw [hgb] at GB0 ⊢
  clear hV hgb PL0
  go_upto_region 4 with (fail)
  go_loopw [7] (fun s wr => ∃ (i : Nat) (x : Spv) (has : Nat → Bool) (LL : List (Nat × Nat)), i ≤ n ∧ (i : Int) ≤ 20 ∧ s = .int .i64 (i : Int) ∧ PL w wr g x ∧ CasS has i x.sp LL ∧ Blk wr gb 4 (hasL has)) (fun s _ => n - (intOf s).toNat)
  case atStart => exact ⟨0, x0, fun _ => false, [], Nat.zero_le _, by omega, rfl, PV.out, N0.out, GB0.out⟩
  case round =>
    clear PV GB0 N0
    obtain ⟨i, x, has, LL, hi, hi20, rfl, px, od, gbk⟩ := hrel
    have PX := Lib.hid px; have OD := Lib.hid od; have GBK := Lib.hid gbk
    clear px od gbk
    by_cases hlt : i < n
    · by_cases h20 : (i : Int) < 20
      · by_cases hlm : i < m
        · obtain ⟨b, o, rfl, hbl, ca⟩ := HA.out.at PX.out.bel hlt
          obtain ⟨b2, o2, rfl, hbl2, ct⟩ := HB.out.at PX.out.bel hlm
          have i1 : (i : Int) < (n : Int) := by omega
          have i3 : (i : Int) < (m : Int) := by omega
          obtain ⟨v, hv, l3⟩ := and3_nat (L i)
          have v4 : (v : Int) < 4 := by omega
          clear hbl hbl2
          go_upto_region 9 with (fail)
          have BA := Lib.hid ((((Below.refl wr.heap.size wr).alloc (Nat.le_refl _) (.cells (fv (fN v) ++ fv fAny).toArray 43))).alloc (by simp) (.cells (fv (fN v) ++ fv (fN (i : Int))).toArray 43))
          have PV := Lib.hid (PX.out.below BA.out)
          have GV := Lib.hid (GBK.out.below BA.out GBK.out.lt)
          have F1 := Lib.hid ((Blk.new wr 43 (fv (fN v) ++ fv fAny)).alloc (.cells (fv (fN v) ++ fv (fN (i : Int))).toArray 43))
          have F2 := Lib.hid (Blk.new2 wr (.cells (fv (fN v) ++ fv fAny).toArray 43) 43 (fv (fN v) ++ fv (fN (i : Int))))
          change Code.wp _ _ _ _ ((wr.alloc (.cells (fv (fN v) ++ fv fAny).toArray 43)).alloc (.cells (fv (fN v) ++ fv (fN (i : Int))).toArray 43))
          clear BA
          obtain ⟨V, hV⟩ : ∃ V, (wr.alloc (.cells (fv (fN v) ++ fv fAny).toArray 43)).alloc (.cells (fv (fN v) ++ fv (fN (i : Int))).toArray 43) = V := ⟨_, rfl⟩
          obtain ⟨h2, hh2⟩ : ∃ h, wr.heap.size + 1 = h := ⟨_, rfl⟩
          rw [hV] at PV GV F1 F2 ⊢
          rw [hh2] at F2 ⊢
          obtain ⟨h1, hh1⟩ : ∃ h, wr.heap.size = h := ⟨_, rfl⟩
          rw [hh1] at F1 ⊢
          clear hV hh1 hh2 PX GBK ca l3
          have BT := built_cas i v h1 h2
          go_upto_region 10 with (fail)
          have BA := Lib.hid ((Below.refl V.heap.size V).alloc (Nat.le_refl _) (.cells (rv (rqC i 6 v h1 h2)).toArray 38))
          have P6 := Lib.hid (PV.out.below BA.out)
          have G6 := Lib.hid (GV.out.below BA.out GV.out.lt)
          have FA6 := Lib.hid (F1.out.below BA.out F1.out.lt); have FB6 := Lib.hid (F2.out.below BA.out F2.out.lt)
          have Q6 := Lib.hid (Blk.new V 38 (rv (rqC i 6 v h1 h2)))
          change Code.wp _ _ _ _ (V.alloc (.cells (rv (rqC i 6 v h1 h2)).toArray 38))
          have HGQ := Lib.hid (show w.heap.size ≤ V.heap.size from PV.out.bel.size)
          clear BA BT ct
          obtain ⟨V6, hV⟩ : ∃ V', V.alloc (.cells (rv (rqC i 6 v h1 h2)).toArray 38) = V' := ⟨_, rfl⟩
          obtain ⟨gq, hgq⟩ : ∃ h, V.heap.size = h := ⟨_, rfl⟩
          rw [hV] at P6 G6 FA6 FB6 Q6 ⊢
          rw [hgq] at Q6 HGQ ⊢
          clear hV hgq PV GV F1 F2
          have HCT := Lib.hid (fun W (h : Below w.heap.size w W) => show W.cell? ⟨b2, o2 + i, none⟩ = some (.bool (T i)) from by
            obtain ⟨b3, o3, e3, _, c3⟩ := HB.out.at h hlm
            injection e3 with e3
            injection e3 with e3 e4
            subst e3 e4
            exact c3)
          have ct := HCT.out V6 P6.out.bel
          have HV4 := Lib.hid hv
          cases htk : T i with
          | false =>
            rw [htk] at ct HCT
            cases hhv : has v with
            | false =>
              obtain ⟨y, L', k1, k2, k3, k4, k5⟩ := cas_step OD.out (by omega) HV4.out false (F := gl [fN v, fAny]) (G := gl [fN v, fN i]) rfl rfl rfl rfl (kd := 6) rfl
              rw [hhv] at k2 k4 k5
              have K1 := Lib.hid k1; have K2 := Lib.hid k2; have K3 := Lib.hid k3; have K4 := Lib.hid k4; have K5 := Lib.hid k5
              clear k1 k2 k3 k4 k5
              have DA := Lib.hid (DoM x (i : Int) (rqC i 6 v h1 h2) V6 P6.out.w P6.out.op.may ⟨rw_two FA6.out, rw_two FB6.out, (by decide : (2 : Nat) ≤ 9223372036854775807), (by decide : (2 : Nat) ≤ 9223372036854775807)⟩ (by decide : (2 : Nat) ≤ 1000) (by decide : (2 : Nat) ≤ 1000) (HU.out.below P6.out.bel) _ rfl)
              have BX := Lib.hid P6.out.box; have FXU := Lib.hid (sv_size x P6.out.sf.l4); have SL1 := Lib.hid (sv_len x P6.out.sf.l4); have FQ := Lib.hid (rv_size (rqC i 6 v h1 h2))
              go_wp2_with (first
                | ((with_reducible refine load_blk 32 (.tmp 5) g 32 (sv x) _ rfl rfl ?_ Tryd.underlying32 ?_ ?_ ?_ ?_); exact BX.out; exact rfl; exact FXU.out; exact rfl)
                | ((with_reducible refine load_blk 38 (.tmp 11) gq 38 (rv (rqC i 6 v h1 h2)) _ rfl rfl ?_ Tryd.underlying38 ?_ ?_ ?_ ?_); exact Q6.out; exact rfl; exact FQ.out; exact rfl))
              refine DA.out.mono ?_
              rintro e w4 ⟨xT, R, q, c', rfl, p', r', s', w', m', ow, ft, -, b'⟩
              have OD2 := Lib.hid (show CasS (hasU has v false) (i + 1) xT.sp L' by rw [p']; exact K3.out)
              have KF := Lib.hid ((congrArg (fun s : Sp => fndI [fN v, fN i] s.its) p').trans K5.out)
              obtain ⟨y1, gl1, rfl, hy1, rfl, ro⟩ := rep_one ow (r'.trans K1.out)
              have RO1 := Lib.hid ro; have HY1 := Lib.hid hy1
              have S4 := Lib.hid s'; have B4 := Lib.hid b'; have G8 := Lib.hid (G6.out.below b' G6.out.lt)
              clear s' b' p' r' m' ow ft ro hy1 DA BX FQ K1 K3 K5 ct
              have FX_xT := Lib.hid (sv_size xT w'.l4); have FO_xT := Lib.hid (sv_one xT); have SL_xT := Lib.hid (sv_len xT w'.l4)
              have Z_xT := Lib.hid (Blk.new w4 32 [.int .i64 0, .slice none 0 0, .slice none 0 0, .int .i64 0, .int .i64 0, .int .i64 0, .int .i64 0, .int .i64 0, .slice none 0 0, .bool false, .int .i64 0, .int .i64 0, .int .i64 0, .slice none 0 0, .bool false, .int .i64 0, .int .i64 0, .int .i64 0, .slice none 0 0, .bool false, .int .i64 0, .int .i64 0, .int .i64 0, .slice none 0 0, .bool false])
              have KN_xT := Lib.hid (KSp.new (w1 := w4) (x := xT) w')
              go_upto_region 13 with ((with_reducible refine at_op (.store 32 (.tmp 12) (.tmp 63)) rfl ?_); go_must (refine store_blk 32 (.tmp 12) (.tmp 63) (w4).heap.size 32 _ (sv xT) rfl rfl Z_xT.out SL_xT.out.symm FX_xT.out FO_xT.out rfl rfl ?_))
              obtain ⟨V8, hV8⟩ : ∃ V, ((w4).alloc (.cells #[.int .i64 0, .slice none 0 0, .slice none 0 0, .int .i64 0, .int .i64 0, .int .i64 0, .int .i64 0, .int .i64 0, .slice none 0 0, .bool false, .int .i64 0, .int .i64 0, .int .i64 0, .slice none 0 0, .bool false, .int .i64 0, .int .i64 0, .int .i64 0, .slice none 0 0, .bool false, .int .i64 0, .int .i64 0, .int .i64 0, .slice none 0 0, .bool false] 32)).setRow (w4).heap.size (sv xT).toArray = V := ⟨_, rfl⟩
              rw [hV8] at KN_xT ⊢
              have K_xT := Lib.hid KN_xT.out.1
              have B_xT := Lib.hid KN_xT.out.2
              clear hV8 KN_xT Z_xT FO_xT SL_xT
              obtain ⟨g8, hg8⟩ : ∃ g, (w4).heap.size = g := ⟨_, rfl⟩
              rw [hg8] at K_xT ⊢
              clear hg8
              have S8 := Lib.hid (S4.out.below B_xT.out)
              have B8 := Lib.hid (B4.out.trans (B_xT.out.mono B4.out.size))
              have P8 := Lib.hid (P6.out.below B8.out)
              have G9 := Lib.hid (G8.out.below B_xT.out G8.out.lt)
              have RO2 := Lib.hid (RO1.out.below B_xT.out)
              have F8 := Lib.hid (FB6.out.below B8.out FB6.out.lt)
              clear S4 B4 G8 B_xT RO1 w'
              have ct := HCT.out V8 P8.out.bel
              have ch := (G9.out.cell v).trans (has_get (has := has) HV4.out)
              rw [hhv] at ch
              go_upto_region 14 with (fail)
              go_quiet (fail)
              obtain ⟨U, hU⟩ : ∃ U, V8.drewN nq = U := ⟨_, rfl⟩
              have BU : Below V8.heap.size V8 U := by rw [← hU]; exact below_drewN' (Below.refl _ _) nq
              rw [hU]
              have P9 := Lib.hid (P8.out.below BU); have S9 := Lib.hid (S8.out.below BU); have G10 := Lib.hid (G9.out.below BU G9.out.lt); have F9 := Lib.hid (F8.out.below BU F8.out.lt)
              have K9 := Lib.hid (K_xT.out.below BU); have RO3 := Lib.hid (RO2.out.below BU); have B9 := Lib.hid (B8.out.trans (BU.mono B8.out.size))
              clear hU BU ct ch P8 S8 G9 F8 K_xT RO2 B8
              have ct := HCT.out U P9.out.bel
              have cr := RO3.out.cells.2.2.1
              rw [HY1.out, K2.out] at cr
              change _ = some (Value.int .i64 1) at cr
              go_upto_region 20 with (fail)
              clear ct cr
              have S10 := Lib.hid (S9.out.low P6.out.bel.size)
              have BT9 := Lib.hid K9.out.box
              have lx5 : ((x.its.length : Nat) : Int) ≤ 4 := by have := OD.out.len; have e : x.its.length = x.sp.its.length := its_len rfl; omega
              have lT5 : ((xT.its.length : Nat) : Int) ≤ 4 := by have := OD2.out.len; have e : xT.its.length = xT.sp.its.length := its_len rfl; omega
              have lxL : x.its.length = LL.length := by rw [its_len (x := x) rfl, OD.out.its, List.length_map]
              have lTL : xT.its.length = L'.length := by rw [its_len (x := xT) rfl, OD2.out.its, List.length_map]
              clear RO3 B9 S9 HY1 K2 HCT P6 G6 Q6 FA6 FB6
              have e8 : ((xT.its.length : Int) != IntKind.i64.wrap ((x.its.length : Int) + 1)) = false := by
                have k4 : L'.length = LL.length + 1 := K4.out
                rw [IntWalk.i64_in _ (by omega), bne_eq_false_iff_eq]; omega
              have e9 : ((xT.its.length : Int) - 1 != IntKind.i64.wrap ((xT.its.length : Int) - 1)) = false := by
                rw [IntWalk.i64_in _ (by omega), bne_eq_false_iff_eq]
              have KF2 := Lib.hid (show fndI [fN v, fN i] xT.sp.its = (xT.its.length : Int) - 1 from by
                have h : fndI [fN v, fN i] xT.sp.its = (L'.length : Int) - 1 := KF.out
                rw [h, lTL])
              clear lxL lTL
              have ch9 := (G10.out.cell v).trans (has_get (has := has) HV4.out)
              rw [hhv] at ch9
              have fh9 := G10.out.frozen v
              go_upto_region 24 with (fail)
              clear ch9 fh9
              have KC : Kept (fun b => b = gb) U (U.setCell ⟨gb, v, none⟩ (.bool true)) := (Kept.refl (fun b => b = gb) U).setCell (.inl rfl) _
              have P13 := Lib.hid (P9.out.far G10.out (by decide) (by decide) (by decide) (by decide) HGBW.out KC)
              have S13 := Lib.hid (S10.out.farT G10.out (by decide) (by decide) (by decide) KC)
              have BT13 := Lib.hid (BT9.out.kept KC (BT9.out.apart G10.out (by decide)))
              have F13 := Lib.hid (F9.out.kept KC (F9.out.apart G10.out (by decide)))
              have G13 := Lib.hid (show Blk (U.setCell ⟨gb, v, none⟩ (.bool true)) gb 4 (hasL (hasU has v false)) from by rw [← has_set HV4.out hhv]; exact G10.out.store v (.bool true))
              obtain ⟨U2, hU2⟩ : ∃ V, U.setCell ⟨gb, v, none⟩ (.bool true) = V := ⟨_, rfl⟩
              rw [hU2] at P13 S13 BT13 F13 G13 ⊢
              clear hU2 KC P9 S10 BT9 F9 G10 K9
              obtain ⟨U3, hU⟩ : ∃ V, (U2).drew = V := ⟨_, rfl⟩
              have BU := Lib.hid (show Below (U2).heap.size (U2) U3 from by rw [← hU]; exact (Below.refl _ _).drew)
              have P11 := Lib.hid (P13.out.below BU.out); have S11 := Lib.hid (S13.out.below BU.out); have G11 := Lib.hid (G13.out.below BU.out G13.out.lt); have F11 := Lib.hid (F13.out.below BU.out F13.out.lt)
              have G1 : CC U3 g g8 x xT := ⟨P11.out.box, BT13.out.below BU.out BT13.out.lt⟩
              have FD := Lib.hid (Find_t xT (some ⟨h2, 0, none⟩) 2 2 (gl [fN v, fN i]) U3 (by decide) (rw_two F11.out) (S11.out.w OD2.out.o.may.small))
              rw [show fl 2 (gl [fN v, fN i]) = [fN v, fN i] from rfl, KF2.out] at FD
              clear BU
              refine wp_region_E (fun Y => CC Y g g8 x xT) (fun _ => false) (by kernel_rfl) ?_
              change wpAnyE _ _ _ _ _ _ _ _ _ (U2).drew
              rw [hU]
              clear hU
              refine wpAnyE_take (i := 0) (v := ?_) rfl (by kernel_rfl) (by kernel_rfl) (by kernel_rfl) (by kernel_rfl) (fun _ _ _ h => h) (Or.inl ⟨by kernel_rfl, ?_⟩) G1 ?_
              rotate_left 1
              · (intro w hS; clear hS; go_simp; try (with_reducible rfl))
              refine wpAnyE_take (i := 1) (v := ?_) rfl (by kernel_rfl) (by kernel_rfl) (by kernel_rfl) (by kernel_rfl) (fun _ _ _ h => h) (Or.inl ⟨by kernel_rfl, ?_⟩) G1 ?_
              rotate_left 1
              · (intro w hS; have hs := (sv_cells hS.bt).2.1; clear hS; go_simp; try (with_reducible rfl))
              refine wpAnyE_take (i := 2) (v := ?_) rfl (by kernel_rfl) (by kernel_rfl) (by kernel_rfl) (by kernel_rfl) (fun _ _ _ h => h) (Or.inl ⟨by kernel_rfl, ?_⟩) G1 ?_
              rotate_left 1
              · (intro w hS; clear hS; go_simp; try (with_reducible rfl))
              refine wpAnyE_take (i := 3) (v := ?_) rfl (by kernel_rfl) (by kernel_rfl) (by kernel_rfl) (by kernel_rfl) (fun _ _ _ h => h) (Or.inl ⟨by kernel_rfl, ?_⟩) G1 ?_
              rotate_left 1
              · (intro w hS; clear hS; go_simp; try (with_reducible rfl))
              refine wpAnyE_take (i := 4) (v := ?_) rfl (by kernel_rfl) (by kernel_rfl) (by kernel_rfl) (by kernel_rfl) (fun _ _ _ h => h) (Or.inl ⟨by kernel_rfl, ?_⟩) G1 ?_
              rotate_left 1
              · (intro w hS; have hs := (sv_cells hS.bx).2.1; clear hS; go_simp; try (with_reducible rfl))
              refine wpAnyE_take (i := 5) (v := ?_) rfl (by kernel_rfl) (by kernel_rfl) (by kernel_rfl) (by kernel_rfl) (fun _ _ _ h => h) (Or.inl ⟨by kernel_rfl, ?_⟩) G1 ?_
              rotate_left 1
              · (intro w hS; clear hS; go_simp; try (with_reducible rfl))
              refine wpAnyE_take (i := 6) (v := ?_) rfl (by kernel_rfl) (by kernel_rfl) (by kernel_rfl) (by kernel_rfl) (fun _ _ _ h => h) (Or.inl ⟨by kernel_rfl, ?_⟩) G1 ?_
              rotate_left 1
              · (intro w hS; clear hS; go_simp; try (with_reducible rfl))
              refine wpAnyE_take (i := 7) (v := ?_) rfl (by kernel_rfl) (by kernel_rfl) (by kernel_rfl) (by kernel_rfl) (fun _ _ _ h => h) (Or.inl ⟨by kernel_rfl, ?_⟩) G1 ?_
              rotate_left 1
              · (intro w hS; clear hS; go_simp; try (with_reducible rfl))
              refine wpAnyE_take (i := 8) (v := ?_) rfl (by kernel_rfl) (by kernel_rfl) (by kernel_rfl) (by kernel_rfl) (fun _ _ _ h => h) (Or.inl ⟨by kernel_rfl, ?_⟩) G1 ?_
              rotate_left 1
              · (intro w hS; clear hS; go_simp; try (with_reducible rfl))
              refine wpAnyE_take (i := 9) (v := ?_) rfl (by kernel_rfl) (by kernel_rfl) (by kernel_rfl) (by kernel_rfl) (fun _ _ _ h => h) (Or.inl ⟨by kernel_rfl, ?_⟩) G1 ?_
              rotate_left 1
              · (intro w hS; clear hS; go_simp; try (with_reducible rfl))
              refine wpAnyE_take (i := 10) (v := ?_) rfl (by kernel_rfl) (by kernel_rfl) (by kernel_rfl) (by kernel_rfl) (fun _ _ _ h => h) (Or.inl ⟨by kernel_rfl, ?_⟩) G1 ?_
              rotate_left 1
              · (intro w hS; clear hS; go_simp; try (with_reducible rfl))
              refine wpAnyE_take (i := 11) (v := ?_) rfl (by kernel_rfl) (by kernel_rfl) (by kernel_rfl) (by kernel_rfl) (fun _ _ _ h => h) (Or.inl ⟨by kernel_rfl, ?_⟩) G1 ?_
              rotate_left 1
              · (intro w hS; clear hS; go_simp; try (with_reducible rfl))
              refine wpAnyE_take (i := 12) (v := ?_) rfl (by kernel_rfl) (by kernel_rfl) (by kernel_rfl) (by kernel_rfl) (fun _ _ _ h => h) (Or.inl ⟨by kernel_rfl, ?_⟩) G1 ?_
              rotate_left 1
              · (intro w hS; clear hS; go_simp; try (with_reducible rfl))
              refine wpAnyE_take (i := 13) (v := undef) rfl (by kernel_rfl) (by kernel_rfl) (by kernel_rfl) (by kernel_rfl) (fun _ _ _ h => h) (Or.inr ⟨by kernel_rfl, rfl⟩) G1 ?_
              refine wpAnyE_take (i := 14) (v := undef) rfl (by kernel_rfl) (by kernel_rfl) (by kernel_rfl) (by kernel_rfl) (fun _ _ _ h => h) (Or.inr ⟨by kernel_rfl, rfl⟩) G1 ?_
              refine wpAnyE_take (i := 15) (v := undef) rfl (by kernel_rfl) (by kernel_rfl) (by kernel_rfl) (by kernel_rfl) (fun _ _ _ h => h) (Or.inr ⟨by kernel_rfl, rfl⟩) G1 ?_
              refine wpAnyE_take (i := 16) (v := undef) rfl (by kernel_rfl) (by kernel_rfl) (by kernel_rfl) (by kernel_rfl) (fun _ _ _ h => h) (Or.inr ⟨by kernel_rfl, rfl⟩) G1 ?_
              refine wpAnyE_take (i := 17) (v := ?_) rfl (by kernel_rfl) (by kernel_rfl) (by kernel_rfl) (by kernel_rfl) (fun _ _ _ h => h) (Or.inl ⟨by kernel_rfl, ?_⟩) G1 ?_
              rotate_left 1
              · (intro w hS; clear hS; go_simp; try (with_reducible rfl))
              refine wpAnyE_take (i := 18) (v := ?_) rfl (by kernel_rfl) (by kernel_rfl) (by kernel_rfl) (by kernel_rfl) (fun _ _ _ h => h) (Or.inl ⟨by kernel_rfl, ?_⟩) G1 ?_
              rotate_left 1
              · (intro w hS; clear hS; go_simp; try (with_reducible rfl))
              refine wpAnyE_take (i := 19) (v := ?_) rfl (by kernel_rfl) (by kernel_rfl) (by kernel_rfl) (by kernel_rfl) (fun _ _ _ h => h) (Or.inl ⟨by kernel_rfl, ?_⟩) G1 ?_
              rotate_left 1
              · (intro w hS; clear hS; go_simp; try (with_reducible rfl))
              refine wpAnyE_take (i := 20) (v := ?_) rfl (by kernel_rfl) (by kernel_rfl) (by kernel_rfl) (by kernel_rfl) (fun _ _ _ h => h) (Or.inl ⟨by kernel_rfl, ?_⟩) G1 ?_
              rotate_left 1
              · (intro w hS; clear hS; go_simp; try (with_reducible rfl))
              refine wpAnyE_take (i := 21) (v := ?_) rfl (by kernel_rfl) (by kernel_rfl) (by kernel_rfl) (by kernel_rfl) (fun _ _ _ h => h) (Or.inl ⟨by kernel_rfl, ?_⟩) G1 ?_
              rotate_left 1
              · (intro w hS; clear hS; go_simp; try (with_reducible rfl))
              refine wpAnyE_take (i := 22) (v := ?_) rfl (by kernel_rfl) (by kernel_rfl) (by kernel_rfl) (by kernel_rfl) (fun _ _ _ h => h) (Or.inl ⟨by kernel_rfl, ?_⟩) G1 ?_
              rotate_left 1
              · (intro w hS; clear hS; go_simp; try (with_reducible rfl))
              refine wpAnyE_take (i := 23) (v := .agg (sv xT).toArray) rfl (by kernel_rfl) (by kernel_rfl) (by kernel_rfl) (by kernel_rfl) (fun _ _ _ h => h) (yieldsIf_load_mid (by kernel_rfl) 32 (.tmp 12) rfl g8 0 (by go_simp) (sv xT) _ (fun _ h => rows_of_blk h.bt) Tryd.underlying32 rfl (FX_xT.out)) G1 ?_
              refine wpAnyE_take (i := 24) (v := ?_) rfl (by kernel_rfl) (by kernel_rfl) (by kernel_rfl) (by kernel_rfl) (fun _ _ _ h => h) (Or.inl ⟨by kernel_rfl, ?_⟩) G1 ?_
              rotate_left 1
              · (intro w hS; clear hS; go_simp; try (with_reducible rfl))
              refine wpAnyE_take (i := 26) (v := ?_) rfl (by kernel_rfl) (by kernel_rfl) (by kernel_rfl) (by kernel_rfl) (fun _ _ _ h => h) (Or.inl ⟨by kernel_rfl, ?_⟩) G1 ?_
              rotate_left 1
              · (intro w hS; clear hS; go_simp; try (with_reducible rfl))
              refine wpAnyE_take (i := 27) (v := ?_) rfl (by kernel_rfl) (by kernel_rfl) (by kernel_rfl) (by kernel_rfl) (fun _ _ _ h => h) (Or.inl ⟨by kernel_rfl, ?_⟩) G1 ?_
              rotate_left 1
              · (intro w hS; have hs := (sv_cells hS.bt).2.1; clear hS; go_simp; try (with_reducible rfl))
              refine wpAnyE_take (i := 28) (v := ?_) rfl (by kernel_rfl) (by kernel_rfl) (by kernel_rfl) (by kernel_rfl) (fun _ _ _ h => h) (Or.inl ⟨by kernel_rfl, ?_⟩) G1 ?_
              rotate_left 1
              · (intro w hS; clear hS; go_simp; try (with_reducible rfl))
              refine wpAnyE_take (i := 29) (v := ?_) rfl (by kernel_rfl) (by kernel_rfl) (by kernel_rfl) (by kernel_rfl) (fun _ _ _ h => h) (Or.inl ⟨by kernel_rfl, ?_⟩) G1 ?_
              rotate_left 1
              · (intro w hS; clear hS; go_simp; try (with_reducible rfl))
              refine wpAnyE_one (i := 25) (by kernel_rfl) rfl (by kernel_rfl) (fun K hK => ?_)
              go_simp
              refine FD.out.mono ?_
              rintro e w8 ⟨rfl, b8⟩
              have P12 := Lib.hid (P11.out.below b8); have S12 := Lib.hid (S11.out.below b8); have G12 := Lib.hid (G11.out.below b8 G11.out.lt)
              have G2 : CC w8 g g8 x xT := G1.below b8
              refine hK.out _ _ (.inr G2) ?_
              clear hK K b8 FD P11 S11 G11 F11
              refine wpAnyE_take (i := 30) (v := ?_) rfl (by kernel_rfl) (by kernel_rfl) (by kernel_rfl) (by kernel_rfl) (fun _ _ _ h => h) (Or.inl ⟨by kernel_rfl, ?_⟩) G2 ?_
              rotate_left 1
              · (intro w hS; clear hS; go_simp; try (with_reducible rfl))
              refine wpAnyE_take (i := 31) (v := ?_) rfl (by kernel_rfl) (by kernel_rfl) (by kernel_rfl) (by kernel_rfl) (fun _ _ _ h => h) (Or.inl ⟨by kernel_rfl, ?_⟩) G2 ?_
              rotate_left 1
              · (intro w hS; clear hS; go_simp; try (with_reducible rfl))
              refine wpAnyE_take (i := 32) (v := ?_) rfl (by kernel_rfl) (by kernel_rfl) (by kernel_rfl) (by kernel_rfl) (fun _ _ _ h => h) (Or.inl ⟨by kernel_rfl, ?_⟩) G2 ?_
              rotate_left 1
              · (intro w hS; clear hS; go_simp; try (with_reducible rfl))
              refine wpAnyE_done (by kernel_rfl) ?_ _
              go_simp
              have BXg := Lib.hid G2.bx; have BTg := Lib.hid G2.bt
              have SL1 := Lib.hid (sv_len x P12.out.sf.l4); have SL2 := Lib.hid (sv_len xT S12.out.l4); have FO2 := Lib.hid (sv_one xT)
              have KZ : Kept (fun b => b = g) w8 (w8.setRow g (sv xT).toArray) := (Kept.refl (fun b => b = g) w8).setRowK (.inl rfl) _
              have PZ := Lib.hid (P12.out.put2 S12.out OD2.out.o KZ (BXg.out.setRow (sv xT)))
              have GZ := Lib.hid (G12.out.kept KZ HNE.out)
              clear G1 G2 KZ lx5 lT5
              go_wp2_with (first
                | ((with_reducible refine load_blk 32 (.tmp 12) g8 32 (sv xT) _ rfl rfl ?_ Tryd.underlying32 ?_ ?_ ?_ ?_); exact BTg.out; exact rfl; exact FX_xT.out; exact rfl)
                | ((with_reducible refine at_op (.store 32 (.tmp 5) (.tmp 127)) rfl ?_); go_must (refine store_blk 32 (.tmp 5) (.tmp 127) g 32 (sv x) (sv xT) rfl rfl BXg.out (SL1.out.trans SL2.out.symm) FX_xT.out FO2.out rfl rfl ?_)))
              exact ⟨⟨i + 1, xT, hasU has v false, L', hlt, by omega, by go_num, PZ.out, OD2.out, by exact GZ.out⟩, by simp [intOf]; omega⟩
            | true =>
              obtain ⟨y, L', k1, k2, k3, k4, k5⟩ := cas_step OD.out (by omega) HV4.out false (F := gl [fN v, fAny]) (G := gl [fN v, fN i]) rfl rfl rfl rfl (kd := 6) rfl
              rw [hhv] at k2 k4 k5
              have K1 := Lib.hid k1; have K2 := Lib.hid k2; have K3 := Lib.hid k3; have K4 := Lib.hid k4; have K5 := Lib.hid k5
              clear k1 k2 k3 k4 k5
              have DA := Lib.hid (DoM x (i : Int) (rqC i 6 v h1 h2) V6 P6.out.w P6.out.op.may ⟨rw_two FA6.out, rw_two FB6.out, (by decide : (2 : Nat) ≤ 9223372036854775807), (by decide : (2 : Nat) ≤ 9223372036854775807)⟩ (by decide : (2 : Nat) ≤ 1000) (by decide : (2 : Nat) ≤ 1000) (HU.out.below P6.out.bel) _ rfl)
              have BX := Lib.hid P6.out.box; have FXU := Lib.hid (sv_size x P6.out.sf.l4); have SL1 := Lib.hid (sv_len x P6.out.sf.l4); have FQ := Lib.hid (rv_size (rqC i 6 v h1 h2))
              go_wp2_with (first
                | ((with_reducible refine load_blk 32 (.tmp 5) g 32 (sv x) _ rfl rfl ?_ Tryd.underlying32 ?_ ?_ ?_ ?_); exact BX.out; exact rfl; exact FXU.out; exact rfl)
                | ((with_reducible refine load_blk 38 (.tmp 11) gq 38 (rv (rqC i 6 v h1 h2)) _ rfl rfl ?_ Tryd.underlying38 ?_ ?_ ?_ ?_); exact Q6.out; exact rfl; exact FQ.out; exact rfl))
              refine DA.out.mono ?_
              rintro e w4 ⟨xT, R, q, c', rfl, p', r', s', w', m', ow, ft, -, b'⟩
              have OD2 := Lib.hid (show CasS (hasU has v false) (i + 1) xT.sp L' by rw [p']; exact K3.out)
              have KF := Lib.hid ((congrArg (fun s : Sp => fndI [fN v, fN i] s.its) p').trans K5.out)
              obtain ⟨y1, gl1, rfl, hy1, rfl, ro⟩ := rep_one ow (r'.trans K1.out)
              have RO1 := Lib.hid ro; have HY1 := Lib.hid hy1
              have S4 := Lib.hid s'; have B4 := Lib.hid b'; have G8 := Lib.hid (G6.out.below b' G6.out.lt)
              clear s' b' p' r' m' ow ft ro hy1 DA BX FQ K1 K3 K5 ct
              have FX_xT := Lib.hid (sv_size xT w'.l4); have FO_xT := Lib.hid (sv_one xT); have SL_xT := Lib.hid (sv_len xT w'.l4)
              have Z_xT := Lib.hid (Blk.new w4 32 [.int .i64 0, .slice none 0 0, .slice none 0 0, .int .i64 0, .int .i64 0, .int .i64 0, .int .i64 0, .int .i64 0, .slice none 0 0, .bool false, .int .i64 0, .int .i64 0, .int .i64 0, .slice none 0 0, .bool false, .int .i64 0, .int .i64 0, .int .i64 0, .slice none 0 0, .bool false, .int .i64 0, .int .i64 0, .int .i64 0, .slice none 0 0, .bool false])
              have KN_xT := Lib.hid (KSp.new (w1 := w4) (x := xT) w')
              go_upto_region 13 with ((with_reducible refine at_op (.store 32 (.tmp 12) (.tmp 63)) rfl ?_); go_must (refine store_blk 32 (.tmp 12) (.tmp 63) (w4).heap.size 32 _ (sv xT) rfl rfl Z_xT.out SL_xT.out.symm FX_xT.out FO_xT.out rfl rfl ?_))
              obtain ⟨V8, hV8⟩ : ∃ V, ((w4).alloc (.cells #[.int .i64 0, .slice none 0 0, .slice none 0 0, .int .i64 0, .int .i64 0, .int .i64 0, .int .i64 0, .int .i64 0, .slice none 0 0, .bool false, .int .i64 0, .int .i64 0, .int .i64 0, .slice none 0 0, .bool false, .int .i64 0, .int .i64 0, .int .i64 0, .slice none 0 0, .bool false, .int .i64 0, .int .i64 0, .int .i64 0, .slice none 0 0, .bool false] 32)).setRow (w4).heap.size (sv xT).toArray = V := ⟨_, rfl⟩
              rw [hV8] at KN_xT ⊢
              have K_xT := Lib.hid KN_xT.out.1
              have B_xT := Lib.hid KN_xT.out.2
              clear hV8 KN_xT Z_xT FO_xT SL_xT
              obtain ⟨g8, hg8⟩ : ∃ g, (w4).heap.size = g := ⟨_, rfl⟩
              rw [hg8] at K_xT ⊢
              clear hg8
              have S8 := Lib.hid (S4.out.below B_xT.out)
              have B8 := Lib.hid (B4.out.trans (B_xT.out.mono B4.out.size))
              have P8 := Lib.hid (P6.out.below B8.out)
              have G9 := Lib.hid (G8.out.below B_xT.out G8.out.lt)
              have RO2 := Lib.hid (RO1.out.below B_xT.out)
              have F8 := Lib.hid (FB6.out.below B8.out FB6.out.lt)
              clear S4 B4 G8 B_xT RO1 w'
              have ct := HCT.out V8 P8.out.bel
              have ch := (G9.out.cell v).trans (has_get (has := has) HV4.out)
              rw [hhv] at ch
              go_upto_region 14 with (fail)
              go_quiet (fail)
              obtain ⟨U, hU⟩ : ∃ U, V8.drewN nq = U := ⟨_, rfl⟩
              have BU : Below V8.heap.size V8 U := by rw [← hU]; exact below_drewN' (Below.refl _ _) nq
              rw [hU]
              have P9 := Lib.hid (P8.out.below BU); have S9 := Lib.hid (S8.out.below BU); have G10 := Lib.hid (G9.out.below BU G9.out.lt); have F9 := Lib.hid (F8.out.below BU F8.out.lt)
              have K9 := Lib.hid (K_xT.out.below BU); have RO3 := Lib.hid (RO2.out.below BU); have B9 := Lib.hid (B8.out.trans (BU.mono B8.out.size))
              clear hU BU ct ch P8 S8 G9 F8 K_xT RO2 B8
              have ct := HCT.out U P9.out.bel
              have cr := RO3.out.cells.2.2.1
              rw [HY1.out, K2.out] at cr
              change _ = some (Value.int .i64 3) at cr
              go_upto_region 20 with (fail)
              clear ct cr
              have S10 := Lib.hid (S9.out.low P6.out.bel.size)
              have BT9 := Lib.hid K9.out.box
              have lx5 : ((x.its.length : Nat) : Int) ≤ 4 := by have := OD.out.len; have e : x.its.length = x.sp.its.length := its_len rfl; omega
              have lT5 : ((xT.its.length : Nat) : Int) ≤ 4 := by have := OD2.out.len; have e : xT.its.length = xT.sp.its.length := its_len rfl; omega
              have lxL : x.its.length = LL.length := by rw [its_len (x := x) rfl, OD.out.its, List.length_map]
              have lTL : xT.its.length = L'.length := by rw [its_len (x := xT) rfl, OD2.out.its, List.length_map]
              clear RO3 B9 S9 HY1 K2 HCT P6 G6 Q6 FA6 FB6
              have e8 : ((xT.its.length : Int) != IntKind.i64.wrap (x.its.length : Int)) = false := by
                have k4 : L'.length = LL.length + 0 := K4.out
                rw [IntWalk.i64_in _ (by omega), bne_eq_false_iff_eq]; omega
              have KF2 := Lib.hid (show fndI [fN v, fN i] xT.sp.its = -1 from KF.out)
              clear lxL lTL
              go_upto_region 24 with (fail)
              obtain ⟨U3, hU⟩ : ∃ V, (U).drew = V := ⟨_, rfl⟩
              have BU := Lib.hid (show Below (U).heap.size (U) U3 from by rw [← hU]; exact (Below.refl _ _).drew)
              have P11 := Lib.hid (P9.out.below BU.out); have S11 := Lib.hid (S10.out.below BU.out); have G11 := Lib.hid (G10.out.below BU.out G10.out.lt); have F11 := Lib.hid (F9.out.below BU.out F9.out.lt)
              have G1 : CC U3 g g8 x xT := ⟨P11.out.box, BT9.out.below BU.out BT9.out.lt⟩
              have FD := Lib.hid (Find_t xT (some ⟨h2, 0, none⟩) 2 2 (gl [fN v, fN i]) U3 (by decide) (rw_two F11.out) (S11.out.w OD2.out.o.may.small))
              rw [show fl 2 (gl [fN v, fN i]) = [fN v, fN i] from rfl, KF2.out] at FD
              clear BU
              refine wp_region_E (fun Y => CC Y g g8 x xT) (fun _ => false) (by kernel_rfl) ?_
              change wpAnyE _ _ _ _ _ _ _ _ _ (U).drew
              rw [hU]
              clear hU
              refine wpAnyE_take (i := 0) (v := ?_) rfl (by kernel_rfl) (by kernel_rfl) (by kernel_rfl) (by kernel_rfl) (fun _ _ _ h => h) (Or.inl ⟨by kernel_rfl, ?_⟩) G1 ?_
              rotate_left 1
              · (intro w hS; clear hS; go_simp; try (with_reducible rfl))
              refine wpAnyE_take (i := 1) (v := ?_) rfl (by kernel_rfl) (by kernel_rfl) (by kernel_rfl) (by kernel_rfl) (fun _ _ _ h => h) (Or.inl ⟨by kernel_rfl, ?_⟩) G1 ?_
              rotate_left 1
              · (intro w hS; have hs := (sv_cells hS.bt).2.1; clear hS; go_simp; try (with_reducible rfl))
              refine wpAnyE_take (i := 2) (v := ?_) rfl (by kernel_rfl) (by kernel_rfl) (by kernel_rfl) (by kernel_rfl) (fun _ _ _ h => h) (Or.inl ⟨by kernel_rfl, ?_⟩) G1 ?_
              rotate_left 1
              · (intro w hS; clear hS; go_simp; try (with_reducible rfl))
              refine wpAnyE_take (i := 3) (v := ?_) rfl (by kernel_rfl) (by kernel_rfl) (by kernel_rfl) (by kernel_rfl) (fun _ _ _ h => h) (Or.inl ⟨by kernel_rfl, ?_⟩) G1 ?_
              rotate_left 1
              · (intro w hS; clear hS; go_simp; try (with_reducible rfl))
              refine wpAnyE_take (i := 4) (v := ?_) rfl (by kernel_rfl) (by kernel_rfl) (by kernel_rfl) (by kernel_rfl) (fun _ _ _ h => h) (Or.inl ⟨by kernel_rfl, ?_⟩) G1 ?_
              rotate_left 1
              · (intro w hS; have hs := (sv_cells hS.bx).2.1; clear hS; go_simp; try (with_reducible rfl))
              refine wpAnyE_take (i := 5) (v := ?_) rfl (by kernel_rfl) (by kernel_rfl) (by kernel_rfl) (by kernel_rfl) (fun _ _ _ h => h) (Or.inl ⟨by kernel_rfl, ?_⟩) G1 ?_
              rotate_left 1
              · (intro w hS; clear hS; go_simp; try (with_reducible rfl))
              refine wpAnyE_take (i := 6) (v := ?_) rfl (by kernel_rfl) (by kernel_rfl) (by kernel_rfl) (by kernel_rfl) (fun _ _ _ h => h) (Or.inl ⟨by kernel_rfl, ?_⟩) G1 ?_
              rotate_left 1
              · (intro w hS; clear hS; go_simp; try (with_reducible rfl))
              refine wpAnyE_take (i := 7) (v := ?_) rfl (by kernel_rfl) (by kernel_rfl) (by kernel_rfl) (by kernel_rfl) (fun _ _ _ h => h) (Or.inl ⟨by kernel_rfl, ?_⟩) G1 ?_
              rotate_left 1
              · (intro w hS; clear hS; go_simp; try (with_reducible rfl))
              refine wpAnyE_take (i := 8) (v := ?_) rfl (by kernel_rfl) (by kernel_rfl) (by kernel_rfl) (by kernel_rfl) (fun _ _ _ h => h) (Or.inl ⟨by kernel_rfl, ?_⟩) G1 ?_
              rotate_left 1
              · (intro w hS; clear hS; go_simp; try (with_reducible rfl))
              refine wpAnyE_take (i := 9) (v := ?_) rfl (by kernel_rfl) (by kernel_rfl) (by kernel_rfl) (by kernel_rfl) (fun _ _ _ h => h) (Or.inl ⟨by kernel_rfl, ?_⟩) G1 ?_
              rotate_left 1
              · (intro w hS; clear hS; go_simp; try (with_reducible rfl))
              refine wpAnyE_take (i := 10) (v := ?_) rfl (by kernel_rfl) (by kernel_rfl) (by kernel_rfl) (by kernel_rfl) (fun _ _ _ h => h) (Or.inl ⟨by kernel_rfl, ?_⟩) G1 ?_
              rotate_left 1
              · (intro w hS; clear hS; go_simp; try (with_reducible rfl))
              refine wpAnyE_take (i := 11) (v := ?_) rfl (by kernel_rfl) (by kernel_rfl) (by kernel_rfl) (by kernel_rfl) (fun _ _ _ h => h) (Or.inl ⟨by kernel_rfl, ?_⟩) G1 ?_
              rotate_left 1
              · (intro w hS; clear hS; go_simp; try (with_reducible rfl))
              refine wpAnyE_take (i := 12) (v := ?_) rfl (by kernel_rfl) (by kernel_rfl) (by kernel_rfl) (by kernel_rfl) (fun _ _ _ h => h) (Or.inl ⟨by kernel_rfl, ?_⟩) G1 ?_
              rotate_left 1
              · (intro w hS; clear hS; go_simp; try (with_reducible rfl))
              refine wpAnyE_take (i := 13) (v := .agg (sv xT).toArray) rfl (by kernel_rfl) (by kernel_rfl) (by kernel_rfl) (by kernel_rfl) (fun _ _ _ h => h) (yieldsIf_load_mid (by kernel_rfl) 32 (.tmp 12) rfl g8 0 (by go_simp) (sv xT) _ (fun _ h => rows_of_blk h.bt) Tryd.underlying32 rfl (FX_xT.out)) G1 ?_
              refine wpAnyE_take (i := 14) (v := ?_) rfl (by kernel_rfl) (by kernel_rfl) (by kernel_rfl) (by kernel_rfl) (fun _ _ _ h => h) (Or.inl ⟨by kernel_rfl, ?_⟩) G1 ?_
              rotate_left 1
              · (intro w hS; clear hS; go_simp; try (with_reducible rfl))
              refine wpAnyE_one (i := 15) (by kernel_rfl) rfl (by kernel_rfl) (fun K hK => ?_)
              go_simp
              refine FD.out.mono ?_
              rintro e w8 ⟨rfl, b8⟩
              have P12 := Lib.hid (P11.out.below b8); have S12 := Lib.hid (S11.out.below b8); have G12 := Lib.hid (G11.out.below b8 G11.out.lt)
              have G2 : CC w8 g g8 x xT := G1.below b8
              refine hK.out _ _ (.inr G2) ?_
              clear hK K b8 FD P11 S11 G11 F11
              refine wpAnyE_take (i := 16) (v := ?_) rfl (by kernel_rfl) (by kernel_rfl) (by kernel_rfl) (by kernel_rfl) (fun _ _ _ h => h) (Or.inl ⟨by kernel_rfl, ?_⟩) G2 ?_
              rotate_left 1
              · (intro w hS; clear hS; go_simp; try (with_reducible rfl))
              refine wpAnyE_take (i := 17) (v := ?_) rfl (by kernel_rfl) (by kernel_rfl) (by kernel_rfl) (by kernel_rfl) (fun _ _ _ h => h) (Or.inl ⟨by kernel_rfl, ?_⟩) G2 ?_
              rotate_left 1
              · (intro w hS; clear hS; go_simp; try (with_reducible rfl))
              refine wpAnyE_take (i := 18) (v := ?_) rfl (by kernel_rfl) (by kernel_rfl) (by kernel_rfl) (by kernel_rfl) (fun _ _ _ h => h) (Or.inl ⟨by kernel_rfl, ?_⟩) G2 ?_
              rotate_left 1
              · (intro w hS; clear hS; go_simp; try (with_reducible rfl))
              refine wpAnyE_take (i := 19) (v := ?_) rfl (by kernel_rfl) (by kernel_rfl) (by kernel_rfl) (by kernel_rfl) (fun _ _ _ h => h) (Or.inl ⟨by kernel_rfl, ?_⟩) G2 ?_
              rotate_left 1
              · (intro w hS; clear hS; go_simp; try (with_reducible rfl))
              refine wpAnyE_take (i := 20) (v := ?_) rfl (by kernel_rfl) (by kernel_rfl) (by kernel_rfl) (by kernel_rfl) (fun _ _ _ h => h) (Or.inl ⟨by kernel_rfl, ?_⟩) G2 ?_
              rotate_left 1
              · (intro w hS; clear hS; go_simp; try (with_reducible rfl))
              refine wpAnyE_take (i := 21) (v := ?_) rfl (by kernel_rfl) (by kernel_rfl) (by kernel_rfl) (by kernel_rfl) (fun _ _ _ h => h) (Or.inl ⟨by kernel_rfl, ?_⟩) G2 ?_
              rotate_left 1
              · (intro w hS; clear hS; go_simp; try (with_reducible rfl))
              refine wpAnyE_take (i := 22) (v := ?_) rfl (by kernel_rfl) (by kernel_rfl) (by kernel_rfl) (by kernel_rfl) (fun _ _ _ h => h) (Or.inl ⟨by kernel_rfl, ?_⟩) G2 ?_
              rotate_left 1
              · (intro w hS; clear hS; go_simp; try (with_reducible rfl))
              refine wpAnyE_take (i := 23) (v := undef) rfl (by kernel_rfl) (by kernel_rfl) (by kernel_rfl) (by kernel_rfl) (fun _ _ _ h => h) (Or.inr ⟨by kernel_rfl, rfl⟩) G2 ?_
              refine wpAnyE_take (i := 24) (v := undef) rfl (by kernel_rfl) (by kernel_rfl) (by kernel_rfl) (by kernel_rfl) (fun _ _ _ h => h) (Or.inr ⟨by kernel_rfl, rfl⟩) G2 ?_
              refine wpAnyE_take (i := 25) (v := undef) rfl (by kernel_rfl) (by kernel_rfl) (by kernel_rfl) (by kernel_rfl) (fun _ _ _ h => h) (Or.inr ⟨by kernel_rfl, rfl⟩) G2 ?_
              refine wpAnyE_take (i := 26) (v := undef) rfl (by kernel_rfl) (by kernel_rfl) (by kernel_rfl) (by kernel_rfl) (fun _ _ _ h => h) (Or.inr ⟨by kernel_rfl, rfl⟩) G2 ?_
              refine wpAnyE_take (i := 27) (v := undef) rfl (by kernel_rfl) (by kernel_rfl) (by kernel_rfl) (by kernel_rfl) (fun _ _ _ h => h) (Or.inr ⟨by kernel_rfl, rfl⟩) G2 ?_
              refine wpAnyE_take (i := 28) (v := undef) rfl (by kernel_rfl) (by kernel_rfl) (by kernel_rfl) (by kernel_rfl) (fun _ _ _ h => h) (Or.inr ⟨by kernel_rfl, rfl⟩) G2 ?_
              refine wpAnyE_take (i := 29) (v := undef) rfl (by kernel_rfl) (by kernel_rfl) (by kernel_rfl) (by kernel_rfl) (fun _ _ _ h => h) (Or.inr ⟨by kernel_rfl, rfl⟩) G2 ?_
              refine wpAnyE_take (i := 30) (v := undef) rfl (by kernel_rfl) (by kernel_rfl) (by kernel_rfl) (by kernel_rfl) (fun _ _ _ h => h) (Or.inr ⟨by kernel_rfl, rfl⟩) G2 ?_
              refine wpAnyE_take (i := 31) (v := ?_) rfl (by kernel_rfl) (by kernel_rfl) (by kernel_rfl) (by kernel_rfl) (fun _ _ _ h => h) (Or.inl ⟨by kernel_rfl, ?_⟩) G2 ?_
              rotate_left 1
              · (intro w hS; clear hS; go_simp; try (with_reducible rfl))
              refine wpAnyE_take (i := 32) (v := ?_) rfl (by kernel_rfl) (by kernel_rfl) (by kernel_rfl) (by kernel_rfl) (fun _ _ _ h => h) (Or.inl ⟨by kernel_rfl, ?_⟩) G2 ?_
              rotate_left 1
              · (intro w hS; clear hS; go_simp; try (with_reducible rfl))
              refine wpAnyE_done (by kernel_rfl) ?_ _
              go_simp
              have BXg := Lib.hid G2.bx; have BTg := Lib.hid G2.bt
              have SL1 := Lib.hid (sv_len x P12.out.sf.l4); have SL2 := Lib.hid (sv_len xT S12.out.l4); have FO2 := Lib.hid (sv_one xT)
              have KZ : Kept (fun b => b = g) w8 (w8.setRow g (sv xT).toArray) := (Kept.refl (fun b => b = g) w8).setRowK (.inl rfl) _
              have PZ := Lib.hid (P12.out.put2 S12.out OD2.out.o KZ (BXg.out.setRow (sv xT)))
              have GZ := Lib.hid (G12.out.kept KZ HNE.out)
              clear G1 G2 KZ lx5 lT5
              go_wp2_with (first
                | ((with_reducible refine load_blk 32 (.tmp 12) g8 32 (sv xT) _ rfl rfl ?_ Tryd.underlying32 ?_ ?_ ?_ ?_); exact BTg.out; exact rfl; exact FX_xT.out; exact rfl)
                | ((with_reducible refine at_op (.store 32 (.tmp 5) (.tmp 127)) rfl ?_); go_must (refine store_blk 32 (.tmp 5) (.tmp 127) g 32 (sv x) (sv xT) rfl rfl BXg.out (SL1.out.trans SL2.out.symm) FX_xT.out FO2.out rfl rfl ?_)))
              exact ⟨⟨i + 1, xT, hasU has v false, L', hlt, by omega, by go_num, PZ.out, OD2.out, by (rw [has_same (by rw [hhv]; decide)]; exact GZ.out)⟩, by simp [intOf]; omega⟩
          | true =>
            rw [htk] at ct HCT
            have cq := Q6.out.cell 2
            rw [show (rv (rqC i 6 v h1 h2))[2]? = some (.int .i64 6) from rfl] at cq
            have fq := Q6.out.frozen 2
            go_upto_region 12 with (fail)
            have KQ : Kept (fun b => b = gq) V6 (V6.setCell ⟨gq, 2, none⟩ (.int .i64 7)) := (Kept.refl (fun b => b = gq) V6).setCell (.inl rfl) _
            have P7 := Lib.hid (P6.out.far Q6.out (by decide) (by decide) (by decide) (by decide) HGQ.out KQ)
            have G7 := Lib.hid (G6.out.kept KQ (G6.out.apart Q6.out (by decide)))
            have FA7 := Lib.hid (FA6.out.kept KQ (FA6.out.apart Q6.out (by decide))); have FB7 := Lib.hid (FB6.out.kept KQ (FB6.out.apart Q6.out (by decide)))
            have Q7 := Lib.hid (show Blk (V6.setCell ⟨gq, 2, none⟩ (.int .i64 7)) gq 38 (rv (rqC i 7 v h1 h2)) from Q6.out.store 2 (.int .i64 7))
            obtain ⟨V7, hV7⟩ : ∃ V, V6.setCell ⟨gq, 2, none⟩ (.int .i64 7) = V := ⟨_, rfl⟩
            rw [hV7] at P7 G7 FA7 FB7 Q7 ⊢
            clear hV7 KQ P6 G6 FA6 FB6 Q6 cq fq ct
            have ct := HCT.out V7 P7.out.bel
            cases hhv : has v with
            | false =>
              obtain ⟨y, L', k1, k2, k3, k4, k5⟩ := cas_step OD.out (by omega) HV4.out true (F := gl [fN v, fAny]) (G := gl [fN v, fN i]) rfl rfl rfl rfl (kd := 7) rfl
              rw [hhv] at k2 k4 k5
              have K1 := Lib.hid k1; have K2 := Lib.hid k2; have K3 := Lib.hid k3; have K4 := Lib.hid k4; have K5 := Lib.hid k5
              clear k1 k2 k3 k4 k5
              have DA := Lib.hid (DoM x (i : Int) (rqC i 7 v h1 h2) V7 P7.out.w P7.out.op.may ⟨rw_two FA7.out, rw_two FB7.out, (by decide : (2 : Nat) ≤ 9223372036854775807), (by decide : (2 : Nat) ≤ 9223372036854775807)⟩ (by decide : (2 : Nat) ≤ 1000) (by decide : (2 : Nat) ≤ 1000) (HU.out.below P7.out.bel) _ rfl)
              have BX := Lib.hid P7.out.box; have FXU := Lib.hid (sv_size x P7.out.sf.l4); have SL1 := Lib.hid (sv_len x P7.out.sf.l4); have FQ := Lib.hid (rv_size (rqC i 7 v h1 h2))
              go_wp2_with (first
                | ((with_reducible refine load_blk 32 (.tmp 5) g 32 (sv x) _ rfl rfl ?_ Tryd.underlying32 ?_ ?_ ?_ ?_); exact BX.out; exact rfl; exact FXU.out; exact rfl)
                | ((with_reducible refine load_blk 38 (.tmp 11) gq 38 (rv (rqC i 7 v h1 h2)) _ rfl rfl ?_ Tryd.underlying38 ?_ ?_ ?_ ?_); exact Q7.out; exact rfl; exact FQ.out; exact rfl))
              refine DA.out.mono ?_
              rintro e w4 ⟨xT, R, q, c', rfl, p', r', s', w', m', ow, ft, -, b'⟩
              have OD2 := Lib.hid (show CasS (hasU has v true) (i + 1) xT.sp L' by rw [p']; exact K3.out)
              have KF := Lib.hid ((congrArg (fun s : Sp => fndI [fN v, fN i] s.its) p').trans K5.out)
              obtain ⟨y1, gl1, rfl, hy1, rfl, ro⟩ := rep_one ow (r'.trans K1.out)
              have RO1 := Lib.hid ro; have HY1 := Lib.hid hy1
              have S4 := Lib.hid s'; have B4 := Lib.hid b'; have G8 := Lib.hid (G7.out.below b' G7.out.lt)
              clear s' b' p' r' m' ow ft ro hy1 DA BX FQ K1 K3 K5 ct
              have FX_xT := Lib.hid (sv_size xT w'.l4); have FO_xT := Lib.hid (sv_one xT); have SL_xT := Lib.hid (sv_len xT w'.l4)
              have Z_xT := Lib.hid (Blk.new w4 32 [.int .i64 0, .slice none 0 0, .slice none 0 0, .int .i64 0, .int .i64 0, .int .i64 0, .int .i64 0, .int .i64 0, .slice none 0 0, .bool false, .int .i64 0, .int .i64 0, .int .i64 0, .slice none 0 0, .bool false, .int .i64 0, .int .i64 0, .int .i64 0, .slice none 0 0, .bool false, .int .i64 0, .int .i64 0, .int .i64 0, .slice none 0 0, .bool false])
              have KN_xT := Lib.hid (KSp.new (w1 := w4) (x := xT) w')
              go_upto_region 13 with ((with_reducible refine at_op (.store 32 (.tmp 12) (.tmp 63)) rfl ?_); go_must (refine store_blk 32 (.tmp 12) (.tmp 63) (w4).heap.size 32 _ (sv xT) rfl rfl Z_xT.out SL_xT.out.symm FX_xT.out FO_xT.out rfl rfl ?_))
              obtain ⟨V8, hV8⟩ : ∃ V, ((w4).alloc (.cells #[.int .i64 0, .slice none 0 0, .slice none 0 0, .int .i64 0, .int .i64 0, .int .i64 0, .int .i64 0, .int .i64 0, .slice none 0 0, .bool false, .int .i64 0, .int .i64 0, .int .i64 0, .slice none 0 0, .bool false, .int .i64 0, .int .i64 0, .int .i64 0, .slice none 0 0, .bool false, .int .i64 0, .int .i64 0, .int .i64 0, .slice none 0 0, .bool false] 32)).setRow (w4).heap.size (sv xT).toArray = V := ⟨_, rfl⟩
              rw [hV8] at KN_xT ⊢
              have K_xT := Lib.hid KN_xT.out.1
              have B_xT := Lib.hid KN_xT.out.2
              clear hV8 KN_xT Z_xT FO_xT SL_xT
              obtain ⟨g8, hg8⟩ : ∃ g, (w4).heap.size = g := ⟨_, rfl⟩
              rw [hg8] at K_xT ⊢
              clear hg8
              have S8 := Lib.hid (S4.out.below B_xT.out)
              have B8 := Lib.hid (B4.out.trans (B_xT.out.mono B4.out.size))
              have P8 := Lib.hid (P7.out.below B8.out)
              have G9 := Lib.hid (G8.out.below B_xT.out G8.out.lt)
              have RO2 := Lib.hid (RO1.out.below B_xT.out)
              have F8 := Lib.hid (FB7.out.below B8.out FB7.out.lt)
              clear S4 B4 G8 B_xT RO1 w'
              have ct := HCT.out V8 P8.out.bel
              have ch := (G9.out.cell v).trans (has_get (has := has) HV4.out)
              rw [hhv] at ch
              go_upto_region 14 with (fail)
              go_quiet (fail)
              obtain ⟨U, hU⟩ : ∃ U, V8.drewN nq = U := ⟨_, rfl⟩
              have BU : Below V8.heap.size V8 U := by rw [← hU]; exact below_drewN' (Below.refl _ _) nq
              rw [hU]
              have P9 := Lib.hid (P8.out.below BU); have S9 := Lib.hid (S8.out.below BU); have G10 := Lib.hid (G9.out.below BU G9.out.lt); have F9 := Lib.hid (F8.out.below BU F8.out.lt)
              have K9 := Lib.hid (K_xT.out.below BU); have RO3 := Lib.hid (RO2.out.below BU); have B9 := Lib.hid (B8.out.trans (BU.mono B8.out.size))
              clear hU BU ct ch P8 S8 G9 F8 K_xT RO2 B8
              have ct := HCT.out U P9.out.bel
              have cr := RO3.out.cells.2.2.1
              rw [HY1.out, K2.out] at cr
              change _ = some (Value.int .i64 3) at cr
              go_upto_region 20 with (fail)
              clear ct cr
              have S10 := Lib.hid (S9.out.low P7.out.bel.size)
              have BT9 := Lib.hid K9.out.box
              have lx5 : ((x.its.length : Nat) : Int) ≤ 4 := by have := OD.out.len; have e : x.its.length = x.sp.its.length := its_len rfl; omega
              have lT5 : ((xT.its.length : Nat) : Int) ≤ 4 := by have := OD2.out.len; have e : xT.its.length = xT.sp.its.length := its_len rfl; omega
              have lxL : x.its.length = LL.length := by rw [its_len (x := x) rfl, OD.out.its, List.length_map]
              have lTL : xT.its.length = L'.length := by rw [its_len (x := xT) rfl, OD2.out.its, List.length_map]
              clear RO3 B9 S9 HY1 K2 HCT P7 G7 Q7 FA7 FB7
              have e8 : ((xT.its.length : Int) != IntKind.i64.wrap (x.its.length : Int)) = false := by
                have k4 : L'.length = LL.length + 0 := K4.out
                rw [IntWalk.i64_in _ (by omega), bne_eq_false_iff_eq]; omega
              have KF2 := Lib.hid (show fndI [fN v, fN i] xT.sp.its = -1 from KF.out)
              clear lxL lTL
              go_upto_region 24 with (fail)
              obtain ⟨U3, hU⟩ : ∃ V, (U).drew = V := ⟨_, rfl⟩
              have BU := Lib.hid (show Below (U).heap.size (U) U3 from by rw [← hU]; exact (Below.refl _ _).drew)
              have P11 := Lib.hid (P9.out.below BU.out); have S11 := Lib.hid (S10.out.below BU.out); have G11 := Lib.hid (G10.out.below BU.out G10.out.lt); have F11 := Lib.hid (F9.out.below BU.out F9.out.lt)
              have G1 : CC U3 g g8 x xT := ⟨P11.out.box, BT9.out.below BU.out BT9.out.lt⟩
              have FD := Lib.hid (Find_t xT (some ⟨h2, 0, none⟩) 2 2 (gl [fN v, fN i]) U3 (by decide) (rw_two F11.out) (S11.out.w OD2.out.o.may.small))
              rw [show fl 2 (gl [fN v, fN i]) = [fN v, fN i] from rfl, KF2.out] at FD
              clear BU
              refine wp_region_E (fun Y => CC Y g g8 x xT) (fun _ => false) (by kernel_rfl) ?_
              change wpAnyE _ _ _ _ _ _ _ _ _ (U).drew
              rw [hU]
              clear hU
              refine wpAnyE_take (i := 0) (v := ?_) rfl (by kernel_rfl) (by kernel_rfl) (by kernel_rfl) (by kernel_rfl) (fun _ _ _ h => h) (Or.inl ⟨by kernel_rfl, ?_⟩) G1 ?_
              rotate_left 1
              · (intro w hS; clear hS; go_simp; try (with_reducible rfl))
              refine wpAnyE_take (i := 1) (v := ?_) rfl (by kernel_rfl) (by kernel_rfl) (by kernel_rfl) (by kernel_rfl) (fun _ _ _ h => h) (Or.inl ⟨by kernel_rfl, ?_⟩) G1 ?_
              rotate_left 1
              · (intro w hS; have hs := (sv_cells hS.bt).2.1; clear hS; go_simp; try (with_reducible rfl))
              refine wpAnyE_take (i := 2) (v := ?_) rfl (by kernel_rfl) (by kernel_rfl) (by kernel_rfl) (by kernel_rfl) (fun _ _ _ h => h) (Or.inl ⟨by kernel_rfl, ?_⟩) G1 ?_
              rotate_left 1
              · (intro w hS; clear hS; go_simp; try (with_reducible rfl))
              refine wpAnyE_take (i := 3) (v := ?_) rfl (by kernel_rfl) (by kernel_rfl) (by kernel_rfl) (by kernel_rfl) (fun _ _ _ h => h) (Or.inl ⟨by kernel_rfl, ?_⟩) G1 ?_
              rotate_left 1
              · (intro w hS; clear hS; go_simp; try (with_reducible rfl))
              refine wpAnyE_take (i := 4) (v := ?_) rfl (by kernel_rfl) (by kernel_rfl) (by kernel_rfl) (by kernel_rfl) (fun _ _ _ h => h) (Or.inl ⟨by kernel_rfl, ?_⟩) G1 ?_
              rotate_left 1
              · (intro w hS; have hs := (sv_cells hS.bx).2.1; clear hS; go_simp; try (with_reducible rfl))
              refine wpAnyE_take (i := 5) (v := ?_) rfl (by kernel_rfl) (by kernel_rfl) (by kernel_rfl) (by kernel_rfl) (fun _ _ _ h => h) (Or.inl ⟨by kernel_rfl, ?_⟩) G1 ?_
              rotate_left 1
              · (intro w hS; clear hS; go_simp; try (with_reducible rfl))
              refine wpAnyE_take (i := 6) (v := ?_) rfl (by kernel_rfl) (by kernel_rfl) (by kernel_rfl) (by kernel_rfl) (fun _ _ _ h => h) (Or.inl ⟨by kernel_rfl, ?_⟩) G1 ?_
              rotate_left 1
              · (intro w hS; clear hS; go_simp; try (with_reducible rfl))
              refine wpAnyE_take (i := 7) (v := ?_) rfl (by kernel_rfl) (by kernel_rfl) (by kernel_rfl) (by kernel_rfl) (fun _ _ _ h => h) (Or.inl ⟨by kernel_rfl, ?_⟩) G1 ?_
              rotate_left 1
              · (intro w hS; clear hS; go_simp; try (with_reducible rfl))
              refine wpAnyE_take (i := 8) (v := ?_) rfl (by kernel_rfl) (by kernel_rfl) (by kernel_rfl) (by kernel_rfl) (fun _ _ _ h => h) (Or.inl ⟨by kernel_rfl, ?_⟩) G1 ?_
              rotate_left 1
              · (intro w hS; clear hS; go_simp; try (with_reducible rfl))
              refine wpAnyE_take (i := 9) (v := ?_) rfl (by kernel_rfl) (by kernel_rfl) (by kernel_rfl) (by kernel_rfl) (fun _ _ _ h => h) (Or.inl ⟨by kernel_rfl, ?_⟩) G1 ?_
              rotate_left 1
              · (intro w hS; clear hS; go_simp; try (with_reducible rfl))
              refine wpAnyE_take (i := 10) (v := ?_) rfl (by kernel_rfl) (by kernel_rfl) (by kernel_rfl) (by kernel_rfl) (fun _ _ _ h => h) (Or.inl ⟨by kernel_rfl, ?_⟩) G1 ?_
              rotate_left 1
              · (intro w hS; clear hS; go_simp; try (with_reducible rfl))
              refine wpAnyE_take (i := 11) (v := ?_) rfl (by kernel_rfl) (by kernel_rfl) (by kernel_rfl) (by kernel_rfl) (fun _ _ _ h => h) (Or.inl ⟨by kernel_rfl, ?_⟩) G1 ?_
              rotate_left 1
              · (intro w hS; clear hS; go_simp; try (with_reducible rfl))
              refine wpAnyE_take (i := 12) (v := ?_) rfl (by kernel_rfl) (by kernel_rfl) (by kernel_rfl) (by kernel_rfl) (fun _ _ _ h => h) (Or.inl ⟨by kernel_rfl, ?_⟩) G1 ?_
              rotate_left 1
              · (intro w hS; clear hS; go_simp; try (with_reducible rfl))
              refine wpAnyE_take (i := 13) (v := .agg (sv xT).toArray) rfl (by kernel_rfl) (by kernel_rfl) (by kernel_rfl) (by kernel_rfl) (fun _ _ _ h => h) (yieldsIf_load_mid (by kernel_rfl) 32 (.tmp 12) rfl g8 0 (by go_simp) (sv xT) _ (fun _ h => rows_of_blk h.bt) Tryd.underlying32 rfl (FX_xT.out)) G1 ?_
              refine wpAnyE_take (i := 14) (v := ?_) rfl (by kernel_rfl) (by kernel_rfl) (by kernel_rfl) (by kernel_rfl) (fun _ _ _ h => h) (Or.inl ⟨by kernel_rfl, ?_⟩) G1 ?_
              rotate_left 1
              · (intro w hS; clear hS; go_simp; try (with_reducible rfl))
              refine wpAnyE_one (i := 15) (by kernel_rfl) rfl (by kernel_rfl) (fun K hK => ?_)
              go_simp
              refine FD.out.mono ?_
              rintro e w8 ⟨rfl, b8⟩
              have P12 := Lib.hid (P11.out.below b8); have S12 := Lib.hid (S11.out.below b8); have G12 := Lib.hid (G11.out.below b8 G11.out.lt)
              have G2 : CC w8 g g8 x xT := G1.below b8
              refine hK.out _ _ (.inr G2) ?_
              clear hK K b8 FD P11 S11 G11 F11
              refine wpAnyE_take (i := 16) (v := ?_) rfl (by kernel_rfl) (by kernel_rfl) (by kernel_rfl) (by kernel_rfl) (fun _ _ _ h => h) (Or.inl ⟨by kernel_rfl, ?_⟩) G2 ?_
              rotate_left 1
              · (intro w hS; clear hS; go_simp; try (with_reducible rfl))
              refine wpAnyE_take (i := 17) (v := ?_) rfl (by kernel_rfl) (by kernel_rfl) (by kernel_rfl) (by kernel_rfl) (fun _ _ _ h => h) (Or.inl ⟨by kernel_rfl, ?_⟩) G2 ?_
              rotate_left 1
              · (intro w hS; clear hS; go_simp; try (with_reducible rfl))
              refine wpAnyE_take (i := 18) (v := ?_) rfl (by kernel_rfl) (by kernel_rfl) (by kernel_rfl) (by kernel_rfl) (fun _ _ _ h => h) (Or.inl ⟨by kernel_rfl, ?_⟩) G2 ?_
              rotate_left 1
              · (intro w hS; clear hS; go_simp; try (with_reducible rfl))
              refine wpAnyE_take (i := 19) (v := ?_) rfl (by kernel_rfl) (by kernel_rfl) (by kernel_rfl) (by kernel_rfl) (fun _ _ _ h => h) (Or.inl ⟨by kernel_rfl, ?_⟩) G2 ?_
              rotate_left 1
              · (intro w hS; clear hS; go_simp; try (with_reducible rfl))
              refine wpAnyE_take (i := 20) (v := ?_) rfl (by kernel_rfl) (by kernel_rfl) (by kernel_rfl) (by kernel_rfl) (fun _ _ _ h => h) (Or.inl ⟨by kernel_rfl, ?_⟩) G2 ?_
              rotate_left 1
              · (intro w hS; clear hS; go_simp; try (with_reducible rfl))
              refine wpAnyE_take (i := 21) (v := ?_) rfl (by kernel_rfl) (by kernel_rfl) (by kernel_rfl) (by kernel_rfl) (fun _ _ _ h => h) (Or.inl ⟨by kernel_rfl, ?_⟩) G2 ?_
              rotate_left 1
              · (intro w hS; clear hS; go_simp; try (with_reducible rfl))
              refine wpAnyE_take (i := 22) (v := ?_) rfl (by kernel_rfl) (by kernel_rfl) (by kernel_rfl) (by kernel_rfl) (fun _ _ _ h => h) (Or.inl ⟨by kernel_rfl, ?_⟩) G2 ?_
              rotate_left 1
              · (intro w hS; clear hS; go_simp; try (with_reducible rfl))
              refine wpAnyE_take (i := 23) (v := undef) rfl (by kernel_rfl) (by kernel_rfl) (by kernel_rfl) (by kernel_rfl) (fun _ _ _ h => h) (Or.inr ⟨by kernel_rfl, rfl⟩) G2 ?_
              refine wpAnyE_take (i := 24) (v := undef) rfl (by kernel_rfl) (by kernel_rfl) (by kernel_rfl) (by kernel_rfl) (fun _ _ _ h => h) (Or.inr ⟨by kernel_rfl, rfl⟩) G2 ?_
              refine wpAnyE_take (i := 25) (v := undef) rfl (by kernel_rfl) (by kernel_rfl) (by kernel_rfl) (by kernel_rfl) (fun _ _ _ h => h) (Or.inr ⟨by kernel_rfl, rfl⟩) G2 ?_
              refine wpAnyE_take (i := 26) (v := undef) rfl (by kernel_rfl) (by kernel_rfl) (by kernel_rfl) (by kernel_rfl) (fun _ _ _ h => h) (Or.inr ⟨by kernel_rfl, rfl⟩) G2 ?_
              refine wpAnyE_take (i := 27) (v := undef) rfl (by kernel_rfl) (by kernel_rfl) (by kernel_rfl) (by kernel_rfl) (fun _ _ _ h => h) (Or.inr ⟨by kernel_rfl, rfl⟩) G2 ?_
              refine wpAnyE_take (i := 28) (v := undef) rfl (by kernel_rfl) (by kernel_rfl) (by kernel_rfl) (by kernel_rfl) (fun _ _ _ h => h) (Or.inr ⟨by kernel_rfl, rfl⟩) G2 ?_
              refine wpAnyE_take (i := 29) (v := undef) rfl (by kernel_rfl) (by kernel_rfl) (by kernel_rfl) (by kernel_rfl) (fun _ _ _ h => h) (Or.inr ⟨by kernel_rfl, rfl⟩) G2 ?_
              refine wpAnyE_take (i := 30) (v := undef) rfl (by kernel_rfl) (by kernel_rfl) (by kernel_rfl) (by kernel_rfl) (fun _ _ _ h => h) (Or.inr ⟨by kernel_rfl, rfl⟩) G2 ?_
              refine wpAnyE_take (i := 31) (v := ?_) rfl (by kernel_rfl) (by kernel_rfl) (by kernel_rfl) (by kernel_rfl) (fun _ _ _ h => h) (Or.inl ⟨by kernel_rfl, ?_⟩) G2 ?_
              rotate_left 1
              · (intro w hS; clear hS; go_simp; try (with_reducible rfl))
              refine wpAnyE_take (i := 32) (v := ?_) rfl (by kernel_rfl) (by kernel_rfl) (by kernel_rfl) (by kernel_rfl) (fun _ _ _ h => h) (Or.inl ⟨by kernel_rfl, ?_⟩) G2 ?_
              rotate_left 1
              · (intro w hS; clear hS; go_simp; try (with_reducible rfl))
              refine wpAnyE_done (by kernel_rfl) ?_ _
              go_simp
              have BXg := Lib.hid G2.bx; have BTg := Lib.hid G2.bt
              have SL1 := Lib.hid (sv_len x P12.out.sf.l4); have SL2 := Lib.hid (sv_len xT S12.out.l4); have FO2 := Lib.hid (sv_one xT)
              have KZ : Kept (fun b => b = g) w8 (w8.setRow g (sv xT).toArray) := (Kept.refl (fun b => b = g) w8).setRowK (.inl rfl) _
              have PZ := Lib.hid (P12.out.put2 S12.out OD2.out.o KZ (BXg.out.setRow (sv xT)))
              have GZ := Lib.hid (G12.out.kept KZ HNE.out)
              clear G1 G2 KZ lx5 lT5
              go_wp2_with (first
                | ((with_reducible refine load_blk 32 (.tmp 12) g8 32 (sv xT) _ rfl rfl ?_ Tryd.underlying32 ?_ ?_ ?_ ?_); exact BTg.out; exact rfl; exact FX_xT.out; exact rfl)
                | ((with_reducible refine at_op (.store 32 (.tmp 5) (.tmp 127)) rfl ?_); go_must (refine store_blk 32 (.tmp 5) (.tmp 127) g 32 (sv x) (sv xT) rfl rfl BXg.out (SL1.out.trans SL2.out.symm) FX_xT.out FO2.out rfl rfl ?_)))
              exact ⟨⟨i + 1, xT, hasU has v true, L', hlt, by omega, by go_num, PZ.out, OD2.out, by (rw [has_same (by rw [hhv]; decide)]; exact GZ.out)⟩, by simp [intOf]; omega⟩
            | true =>
              obtain ⟨y, L', k1, k2, k3, k4, k5⟩ := cas_step OD.out (by omega) HV4.out true (F := gl [fN v, fAny]) (G := gl [fN v, fN i]) rfl rfl rfl rfl (kd := 7) rfl
              rw [hhv] at k2 k4 k5
              have K1 := Lib.hid k1; have K2 := Lib.hid k2; have K3 := Lib.hid k3; have K4 := Lib.hid k4; have K5 := Lib.hid k5
              clear k1 k2 k3 k4 k5
              have DA := Lib.hid (DoM x (i : Int) (rqC i 7 v h1 h2) V7 P7.out.w P7.out.op.may ⟨rw_two FA7.out, rw_two FB7.out, (by decide : (2 : Nat) ≤ 9223372036854775807), (by decide : (2 : Nat) ≤ 9223372036854775807)⟩ (by decide : (2 : Nat) ≤ 1000) (by decide : (2 : Nat) ≤ 1000) (HU.out.below P7.out.bel) _ rfl)
              have BX := Lib.hid P7.out.box; have FXU := Lib.hid (sv_size x P7.out.sf.l4); have SL1 := Lib.hid (sv_len x P7.out.sf.l4); have FQ := Lib.hid (rv_size (rqC i 7 v h1 h2))
              go_wp2_with (first
                | ((with_reducible refine load_blk 32 (.tmp 5) g 32 (sv x) _ rfl rfl ?_ Tryd.underlying32 ?_ ?_ ?_ ?_); exact BX.out; exact rfl; exact FXU.out; exact rfl)
                | ((with_reducible refine load_blk 38 (.tmp 11) gq 38 (rv (rqC i 7 v h1 h2)) _ rfl rfl ?_ Tryd.underlying38 ?_ ?_ ?_ ?_); exact Q7.out; exact rfl; exact FQ.out; exact rfl))
              refine DA.out.mono ?_
              rintro e w4 ⟨xT, R, q, c', rfl, p', r', s', w', m', ow, ft, -, b'⟩
              have OD2 := Lib.hid (show CasS (hasU has v true) (i + 1) xT.sp L' by rw [p']; exact K3.out)
              have KF := Lib.hid ((congrArg (fun s : Sp => fndI [fN v, fN i] s.its) p').trans K5.out)
              obtain ⟨y1, gl1, rfl, hy1, rfl, ro⟩ := rep_one ow (r'.trans K1.out)
              have RO1 := Lib.hid ro; have HY1 := Lib.hid hy1
              have S4 := Lib.hid s'; have B4 := Lib.hid b'; have G8 := Lib.hid (G7.out.below b' G7.out.lt)
              clear s' b' p' r' m' ow ft ro hy1 DA BX FQ K1 K3 K5 ct
              have FX_xT := Lib.hid (sv_size xT w'.l4); have FO_xT := Lib.hid (sv_one xT); have SL_xT := Lib.hid (sv_len xT w'.l4)
              have Z_xT := Lib.hid (Blk.new w4 32 [.int .i64 0, .slice none 0 0, .slice none 0 0, .int .i64 0, .int .i64 0, .int .i64 0, .int .i64 0, .int .i64 0, .slice none 0 0, .bool false, .int .i64 0, .int .i64 0, .int .i64 0, .slice none 0 0, .bool false, .int .i64 0, .int .i64 0, .int .i64 0, .slice none 0 0, .bool false, .int .i64 0, .int .i64 0, .int .i64 0, .slice none 0 0, .bool false])
              have KN_xT := Lib.hid (KSp.new (w1 := w4) (x := xT) w')
              go_upto_region 13 with ((with_reducible refine at_op (.store 32 (.tmp 12) (.tmp 63)) rfl ?_); go_must (refine store_blk 32 (.tmp 12) (.tmp 63) (w4).heap.size 32 _ (sv xT) rfl rfl Z_xT.out SL_xT.out.symm FX_xT.out FO_xT.out rfl rfl ?_))
              obtain ⟨V8, hV8⟩ : ∃ V, ((w4).alloc (.cells #[.int .i64 0, .slice none 0 0, .slice none 0 0, .int .i64 0, .int .i64 0, .int .i64 0, .int .i64 0, .int .i64 0, .slice none 0 0, .bool false, .int .i64 0, .int .i64 0, .int .i64 0, .slice none 0 0, .bool false, .int .i64 0, .int .i64 0, .int .i64 0, .slice none 0 0, .bool false, .int .i64 0, .int .i64 0, .int .i64 0, .slice none 0 0, .bool false] 32)).setRow (w4).heap.size (sv xT).toArray = V := ⟨_, rfl⟩
              rw [hV8] at KN_xT ⊢
              have K_xT := Lib.hid KN_xT.out.1
              have B_xT := Lib.hid KN_xT.out.2
              clear hV8 KN_xT Z_xT FO_xT SL_xT
              obtain ⟨g8, hg8⟩ : ∃ g, (w4).heap.size = g := ⟨_, rfl⟩
              rw [hg8] at K_xT ⊢
              clear hg8
              have S8 := Lib.hid (S4.out.below B_xT.out)
              have B8 := Lib.hid (B4.out.trans (B_xT.out.mono B4.out.size))
              have P8 := Lib.hid (P7.out.below B8.out)
              have G9 := Lib.hid (G8.out.below B_xT.out G8.out.lt)
              have RO2 := Lib.hid (RO1.out.below B_xT.out)
              have F8 := Lib.hid (FB7.out.below B8.out FB7.out.lt)
              clear S4 B4 G8 B_xT RO1 w'
              have ct := HCT.out V8 P8.out.bel
              have ch := (G9.out.cell v).trans (has_get (has := has) HV4.out)
              rw [hhv] at ch
              go_upto_region 14 with (fail)
              go_quiet (fail)
              obtain ⟨U, hU⟩ : ∃ U, V8.drewN nq = U := ⟨_, rfl⟩
              have BU : Below V8.heap.size V8 U := by rw [← hU]; exact below_drewN' (Below.refl _ _) nq
              rw [hU]
              have P9 := Lib.hid (P8.out.below BU); have S9 := Lib.hid (S8.out.below BU); have G10 := Lib.hid (G9.out.below BU G9.out.lt); have F9 := Lib.hid (F8.out.below BU F8.out.lt)
              have K9 := Lib.hid (K_xT.out.below BU); have RO3 := Lib.hid (RO2.out.below BU); have B9 := Lib.hid (B8.out.trans (BU.mono B8.out.size))
              clear hU BU ct ch P8 S8 G9 F8 K_xT RO2 B8
              have ct := HCT.out U P9.out.bel
              have cr := RO3.out.cells.2.2.1
              rw [HY1.out, K2.out] at cr
              change _ = some (Value.int .i64 2) at cr
              go_upto_region 20 with (fail)
              clear ct cr
              have S10 := Lib.hid (S9.out.low P7.out.bel.size)
              have BT9 := Lib.hid K9.out.box
              have lx5 : ((x.its.length : Nat) : Int) ≤ 4 := by have := OD.out.len; have e : x.its.length = x.sp.its.length := its_len rfl; omega
              have lT5 : ((xT.its.length : Nat) : Int) ≤ 4 := by have := OD2.out.len; have e : xT.its.length = xT.sp.its.length := its_len rfl; omega
              have lxL : x.its.length = LL.length := by rw [its_len (x := x) rfl, OD.out.its, List.length_map]
              have lTL : xT.its.length = L'.length := by rw [its_len (x := xT) rfl, OD2.out.its, List.length_map]
              clear RO3 B9 S9 HY1 K2 HCT P7 G7 Q7 FA7 FB7
              have e8 : ((xT.its.length : Int) != IntKind.i64.wrap ((x.its.length : Int) )) = false := by
                have k4 : L'.length = LL.length + 0 := K4.out
                rw [IntWalk.i64_in _ (by omega), bne_eq_false_iff_eq]; omega
              have e9 : ((xT.its.length : Int) - 1 != IntKind.i64.wrap ((xT.its.length : Int) - 1)) = false := by
                rw [IntWalk.i64_in _ (by omega), bne_eq_false_iff_eq]
              have KF2 := Lib.hid (show fndI [fN v, fN i] xT.sp.its = (xT.its.length : Int) - 1 from by
                have h : fndI [fN v, fN i] xT.sp.its = (L'.length : Int) - 1 := KF.out
                rw [h, lTL])
              clear lxL lTL
              go_upto_region 24 with (fail)
              obtain ⟨U3, hU⟩ : ∃ V, (U).drew = V := ⟨_, rfl⟩
              have BU := Lib.hid (show Below (U).heap.size (U) U3 from by rw [← hU]; exact (Below.refl _ _).drew)
              have P11 := Lib.hid (P9.out.below BU.out); have S11 := Lib.hid (S10.out.below BU.out); have G11 := Lib.hid (G10.out.below BU.out G10.out.lt); have F11 := Lib.hid (F9.out.below BU.out F9.out.lt)
              have G1 : CC U3 g g8 x xT := ⟨P11.out.box, BT9.out.below BU.out BT9.out.lt⟩
              have FD := Lib.hid (Find_t xT (some ⟨h2, 0, none⟩) 2 2 (gl [fN v, fN i]) U3 (by decide) (rw_two F11.out) (S11.out.w OD2.out.o.may.small))
              rw [show fl 2 (gl [fN v, fN i]) = [fN v, fN i] from rfl, KF2.out] at FD
              clear BU
              refine wp_region_E (fun Y => CC Y g g8 x xT) (fun _ => false) (by kernel_rfl) ?_
              change wpAnyE _ _ _ _ _ _ _ _ _ (U).drew
              rw [hU]
              clear hU
              refine wpAnyE_take (i := 0) (v := ?_) rfl (by kernel_rfl) (by kernel_rfl) (by kernel_rfl) (by kernel_rfl) (fun _ _ _ h => h) (Or.inl ⟨by kernel_rfl, ?_⟩) G1 ?_
              rotate_left 1
              · (intro w hS; clear hS; go_simp; try (with_reducible rfl))
              refine wpAnyE_take (i := 1) (v := ?_) rfl (by kernel_rfl) (by kernel_rfl) (by kernel_rfl) (by kernel_rfl) (fun _ _ _ h => h) (Or.inl ⟨by kernel_rfl, ?_⟩) G1 ?_
              rotate_left 1
              · (intro w hS; have hs := (sv_cells hS.bt).2.1; clear hS; go_simp; try (with_reducible rfl))
              refine wpAnyE_take (i := 2) (v := ?_) rfl (by kernel_rfl) (by kernel_rfl) (by kernel_rfl) (by kernel_rfl) (fun _ _ _ h => h) (Or.inl ⟨by kernel_rfl, ?_⟩) G1 ?_
              rotate_left 1
              · (intro w hS; clear hS; go_simp; try (with_reducible rfl))
              refine wpAnyE_take (i := 3) (v := ?_) rfl (by kernel_rfl) (by kernel_rfl) (by kernel_rfl) (by kernel_rfl) (fun _ _ _ h => h) (Or.inl ⟨by kernel_rfl, ?_⟩) G1 ?_
              rotate_left 1
              · (intro w hS; clear hS; go_simp; try (with_reducible rfl))
              refine wpAnyE_take (i := 4) (v := ?_) rfl (by kernel_rfl) (by kernel_rfl) (by kernel_rfl) (by kernel_rfl) (fun _ _ _ h => h) (Or.inl ⟨by kernel_rfl, ?_⟩) G1 ?_
              rotate_left 1
              · (intro w hS; have hs := (sv_cells hS.bx).2.1; clear hS; go_simp; try (with_reducible rfl))
              refine wpAnyE_take (i := 5) (v := ?_) rfl (by kernel_rfl) (by kernel_rfl) (by kernel_rfl) (by kernel_rfl) (fun _ _ _ h => h) (Or.inl ⟨by kernel_rfl, ?_⟩) G1 ?_
              rotate_left 1
              · (intro w hS; clear hS; go_simp; try (with_reducible rfl))
              refine wpAnyE_take (i := 6) (v := ?_) rfl (by kernel_rfl) (by kernel_rfl) (by kernel_rfl) (by kernel_rfl) (fun _ _ _ h => h) (Or.inl ⟨by kernel_rfl, ?_⟩) G1 ?_
              rotate_left 1
              · (intro w hS; clear hS; go_simp; try (with_reducible rfl))
              refine wpAnyE_take (i := 7) (v := ?_) rfl (by kernel_rfl) (by kernel_rfl) (by kernel_rfl) (by kernel_rfl) (fun _ _ _ h => h) (Or.inl ⟨by kernel_rfl, ?_⟩) G1 ?_
              rotate_left 1
              · (intro w hS; clear hS; go_simp; try (with_reducible rfl))
              refine wpAnyE_take (i := 8) (v := ?_) rfl (by kernel_rfl) (by kernel_rfl) (by kernel_rfl) (by kernel_rfl) (fun _ _ _ h => h) (Or.inl ⟨by kernel_rfl, ?_⟩) G1 ?_
              rotate_left 1
              · (intro w hS; clear hS; go_simp; try (with_reducible rfl))
              refine wpAnyE_take (i := 9) (v := ?_) rfl (by kernel_rfl) (by kernel_rfl) (by kernel_rfl) (by kernel_rfl) (fun _ _ _ h => h) (Or.inl ⟨by kernel_rfl, ?_⟩) G1 ?_
              rotate_left 1
              · (intro w hS; clear hS; go_simp; try (with_reducible rfl))
              refine wpAnyE_take (i := 10) (v := ?_) rfl (by kernel_rfl) (by kernel_rfl) (by kernel_rfl) (by kernel_rfl) (fun _ _ _ h => h) (Or.inl ⟨by kernel_rfl, ?_⟩) G1 ?_
              rotate_left 1
              · (intro w hS; clear hS; go_simp; try (with_reducible rfl))
              refine wpAnyE_take (i := 11) (v := ?_) rfl (by kernel_rfl) (by kernel_rfl) (by kernel_rfl) (by kernel_rfl) (fun _ _ _ h => h) (Or.inl ⟨by kernel_rfl, ?_⟩) G1 ?_
              rotate_left 1
              · (intro w hS; clear hS; go_simp; try (with_reducible rfl))
              refine wpAnyE_take (i := 12) (v := ?_) rfl (by kernel_rfl) (by kernel_rfl) (by kernel_rfl) (by kernel_rfl) (fun _ _ _ h => h) (Or.inl ⟨by kernel_rfl, ?_⟩) G1 ?_
              rotate_left 1
              · (intro w hS; clear hS; go_simp; try (with_reducible rfl))
              refine wpAnyE_take (i := 13) (v := undef) rfl (by kernel_rfl) (by kernel_rfl) (by kernel_rfl) (by kernel_rfl) (fun _ _ _ h => h) (Or.inr ⟨by kernel_rfl, rfl⟩) G1 ?_
              refine wpAnyE_take (i := 14) (v := undef) rfl (by kernel_rfl) (by kernel_rfl) (by kernel_rfl) (by kernel_rfl) (fun _ _ _ h => h) (Or.inr ⟨by kernel_rfl, rfl⟩) G1 ?_
              refine wpAnyE_take (i := 15) (v := undef) rfl (by kernel_rfl) (by kernel_rfl) (by kernel_rfl) (by kernel_rfl) (fun _ _ _ h => h) (Or.inr ⟨by kernel_rfl, rfl⟩) G1 ?_
              refine wpAnyE_take (i := 16) (v := undef) rfl (by kernel_rfl) (by kernel_rfl) (by kernel_rfl) (by kernel_rfl) (fun _ _ _ h => h) (Or.inr ⟨by kernel_rfl, rfl⟩) G1 ?_
              refine wpAnyE_take (i := 17) (v := ?_) rfl (by kernel_rfl) (by kernel_rfl) (by kernel_rfl) (by kernel_rfl) (fun _ _ _ h => h) (Or.inl ⟨by kernel_rfl, ?_⟩) G1 ?_
              rotate_left 1
              · (intro w hS; clear hS; go_simp; try (with_reducible rfl))
              refine wpAnyE_take (i := 18) (v := ?_) rfl (by kernel_rfl) (by kernel_rfl) (by kernel_rfl) (by kernel_rfl) (fun _ _ _ h => h) (Or.inl ⟨by kernel_rfl, ?_⟩) G1 ?_
              rotate_left 1
              · (intro w hS; clear hS; go_simp; try (with_reducible rfl))
              refine wpAnyE_take (i := 19) (v := ?_) rfl (by kernel_rfl) (by kernel_rfl) (by kernel_rfl) (by kernel_rfl) (fun _ _ _ h => h) (Or.inl ⟨by kernel_rfl, ?_⟩) G1 ?_
              rotate_left 1
              · (intro w hS; clear hS; go_simp; try (with_reducible rfl))
              refine wpAnyE_take (i := 20) (v := ?_) rfl (by kernel_rfl) (by kernel_rfl) (by kernel_rfl) (by kernel_rfl) (fun _ _ _ h => h) (Or.inl ⟨by kernel_rfl, ?_⟩) G1 ?_
              rotate_left 1
              · (intro w hS; clear hS; go_simp; try (with_reducible rfl))
              refine wpAnyE_take (i := 21) (v := ?_) rfl (by kernel_rfl) (by kernel_rfl) (by kernel_rfl) (by kernel_rfl) (fun _ _ _ h => h) (Or.inl ⟨by kernel_rfl, ?_⟩) G1 ?_
              rotate_left 1
              · (intro w hS; clear hS; go_simp; try (with_reducible rfl))
              refine wpAnyE_take (i := 22) (v := ?_) rfl (by kernel_rfl) (by kernel_rfl) (by kernel_rfl) (by kernel_rfl) (fun _ _ _ h => h) (Or.inl ⟨by kernel_rfl, ?_⟩) G1 ?_
              rotate_left 1
              · (intro w hS; clear hS; go_simp; try (with_reducible rfl))
              refine wpAnyE_take (i := 23) (v := .agg (sv xT).toArray) rfl (by kernel_rfl) (by kernel_rfl) (by kernel_rfl) (by kernel_rfl) (fun _ _ _ h => h) (yieldsIf_load_mid (by kernel_rfl) 32 (.tmp 12) rfl g8 0 (by go_simp) (sv xT) _ (fun _ h => rows_of_blk h.bt) Tryd.underlying32 rfl (FX_xT.out)) G1 ?_
              refine wpAnyE_take (i := 24) (v := ?_) rfl (by kernel_rfl) (by kernel_rfl) (by kernel_rfl) (by kernel_rfl) (fun _ _ _ h => h) (Or.inl ⟨by kernel_rfl, ?_⟩) G1 ?_
              rotate_left 1
              · (intro w hS; clear hS; go_simp; try (with_reducible rfl))
              refine wpAnyE_take (i := 26) (v := ?_) rfl (by kernel_rfl) (by kernel_rfl) (by kernel_rfl) (by kernel_rfl) (fun _ _ _ h => h) (Or.inl ⟨by kernel_rfl, ?_⟩) G1 ?_
              rotate_left 1
              · (intro w hS; clear hS; go_simp; try (with_reducible rfl))
              refine wpAnyE_take (i := 27) (v := ?_) rfl (by kernel_rfl) (by kernel_rfl) (by kernel_rfl) (by kernel_rfl) (fun _ _ _ h => h) (Or.inl ⟨by kernel_rfl, ?_⟩) G1 ?_
              rotate_left 1
              · (intro w hS; have hs := (sv_cells hS.bt).2.1; clear hS; go_simp; try (with_reducible rfl))
              refine wpAnyE_take (i := 28) (v := ?_) rfl (by kernel_rfl) (by kernel_rfl) (by kernel_rfl) (by kernel_rfl) (fun _ _ _ h => h) (Or.inl ⟨by kernel_rfl, ?_⟩) G1 ?_
              rotate_left 1
              · (intro w hS; clear hS; go_simp; try (with_reducible rfl))
              refine wpAnyE_take (i := 29) (v := ?_) rfl (by kernel_rfl) (by kernel_rfl) (by kernel_rfl) (by kernel_rfl) (fun _ _ _ h => h) (Or.inl ⟨by kernel_rfl, ?_⟩) G1 ?_
              rotate_left 1
              · (intro w hS; clear hS; go_simp; try (with_reducible rfl))
              refine wpAnyE_one (i := 25) (by kernel_rfl) rfl (by kernel_rfl) (fun K hK => ?_)
              go_simp
              refine FD.out.mono ?_
              rintro e w8 ⟨rfl, b8⟩
              have P12 := Lib.hid (P11.out.below b8); have S12 := Lib.hid (S11.out.below b8); have G12 := Lib.hid (G11.out.below b8 G11.out.lt)
              have G2 : CC w8 g g8 x xT := G1.below b8
              refine hK.out _ _ (.inr G2) ?_
              clear hK K b8 FD P11 S11 G11 F11
              refine wpAnyE_take (i := 30) (v := ?_) rfl (by kernel_rfl) (by kernel_rfl) (by kernel_rfl) (by kernel_rfl) (fun _ _ _ h => h) (Or.inl ⟨by kernel_rfl, ?_⟩) G2 ?_
              rotate_left 1
              · (intro w hS; clear hS; go_simp; try (with_reducible rfl))
              refine wpAnyE_take (i := 31) (v := ?_) rfl (by kernel_rfl) (by kernel_rfl) (by kernel_rfl) (by kernel_rfl) (fun _ _ _ h => h) (Or.inl ⟨by kernel_rfl, ?_⟩) G2 ?_
              rotate_left 1
              · (intro w hS; clear hS; go_simp; try (with_reducible rfl))
              refine wpAnyE_take (i := 32) (v := ?_) rfl (by kernel_rfl) (by kernel_rfl) (by kernel_rfl) (by kernel_rfl) (fun _ _ _ h => h) (Or.inl ⟨by kernel_rfl, ?_⟩) G2 ?_
              rotate_left 1
              · (intro w hS; clear hS; go_simp; try (with_reducible rfl))
              refine wpAnyE_done (by kernel_rfl) ?_ _
              go_simp
              have BXg := Lib.hid G2.bx; have BTg := Lib.hid G2.bt
              have SL1 := Lib.hid (sv_len x P12.out.sf.l4); have SL2 := Lib.hid (sv_len xT S12.out.l4); have FO2 := Lib.hid (sv_one xT)
              have KZ : Kept (fun b => b = g) w8 (w8.setRow g (sv xT).toArray) := (Kept.refl (fun b => b = g) w8).setRowK (.inl rfl) _
              have PZ := Lib.hid (P12.out.put2 S12.out OD2.out.o KZ (BXg.out.setRow (sv xT)))
              have GZ := Lib.hid (G12.out.kept KZ HNE.out)
              clear G1 G2 KZ lx5 lT5
              go_wp2_with (first
                | ((with_reducible refine load_blk 32 (.tmp 12) g8 32 (sv xT) _ rfl rfl ?_ Tryd.underlying32 ?_ ?_ ?_ ?_); exact BTg.out; exact rfl; exact FX_xT.out; exact rfl)
                | ((with_reducible refine at_op (.store 32 (.tmp 5) (.tmp 127)) rfl ?_); go_must (refine store_blk 32 (.tmp 5) (.tmp 127) g 32 (sv x) (sv xT) rfl rfl BXg.out (SL1.out.trans SL2.out.symm) FX_xT.out FO2.out rfl rfl ?_)))
              exact ⟨⟨i + 1, xT, hasU has v true, L', hlt, by omega, by go_num, PZ.out, OD2.out, by (rw [has_same (by rw [hhv]; decide)]; exact GZ.out)⟩, by simp [intOf]; omega⟩
        · have i1 : (i : Int) < (n : Int) := by omega
          have hmf : decide ((i : Int) < (m : Int)) = false := decide_eq_false (by omega)
          have hmi : (m : Int) ≤ (i : Int) := by omega
          have hmn : m ≤ i := by omega
          clear hlm
          have TD := Lib.hid (tolds_t wr (HU.out.below PX.out.bel))
          go_wp2_with fail
          refine TD.out.mono ?_
          rintro e w4 ⟨rfl, b4⟩
          go_wp2_with fail
          go_ret
          exact ⟨rfl, PX.out.bel.trans (b4.mono PX.out.bel.size)⟩
      · have hmf : decide ((i : Int) < 20) = false := decide_eq_false h20
        have i1 : (i : Int) < (n : Int) := by omega
        have i2 : (20 : Int) ≤ (i : Int) := by omega
        clear h20
        have TD := Lib.hid (tolds_t wr (HU.out.below PX.out.bel))
        go_wp2_with fail
        refine TD.out.mono ?_
        rintro e w4 ⟨rfl, b4⟩
        go_wp2_with fail
        go_ret
        exact ⟨rfl, PX.out.bel.trans (b4.mono PX.out.bel.size)⟩
    · obtain rfl : i = n := by omega
      clear hlt
      have TD := Lib.hid (tolds_t wr (HU.out.below PX.out.bel))
      go_wp2_with fail
      refine TD.out.mono ?_
      rintro e w4 ⟨rfl, b4⟩
      go_wp2_with fail
      go_ret
      exact ⟨rfl, PX.out.bel.trans (b4.mono PX.out.bel.size)⟩
end Go.Proofs.YtfcmhpgopihidaaDoor
