/-
  SpaceOwn walked.
-/
import Derived.Test.YtlamfdeepofenaaDoorSpOldest
namespace Go.Proofs.YtlamfdeepofenaaDoor
open Go Go.RowKit Sh

def tl (L : Nat → Int) (n : Nat) : List Fld := (List.range n).map (fun j => fN (L j))
theorem tl_len (L : Nat → Int) (n : Nat) : (tl L n).length = n := by simp [tl]
theorem tl_succ (L : Nat → Int) (n : Nat) : tl L (n + 1) = tl L n ++ [fN (L n)] := by simp [tl, List.range_succ]
theorem tl_get {L : Nat → Int} {n j : Nat} (h : j < n) : gl (tl L n) j = fN (L j) := gl_get (by simp [tl, List.getElem?_range h])
theorem tl_V {L : Nat → Int} {n : Nat} (h1 : 1 ≤ n) (h6 : n ≤ 6) : mayV n (gl (tl L n)) = true := by
  unfold mayV
  rw [Bool.and_eq_true, allN_iff]
  exact ⟨by simp [fewN, h1, h6], fun j hj => by rw [tl_get hj]; exact okN _⟩
theorem fl_tl (L : Nat → Int) (n : Nat) : fl n (gl (tl L n)) = tl L n := by
  have := fl_gl (tl L n)
  rwa [tl_len] at this
theorem own_rw {W : World} {B n c : Nat} {p : Option Addr} {l : List Fld} (h : W.ownsRow B 25 3 (.slice p n c) n (l.flatMap fv)) (hl : l.length = n) : Rw W p n (gl l) := by
  subst hl
  exact rw_row.2 (RowL.of_own fv_len rfl h)
theorem SF.keptLow {B : Nat} {W W' : World} {x : Spv} {F : Nat → Prop} (h : SF B W x) (hk : Kept F W W') (hf : ∀ k, F k → k < B) : SF B W' x := by
  have f : ∀ {e : TypeId} {sz n : Nat} {v : Value} {xs : List Value}, W.ownsRow B e sz v n xs → W'.ownsRow B e sz v n xs := fun ho => own_kept ho hk (fun k hk' hF => by have := (ho.lt k hk').1; have := hf k hF; omega)
  exact ⟨f h.its, fun y hy => f (h.it y hy), f h.wts, fun y hy => f (h.wt y hy), h.l4, fun y hy => f (h.la y hy)⟩
theorem SF.keptHigh {B : Nat} {W W' : World} {x : Spv} {F : Nat → Prop} (h : SF B W x) (hk : Kept F W W') (hf : ∀ k, F k → W.heap.size ≤ k) : SF B W' x := by
  have f : ∀ {e : TypeId} {sz n : Nat} {v : Value} {xs : List Value}, W.ownsRow B e sz v n xs → W'.ownsRow B e sz v n xs := fun ho => own_kept ho hk (fun k hk' hF => by have := (ho.lt k hk').2; have := hf k hF; omega)
  exact ⟨f h.its, fun y hy => f (h.it y hy), f h.wts, fun y hy => f (h.wt y hy), h.l4, fun y hy => f (h.la y hy)⟩
theorem tl_nums (L : Nat → Int) (n : Nat) (sp : List Value) : ∀ k, k < n → ∃ v, ((tl L n).flatMap fv ++ sp)[k * 3 + 1]? = some (.int .i64 v) := fun k hk => by
  refine ⟨L k, ?_⟩
  rw [List.getElem?_append_left (by rw [flat_length fv_len, tl_len]; omega), flat_get fv_len (tl L n) k 1 (fN (L k)) (by simp [tl, List.getElem?_range hk]) (by decide)]
  rfl
theorem nums_set {cs : List Value} {n j : Nat} {u : Int} (h : ∀ k, k < n → ∃ v, cs[k * 3 + 1]? = some (.int .i64 v)) : ∀ k, k < n → ∃ v, (cs.set (j * 3 + 1) (.int .i64 u))[k * 3 + 1]? = some (.int .i64 v) := fun k hk => by
  obtain ⟨v, hv⟩ := h k hk
  by_cases e : k = j
  · subst e
    exact ⟨u, List.getElem?_set_self (List.getElem?_eq_some_iff.1 hv).1⟩
  · exact ⟨v, by rw [List.getElem?_set_ne (by omega)]; exact hv⟩
/-- The items of a space can be read. -/
structure ItW (w : World) (x : Spv) : Prop where
  its : RowL w x.ip 3 iv x.its
  it : ∀ y ∈ x.its, TR w y.p y.i.t
  n : x.its.length ≤ 9223372036854775807
theorem ItW.below {w w' : World} {x : Spv} (h : ItW w x) (hb : Below w.heap.size w w') : ItW w' x := ⟨h.its.below hb, fun y hy => (h.it y hy).below hb, h.n⟩
theorem ItW.of {B B2 : Nat} {W W' : World} {x : Spv} {y : Rpv} {g : Nat} (h : SF B W x) (hy : FT W B2 y.p y.c y.r.t) (ha : AP y x) (hg : y.p = some ⟨g, 0, none⟩) (hk : Kept (fun k => k = g) W W') (hs : Small x.sp) : ItW W' x := by
  have hn : x.its.length ≤ 1000 := by have := hs.n; have e : x.sp.its.length = x.its.length := List.length_map _; omega
  have hob : Value.ownBlock (.slice y.p y.r.t.length y.c) = some g := by rw [hg]; rfl
  have hi : W'.ownsRow B 64 3 (.slice x.ip x.its.length x.ic) x.its.length (x.its.flatMap iv) := own_kept h.its hk (fun k hk' e => own_two hy h.its (by decide) hob (by rw [hk', e]))
  refine ⟨RowL.of_own iv_len rfl hi, fun z hz => ?_, by omega⟩
  have hz' : FT W' B z.p z.c z.i.t := own_kept (h.it z hz) hk (fun k hk' e => ha z hz k ⟨⟨g, 0, none⟩, hg, e.symm⟩ (ob_own' hk'))
  exact FT.tr hz' (by have := hs.it z.i (List.mem_map_of_mem hz); omega)
theorem FindI_t (x : Spv) (pp : Option Addr) (m c : Nat) (G : Nat → Fld) (w : World) (hm : m ≤ 9223372036854775807) (hr : Rw w pp m G) (hx : ItW w x) :
    Calls Tryd.prog 12 #[.agg (sv x).toArray, .slice pp m c] w fun e w' => e = .returned (.int .i64 (fndI (fl m G) x.sp.its)) ∧ Below w.heap.size w w' := by
  have b1 := (Below.refl w.heap.size w).alloc (Nat.le_refl _) (.cells (sv x).toArray 33)
  have BW := Lib.hid (b1.alloc (by simp) (.cells #[.slice pp m c] 23))
  have S0 := Lib.hid ((Blk.new w 33 (sv x)).alloc (.cells #[.slice pp m c] 23))
  have P0 := Lib.hid (Blk.new2 w (.cells (sv x).toArray 33) 23 [.slice pp m c])
  have c1 := (sv_cells S0.out).2.1
  have IX := Lib.hid (indexI_t 30 #[.pointer (some ⟨w.heap.size + 1, 0, none⟩)] (fun y => mT (fl m G) y.i.t) x.its x.its.length x.ic x.ip _ rfl hx.n (hx.below BW.out).its (enters_of Tryd.func30 (by kernel_rfl) rfl)
    (fun y W hy hb => Find1_t (w.heap.size + 1) pp m c G y W hm ((hr.below BW.out).below hb) (((hx.below BW.out).it y hy).below hb) ((hb.cell (p := ⟨w.heap.size + 1, 0, none⟩) P0.out.lt).trans (P0.out.cell 0)) (Nat.lt_of_lt_of_le P0.out.lt hb.size)))
  rw [ix_i] at IX
  show Calls _ _ _ _ fun e w' => e = .returned (.int .i64 (fndI (fl m G) (x.its.map (·.i)))) ∧ _
  obtain ⟨r, hr⟩ : ∃ r, fndI (fl m G) (x.its.map (·.i)) = r := ⟨_, rfl⟩
  rw [hr] at IX ⊢
  obtain ⟨xs, hxs⟩ : ∃ l, sv x = l := ⟨_, rfl⟩
  rw [hxs] at S0 P0 BW IX c1 b1 ⊢
  obtain ⟨n, hn⟩ : ∃ n, x.its.length = n := ⟨_, rfl⟩
  obtain ⟨ip, hip⟩ : ∃ n, x.ip = n := ⟨_, rfl⟩
  obtain ⟨ic, hic⟩ : ∃ n, x.ic = n := ⟨_, rfl⟩
  rw [hn, hip, hic] at IX c1
  clear b1 hx hr hxs hn hip hic S0 P0
  go_enter Tryd.func12, Tryd.ntmps12
  go_wp2_with fail
  refine IX.out.mono ?_
  rintro e w2 ⟨rfl, b2⟩
  go_wp2_with fail
  go_ret
  exact ⟨rfl, BW.out.trans (b2.mono BW.out.size)⟩
set_option maxRecDepth 100000 in
set_option maxHeartbeats 8000000 in
theorem sown_t (A : Option Addr) (n c : Nat) (L : Nat → Int) (w : World) (_ : n ≤ 9223372036854775807) (hA : NsW w A n L) (hu : UT w) :
    Calls Tryd.prog 3 #[.slice A n c] w fun e w' => e = .returned (.bool true) ∧ Below w.heap.size w w' := by
  have HA := Lib.hid hA; have HU := Lib.hid hu
  clear hA hu
  go_enter Tryd.func3, Tryd.ntmps3
  go_upto_region 3 with (fail)
  go_loopw [3, 4] (fun s t wr => ∃ i : Nat, i ≤ n ∧ i ≤ 6 ∧ t = .int .i64 (i : Int) ∧ wr.ownsRow w.heap.size 25 3 s i ((tl L i).flatMap fv) ∧ Below w.heap.size w wr) (fun _ t _ => n - (intOf t).toNat)
  case atStart => exact ⟨0, Nat.zero_le _, Nat.zero_le _, rfl, World.ownsRow_nil _ _ _ _, Below.refl _ _⟩
  case round =>
    obtain ⟨i, hi, hi6, rfl, ow, bw⟩ := hrel
    have OW := Lib.hid ow; have BW := Lib.hid bw
    clear ow bw
    by_cases hx : i < n ∧ i < 6
    · obtain ⟨hlt, h6⟩ := hx
      obtain ⟨b, o, rfl, _, ca⟩ := HA.out.at BW.out hlt
      have i1 : (i : Int) < (n : Int) := by omega
      have i6 : (i : Int) < 6 := by omega
      have BA := Lib.hid ((Below.refl wr.heap.size wr).alloc (Nat.le_refl _) (.cells (fv (fN (L i))).toArray 25))
      have O2 := Lib.hid (own_below OW.out BA.out)
      have R1 := Lib.hid (row_one fv 3 (fN (L i)) wr 25)
      have HB := Lib.hid (show w.heap.size ≤ (wr.alloc (.cells (fv (fN (L i))).toArray 25)).heap.size from Nat.le_trans BW.out.size BA.out.size)
      have LL := Lib.hid (show i + 1 ≤ 1000000 from by omega)
      go_wp2_with ((with_reducible refine at_op (.call { callee := .builtin .append, args := #[.tmp 22, .tmp 28], argTypes := #[23, 23] }) rfl ?_); go_must (refine append_rows (.tmp 22) (.tmp 28) 23 rfl rfl 25 Tryd.underlying23 infoF rfl (by decide) (by decide) fv_len fv_each w.heap.size u3 i ((tl L i).flatMap fv) rfl O2.out (some ⟨wr.heap.size, 0, none⟩) 1 1 rfl [fN (L i)] rfl R1.out LL.out HB.out ?_); intro v1 w5 h2 h3 h5 h6)
      have O3 := Lib.hid (show w5.ownsRow w.heap.size 25 3 v1 (i + 1) ((tl L (i + 1)).flatMap fv) from by rw [tl_succ, List.flatMap_append]; exact h2.out)
      have B3 := Lib.hid ((BW.out.trans (BA.out.mono BW.out.size)).grown h3.out (Nat.le_trans BW.out.size BA.out.size) (fun k e => (O2.out.lt k e).1))
      clear h2 h3 h5 h6
      go_roundw
      case rel => exact ⟨i + 1, hlt, by omega, by go_num, O3.out, B3.out⟩
      case measure => simp [intOf]; omega
    · obtain ⟨q, d, hq, hd⟩ := own_form OW.out
      subst hq
      go_upto_region 3 with (fail)
      go_cut [19] (fun s wx => s = .bool false ∧ wx = wr)
      case first =>
        by_cases hlt : i < n
        · have i6 : decide ((i : Int) < 6) = false := decide_eq_false (fun h => hx ⟨hlt, by omega⟩)
          have j1 : (i : Int) < (n : Int) := by omega
          clear hx hlt
          go_wp2_with fail
          go_meet
          exact ⟨rfl, rfl⟩
        · obtain rfl : n = i := by omega
          clear hx hlt
          go_wp2_with fail
          go_meet
          exact ⟨rfl, rfl⟩
      case rest =>
        obtain ⟨rfl, hW⟩ := hcut
        subst hW
        clear hx hi HA
        by_cases h0 : i = 0
        · subst h0
          have TD := Lib.hid (tolds_t wc (HU.out.below BW.out))
          go_wp2_with fail
          refine TD.out.mono ?_
          rintro e w2 ⟨rfl, b2⟩
          go_wp2_with fail
          go_ret
          exact ⟨rfl, BW.out.trans (b2.mono BW.out.size)⟩
        · have h1 : 1 ≤ i := by omega
          have i0 : ((i : Int) == 0) = false := by rw [beq_eq_false_iff_ne]; omega
          obtain ⟨gt_, hgt⟩ : ∃ g, q = some ⟨g, 0, none⟩ := by
            obtain ⟨g, hg, _⟩ := own_block OW.out h1
            exact ⟨g, hg⟩
          subst hgt
          have HGT := Lib.hid (show gt_ < wc.heap.size by obtain ⟨g, hg, _, hl, _⟩ := own_block OW.out h1; injection hg with hg; injection hg with hg; rw [hg]; exact hl)
          have MV := Lib.hid (tl_V (L := L) h1 hi6)
          have RT := Lib.hid (own_rw OW.out (tl_len L i))
          go_upto_region 8 with (fail)
          clear i0 h0
          have TROW := Lib.hid (rw_row.1 (show Rw wc (some ⟨gt_, 0, none⟩) (tl L i).length (gl (tl L i)) by rw [tl_len]; exact RT.out))
          have BA := Lib.hid ((Below.refl wc.heap.size wc).alloc (Nat.le_refl _) (.cells #[] 25))
          have TR1 := Lib.hid (TROW.out.below BA.out)
          have EM := Lib.hid (own_empty0 wc 25 3 wc.heap.size (Nat.le_refl _))
          have TLL := Lib.hid (tl_len L i)
          have HI6 := Lib.hid (show 0 + i ≤ 1000000 by omega)
          have HB := Lib.hid BA.out.size
          go_upto_region 9 with ((with_reducible refine at_op (.call { callee := .builtin .append, args := #[.tmp 34, .tmp 35], argTypes := #[23, 23] }) rfl ?_); go_must (refine append_rows (.tmp 34) (.tmp 35) 23 rfl rfl 25 Tryd.underlying23 infoF rfl (by decide) (by decide) fv_len fv_each wc.heap.size (.slice (some ⟨wc.heap.size, 0, none⟩) 0 0) 0 [] rfl EM.out (some ⟨gt_, 0, none⟩) i d rfl (tl L i) TLL.out TR1.out HI6.out HB.out ?_); intro v1 w5 h2 h3 h5 h6)
          have OU := Lib.hid (show w5.ownsRow wc.heap.size 25 3 v1 i ((tl L i).flatMap fv) from by have := h2.out; rwa [Nat.zero_add, List.nil_append] at this)
          have B5 := Lib.hid (BA.out.grown h3.out BA.out.size (fun k e => (EM.out.lt k e).1))
          clear h2 h3 h5 h6 EM TR1 BA TROW HB HI6
          obtain ⟨gu, spu, hv1⟩ : ∃ g c, v1 = .slice (some ⟨g, 0, none⟩) i c := by
            obtain ⟨q, c, hv, _⟩ := own_form OU.out
            subst hv
            obtain ⟨g, hg, _⟩ := own_block OU.out h1
            exact ⟨g, c, by rw [hg]⟩
          subst hv1
          have BT0 := built_out0 1 (some ⟨gu, 0, none⟩) i spu z0 (gl (tl L i))
          have BT1 := built_look0 2 2 (some ⟨gt_, 0, none⟩) i d z0 (gl (tl L i))
          have HGU := Lib.hid (OU.out.lt gu rfl)
          have B6 := Lib.hid (BW.out.trans (B5.out.mono BW.out.size))
          have OT := Lib.hid (own_below OW.out B5.out)
          have I6 := Lib.hid (And.intro h1 hi6)
          have HWC := Lib.hid BW.out.size
          clear OW B5 RT BW
          go_wp2_with fail
          refine (New_t 15 15 w5).mono ?_
          rintro e w6 ⟨rfl, b6⟩
          obtain ⟨x0, hx0, hw0, P0⟩ := new_sp w6
          rw [hx0]
          have W0 := Lib.hid hw0
          have B7 := Lib.hid (B6.out.trans (b6.mono B6.out.size))
          have OU2 := Lib.hid (own_below OU.out b6); have OT2 := Lib.hid (own_below OT.out b6)
          have HG6 := Lib.hid (show gu < w6.heap.size from Nat.lt_of_lt_of_le HGU.out.2 b6.size)
          have DA := Lib.hid (DoM x0 1 ⟨⟨0, 1, 1, 0, 0, z0, i, gl (tl L i)⟩, none, 0, some ⟨gu, 0, none⟩, spu⟩ w6 W0.out (by rw [P0]; exact Op15.new.may) ⟨none_rw _ _ _, own_rw OU2.out (tl_len L i), Nat.zero_le _, (by show i ≤ _; omega)⟩ (Nat.zero_le _) (by show i ≤ _; omega) (HU.out.below B7.out) (oneS 0 1 0 (fl i (gl (tl L i))), [⟨0, 1, 1, [], false⟩]) (by rw [P0]; exact out_one (by decide) (by decide) (by decide) (by decide) (by decide) MV.out))
          clear hx0 hw0 b6 B6 OU OT P0 W0
          go_wp2_with fail
          refine DA.out.mono ?_
          rintro e w7 ⟨xA, R, q7, c7, rfl, pA, rA, sA, wA, mA, oA, tA_, -, bA⟩
          have B8 := Lib.hid (B7.out.trans (bA.mono B7.out.size)); have PA := Lib.hid pA; have SA := Lib.hid sA; have MA := Lib.hid mA
          have OU3 := Lib.hid (own_below OU2.out bA); have OT3 := Lib.hid (own_below OT2.out bA); have HG7 := Lib.hid (Nat.lt_of_lt_of_le HG6.out bA.size)
          clear sA oA tA_ rA DA B7 bA pA mA OU2 OT2
          have FX_xA := Lib.hid (sv_size xA wA.l4); have FO_xA := Lib.hid (sv_one xA); have SL_xA := Lib.hid (sv_len xA wA.l4)
          have Z_xA := Lib.hid (Blk.new w7 33 [.int .i64 0, .slice none 0 0, .slice none 0 0, .int .i64 0, .int .i64 0, .int .i64 0, .int .i64 0, .int .i64 0, .slice none 0 0, .bool false, .int .i64 0, .int .i64 0, .int .i64 0, .slice none 0 0, .bool false, .int .i64 0, .int .i64 0, .int .i64 0, .slice none 0 0, .bool false, .int .i64 0, .int .i64 0, .int .i64 0, .slice none 0 0, .bool false])
          have KN_xA := Lib.hid (KSp.new (w1 := w7) (x := xA) wA)
          go_upto_region 10 with ((with_reducible refine at_op (.store 33 (.tmp 6) (.tmp 42)) rfl ?_); go_must (refine store_blk 33 (.tmp 6) (.tmp 42) (w7).heap.size 33 _ (sv xA) rfl rfl Z_xA.out SL_xA.out.symm FX_xA.out FO_xA.out rfl rfl ?_))
          obtain ⟨V7, hV7⟩ : ∃ V, ((w7).alloc (.cells #[.int .i64 0, .slice none 0 0, .slice none 0 0, .int .i64 0, .int .i64 0, .int .i64 0, .int .i64 0, .int .i64 0, .slice none 0 0, .bool false, .int .i64 0, .int .i64 0, .int .i64 0, .slice none 0 0, .bool false, .int .i64 0, .int .i64 0, .int .i64 0, .slice none 0 0, .bool false, .int .i64 0, .int .i64 0, .int .i64 0, .slice none 0 0, .bool false] 33)).setRow (w7).heap.size (sv xA).toArray = V := ⟨_, rfl⟩
          rw [hV7] at KN_xA ⊢
          have K_xA := Lib.hid KN_xA.out.1
          have B_xA := Lib.hid KN_xA.out.2
          clear hV7 KN_xA Z_xA FO_xA SL_xA
          obtain ⟨gA, hgA⟩ : ∃ g, (w7).heap.size = g := ⟨_, rfl⟩
          rw [hgA] at K_xA ⊢
          clear hgA
          have B9 := Lib.hid (B8.out.trans (B_xA.out.mono B8.out.size))
          have OU4 := Lib.hid (own_below OU3.out B_xA.out); have OT4 := Lib.hid (own_below OT3.out B_xA.out); have SA2 := Lib.hid (SA.out.below B_xA.out)
          have HGA := Lib.hid (show gu ≠ gA from by
            have h := K_xA.out.box
            intro e
            subst e
            exact own_apart OU4.out h (by decide) rfl)
          clear B8 B_xA wA BT0 OU3 OT3 SA HG7
          obtain ⟨gw, spw, hgw, _, _, _, hbw, _⟩ := own_whole OU4.out h1
          obtain rfl : gu = gw := by injection hgw with h; injection h
          have BU0 := Lib.hid hbw
          have NU0 := Lib.hid (tl_nums L i spw)
          clear hgw hbw
          go_upto_region 11 with (fail)
          go_loopw [8] (fun s wr => ∃ (j : Nat) (cs : List Value), j ≤ i ∧ s = .int .i64 (j : Int) ∧ Blk wr gu 25 cs ∧ (∀ k, k < i → ∃ v, cs[k * 3 + 1]? = some (.int .i64 v)) ∧ Kept (fun k => k = gu) V7 wr) (fun s _ => i - (intOf s).toNat)
          case atStart => exact ⟨0, _, Nat.zero_le _, rfl, BU0.out, NU0.out, Kept.refl _ _⟩
          case round =>
            clear BU0 NU0
            obtain ⟨j, cs, hj, rfl, bu, nu, ku⟩ := hrel
            have BU := Lib.hid bu; have NU := Lib.hid nu; have KU := Lib.hid ku
            clear bu nu ku
            by_cases hlt : j < i
            · obtain ⟨v, hv⟩ := NU.out j hlt
              have j1 : (j : Int) < (i : Int) := by omega
              have cv : wr.cell? ⟨gu, j * 3 + 1, none⟩ = some (.int .i64 v) := (BU.out.cell _).trans hv
              have fz := BU.out.frozen (j * 3 + 1)
              clear hv
              go_wp2_with fail
              go_roundw
              case rel => exact ⟨j + 1, _, hlt, by go_num, BU.out.store (j * 3 + 1) _, nums_set NU.out, KU.out.setCell (p := ⟨gu, j * 3 + 1, none⟩) (.inl rfl) _⟩
              case measure => simp [intOf]; omega
            · obtain rfl : j = i := by omega
              have KA := Lib.hid (K_xA.out.box.kept KU.out (fun e => HGA.out e.symm))
              have SA3 := Lib.hid (SA2.out.keptLow KU.out (fun k e => by rw [e]; exact HG6.out))
              have OT5 := Lib.hid (show wr.ownsRow w.heap.size 25 3 (.slice (some ⟨gt_, 0, none⟩) j d) j ((tl L j).flatMap fv) from own_kept OT4.out KU.out (fun k hk e => by
                have h1 := HGT.out; have h2 := HGU.out.1
                have h3 : k = gt_ := by simpa [Value.ownBlock] using hk.symm
                omega))
              have B10 := Lib.hid (show Below w.heap.size w wr from ⟨KU.out.os.trans B9.out.os, KU.out.tape.trans B9.out.tape, KU.out.output.trans B9.out.output, Nat.le_trans B9.out.size KU.out.size, fun k hk => (KU.out.block k (Nat.lt_of_lt_of_le hk B9.out.size) (fun e => by have h1 := HGU.out.1; have h2 := HWC.out; omega)).trans (B9.out.block k hk)⟩)
              have HLK := Lib.hid ((look_one (c := 0) (x := 1) (le := 0) (c2 := 0) (k := 2) (q := 2) (now := 1) (F := z0) (by decide) (by decide) (by decide) (by decide) (by decide) MV.out (by decide) (.inl rfl) (by decide) (by decide) (.inl (by decide)) (by decide)).1 (.inl rfl))
              have DB := Lib.hid (DoM xA 1 ⟨⟨0, 2, 2, 0, j, gl (tl L j), 0, z0⟩, some ⟨gt_, 0, none⟩, d, none, 0⟩ wr (SA3.out.w MA.out.small) MA.out ⟨own_rw OT5.out (tl_len L j), none_rw _ _ _, (by have := I6.out.2; show j ≤ _; omega), Nat.zero_le _⟩ (by have := I6.out.2; show j ≤ _; omega) (Nat.zero_le _) (HU.out.below B10.out) _ ((congrArg (fun s => doP s _ _) PA.out).trans HLK.out))
              have OT5 := Lib.hid (And.intro OT5.out (show gt_ < wr.heap.size from by have h1 := HGT.out; have h2 := HGU.out.1; have h4 := BU.out.lt; omega))
              have KEEP := Lib.hid (fun (g : Nat) (W' : World) (hg : wr.heap.size ≤ g) (hk : Kept (fun k => k = g) wr W') =>
                show SF w6.heap.size W' xA ∧ W'.ownsRow w.heap.size 25 3 (.slice (some ⟨gt_, 0, none⟩) j d) j ((tl L j).flatMap fv) ∧ Blk W' gA 33 (sv xA) ∧ Below w.heap.size w W' from
                ⟨SA3.out.keptHigh hk (fun k e => by rw [e]; exact hg), own_kept OT5.out.1 hk (fun k h e => by
                  have h1 := OT5.out.2
                  have h3 : k = gt_ := by simpa [Value.ownBlock] using h.symm
                  omega), KA.out.kept hk (fun e => by have := KA.out.lt; omega),
                  ⟨hk.os.trans B10.out.os, hk.tape.trans B10.out.tape, hk.output.trans B10.out.output, Nat.le_trans B10.out.size hk.size, fun k h => (hk.block k (Nat.lt_of_lt_of_le h B10.out.size) (fun e => by have := B10.out.size; omega)).trans (B10.out.block k h)⟩⟩)
              clear hlt BU NU OU4 OT4 K_xA SA2 B9 HLK
              have KAB := Lib.hid KA.out
              go_wp2_with ((with_reducible refine load_blk 33 (.tmp 6) gA 33 (sv xA) _ rfl rfl ?_ Tryd.underlying33 ?_ ?_ ?_ ?_); exact KAB.out; exact rfl; exact FX_xA.out; exact rfl)
              refine DB.out.mono ?_
              rintro e w8 ⟨xB, R2, q8, c8, rfl, pB, rB, sB, wB, mB, oB, tB_, aB, bB⟩
              obtain ⟨y1, gl1, rfl, hy1, rfl, ro⟩ := rep_one oB rB
              have B11 := Lib.hid (B10.out.trans (bB.mono B10.out.size)); have PB := Lib.hid pB; have SB := Lib.hid sB; have MB := Lib.hid mB
              have RO1 := Lib.hid ro; have HY1 := Lib.hid hy1; have AB := Lib.hid (aB trivial y1 (List.mem_singleton_self _)); have FB := Lib.hid (tB_ y1 (List.mem_singleton_self _))
              have OB_ := Lib.hid oB
              have KA2 := Lib.hid (KA.out.below bB KA.out.lt); have SA4 := Lib.hid (SA3.out.below bB)
              have OT6 := Lib.hid (And.intro (own_below OT5.out.1 bB) OT5.out.2)
              have HC8 := Lib.hid bB
              clear sB oB tB_ rB DB bB pB mB aB ro hy1 KA SA3 OT5 KAB B10 BT1
              have FX_xB := Lib.hid (sv_size xB wB.l4); have FO_xB := Lib.hid (sv_one xB); have SL_xB := Lib.hid (sv_len xB wB.l4)
              have Z_xB := Lib.hid (Blk.new w8 33 [.int .i64 0, .slice none 0 0, .slice none 0 0, .int .i64 0, .int .i64 0, .int .i64 0, .int .i64 0, .int .i64 0, .slice none 0 0, .bool false, .int .i64 0, .int .i64 0, .int .i64 0, .slice none 0 0, .bool false, .int .i64 0, .int .i64 0, .int .i64 0, .slice none 0 0, .bool false, .int .i64 0, .int .i64 0, .int .i64 0, .slice none 0 0, .bool false])
              have KN_xB := Lib.hid (KSp.new (w1 := w8) (x := xB) wB)
              go_upto_region 15 with ((with_reducible refine at_op (.store 33 (.tmp 9) (.tmp 63)) rfl ?_); go_must (refine store_blk 33 (.tmp 9) (.tmp 63) (w8).heap.size 33 _ (sv xB) rfl rfl Z_xB.out SL_xB.out.symm FX_xB.out FO_xB.out rfl rfl ?_))
              obtain ⟨V9, hV9⟩ : ∃ V, ((w8).alloc (.cells #[.int .i64 0, .slice none 0 0, .slice none 0 0, .int .i64 0, .int .i64 0, .int .i64 0, .int .i64 0, .int .i64 0, .slice none 0 0, .bool false, .int .i64 0, .int .i64 0, .int .i64 0, .slice none 0 0, .bool false, .int .i64 0, .int .i64 0, .int .i64 0, .slice none 0 0, .bool false, .int .i64 0, .int .i64 0, .int .i64 0, .slice none 0 0, .bool false] 33)).setRow (w8).heap.size (sv xB).toArray = V := ⟨_, rfl⟩
              rw [hV9] at KN_xB ⊢
              have K_xB := Lib.hid KN_xB.out.1
              have B_xB := Lib.hid KN_xB.out.2
              clear hV9 KN_xB Z_xB FO_xB SL_xB
              obtain ⟨gB, hgB⟩ : ∃ g, (w8).heap.size = g := ⟨_, rfl⟩
              rw [hgB] at K_xB ⊢
              clear hgB
              have B12 := Lib.hid (B11.out.trans (B_xB.out.mono B11.out.size))
              have HC9 := Lib.hid (HC8.out.trans (B_xB.out.mono HC8.out.size))
              have KA3 := Lib.hid (KA2.out.below B_xB.out KA2.out.lt); have SA5 := Lib.hid (SA4.out.below B_xB.out)
              have OT7 := Lib.hid (And.intro (own_below OT6.out.1 B_xB.out) OT6.out.2)
              have RO2 := Lib.hid (RO1.out.below B_xB.out); have FB2 := Lib.hid (FB.out.below B_xB.out); have SB2 := Lib.hid (SB.out.below B_xB.out)
              have OB2 := Lib.hid (own_below OB_.out B_xB.out)
              clear B11 B_xB wB KA2 SA4 OT6 RO1 FB SB OB_
              have HT : y1.r.t = tl L j := by rw [HY1.out]; exact fl_tl L j
              obtain ⟨gm, hgm, hgm2, hgm3, _, _⟩ := own_block FB2.out (by rw [HT, tl_len]; have := I6.out.1; omega)
              have HGM := Lib.hid (And.intro hgm2 hgm3)
              have FB3 := Lib.hid (show V9.ownsRow wr.heap.size 25 3 (.slice (some ⟨gm, 0, none⟩) j y1.c) j ((tl L j).flatMap fv) from by
                have h := FB2.out
                unfold FT at h
                rw [HT, tl_len, hgm] at h
                exact h)
              obtain ⟨r0, r1, r2, r3, r4⟩ := RO2.out.cells
              rw [HT, tl_len, hgm] at r3
              rw [HY1.out] at r2
              change _ = some (Value.int .i64 2) at r2
              have HGM2 := Lib.hid hgm
              have SAM := Lib.hid (refsame_t j y1.c j d (some ⟨gm, 0, none⟩) (some ⟨gt_, 0, none⟩) (gl (tl L j)) (gl (tl L j)) V9 (by have := I6.out.2; omega) (by have := I6.out.2; omega) (own_rw FB3.out (tl_len L j)) (own_rw OT7.out.1 (tl_len L j)))
              rw [sameN_of rfl (fun _ _ => rfl)] at SAM
              clear hgm2 hgm3 r0 r1 r4 hgm HT
              go_upto_region 15 with (fail)
              go_wp2_with fail
              refine SAM.out.mono ?_
              rintro e w9 ⟨rfl, b9⟩
              have B13 := Lib.hid (B12.out.trans (b9.mono B12.out.size))
              have KC := Lib.hid (fun (W' : World) (hk : Kept (fun k => k = gm) w9 W') => KEEP.out gm W' HGM.out.1 ((Kept.of_below (HC9.out.trans (b9.mono HC9.out.size))).trans hk))
              have KA4 := Lib.hid (KA3.out.below b9 KA3.out.lt); have SA6 := Lib.hid (SA5.out.below b9)
              have OT8 := Lib.hid (And.intro (own_below OT7.out.1 b9) OT7.out.2)
              have RO3 := Lib.hid (RO2.out.below b9); have FB4 := Lib.hid (own_below FB3.out b9); have SB3 := Lib.hid (SB2.out.below b9); have FB5 := Lib.hid (FB2.out.below b9)
              have OB3 := Lib.hid (own_below OB2.out b9); have KB := Lib.hid (K_xB.out.box.below b9 K_xB.out.box.lt)
              clear b9 SAM B12 KA3 SA5 OT7 RO2 FB2 FB3 SB2 OB2 K_xB r2 r3
              have HGL := Lib.hid (show gl1 ≠ gm from fun e => own_two FB4.out OB3.out (by decide) rfl (by rw [e]; rfl))
              obtain ⟨gw, spw2, hgw, _, _, _, hbw, _⟩ := own_whole FB4.out I6.out.1
              obtain rfl : gm = gw := by injection hgw with h; injection h
              have BU0 := Lib.hid hbw
              have NU0 := Lib.hid (tl_nums L j spw2)
              have R3 := Lib.hid (show w9.cell? ⟨gl1, 3, none⟩ = some (.slice (some ⟨gm, 0, none⟩) j y1.c) from by
                have h := RO3.out.cells.2.2.2.1
                rwa [HY1.out, fl_tl, tl_len, HGM2.out] at h)
              clear hgw hbw
              go_upto_region 18 with (fail)
              go_loopw [11] (fun s wx => ∃ (k : Nat) (cs : List Value), k ≤ j ∧ s = .int .i64 (k : Int) ∧ Blk wx gm 25 cs ∧ (∀ q, q < j → ∃ v, cs[q * 3 + 1]? = some (.int .i64 v)) ∧ Kept (fun b => b = gm) w9 wx) (fun s _ => j - (intOf s).toNat)
              case atStart => exact ⟨0, _, Nat.zero_le _, rfl, BU0.out, NU0.out, Kept.refl _ _⟩
              case round =>
                clear BU0 NU0
                obtain ⟨k, cs, hk, rfl, bu, nu, ku⟩ := hrel
                have BU := Lib.hid bu; have NU := Lib.hid nu; have KW := Lib.hid ku
                clear bu nu ku
                have cr := (KW.out.cell (p := ⟨gl1, 3, none⟩) RO3.out.lt HGL.out).trans R3.out
                by_cases hlt : k < j
                · obtain ⟨v, hv⟩ := NU.out k hlt
                  have j1 : (k : Int) < (j : Int) := by omega
                  have cv : wr.cell? ⟨gm, k * 3 + 1, none⟩ = some (.int .i64 v) := (BU.out.cell _).trans hv
                  have fz := BU.out.frozen (k * 3 + 1)
                  clear hv
                  go_upto_region 20 with (fail)
                  refine wp_region_still_tail 17 (by kernel_rfl) (by kernel_rfl) ?_
                  simp only [List.take_succ_cons, List.take_zero, List.drop_succ_cons, List.drop_zero]
                  repeat (refine wpStill_step (fun K hK => ?_); go_simp; (try go_bits); refine hK _ ?_; clear hK K)
                  refine wpStill_nil ?_
                  go_wp2_with fail
                  go_roundw
                  case rel => exact ⟨k + 1, _, hlt, by go_num, BU.out.store (k * 3 + 1) _, nums_set NU.out, (KW.out.setCell (p := ⟨gm, k * 3 + 1, none⟩) (.inl rfl) _).drew⟩
                  case measure => simp [intOf]; omega
                · obtain rfl : k = j := by omega
                  obtain ⟨sa, ot, ka, bl⟩ := KC.out wr KW.out
                  have SAe := Lib.hid sa; have OTe := Lib.hid ot; have KAe := Lib.hid ka; have BLe := Lib.hid bl
                  have KBe := Lib.hid (show Blk wr gB 33 (sv xB) from KB.out.kept KW.out (fun e => by
                    have h := KB.out
                    rw [e] at h
                    exact own_apart FB4.out h (by decide) rfl))
                  have ITe := Lib.hid (ItW.of SB3.out FB5.out AB.out HGM2.out KW.out MB.out.small)
                  have TD := Lib.hid (tolds_t wr (HU.out.below bl))
                  have FFB : fndI (fl k (gl (tl L k))) xB.sp.its = 0 := by
                    rw [PB.out]
                    show fndI _ [⟨0, _, _⟩] = 0
                    unfold fndI
                    rw [fnd_one, if_pos (mT_fls MV.out)]
                    rfl
                  have FFA : fndI (fl k (gl (tl L k))) xA.sp.its = 0 := by
                    rw [PA.out]
                    show fndI _ [⟨0, _, _⟩] = 0
                    unfold fndI
                    rw [fnd_one, if_pos (mT_fls MV.out)]
                    rfl
                  have FFB2 := Lib.hid FFB; have FFA2 := Lib.hid FFA
                  clear sa ot ka bl hlt BU NU KW KC KB R3 FFB FFA
                  go_wp2_with fail
                  refine TD.out.mono ?_
                  rintro e wa ⟨rfl, ba⟩
                  have FDB := Lib.hid (FindI_t xB (some ⟨gt_, 0, none⟩) k d (gl (tl L k)) wa (by have := I6.out.2; omega) (own_rw (own_below OTe.out ba) (tl_len L k)) (ITe.out.below ba))
                  rw [FFB2.out] at FDB
                  have KBf := Lib.hid (KBe.out.below ba KBe.out.lt); have KAf := Lib.hid (KAe.out.below ba KAe.out.lt)
                  have BLf := Lib.hid (BLe.out.trans (ba.mono BLe.out.size)); have OTf := Lib.hid (own_below OTe.out ba); have SAf := Lib.hid (SAe.out.below ba)
                  clear ba TD KBe KAe BLe OTe SAe ITe
                  go_wp2_with ((with_reducible refine load_blk_gdO 112 33 (.tmp 9) gB 33 (sv xB) _ ?_ ?_ rfl ?_ Tryd.underlying33 ?_ ?_ ?_ ?_); exact rfl; kernel_rfl; exact KBf.out; exact rfl; exact FX_xB.out; exact rfl)
                  refine FDB.out.mono ?_
                  rintro e wb ⟨rfl, bb⟩
                  have FDA := Lib.hid (Find_t xA (some ⟨gt_, 0, none⟩) k d (gl (tl L k)) wb (by have := I6.out.2; omega) (own_rw (own_below OTf.out bb) (tl_len L k)) ((SAf.out.below bb).w MA.out.small))
                  rw [FFA2.out] at FDA
                  have KAg := Lib.hid (KAf.out.below bb KAf.out.lt)
                  have BLg := Lib.hid (BLf.out.trans (bb.mono BLf.out.size))
                  clear bb FDB KBf KAf BLf OTf SAf
                  go_wp2_with ((with_reducible refine load_blk_gdO 118 33 (.tmp 6) gA 33 (sv xA) _ ?_ ?_ rfl ?_ Tryd.underlying33 ?_ ?_ ?_ ?_); exact rfl; kernel_rfl; exact KAg.out; exact rfl; exact FX_xA.out; exact rfl)
                  refine FDA.out.mono ?_
                  rintro e wc2 ⟨rfl, bc⟩
                  go_wp2_with fail
                  go_ret
                  exact ⟨rfl, BLg.out.trans (bc.mono BLg.out.size)⟩
end Go.Proofs.YtlamfdeepofenaaDoor
