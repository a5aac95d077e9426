/-
  LAYER 8: a row of asks; play.
-/
import Derived.Test.YtfcmhpgopihidaaDoorSpY
namespace Go.Proofs.YtfcmhpgopihidaaDoor
open Go Go.RowKit Sh

section
variable {P : Program} {ops : Array Oper} {Q : Exit → Act → World → Prop} {md : Region.Mode} {S : World → Prop} {last : Nat → Bool}
/-- The one that may come up now loads a whole block. -/
theorem wpAnyE_load {i : Nat} {o : Oper} {fuel : Nat} {listed : Array Bool} {a : Act} {w : World} (hr : Region.ready md ops listed = [i]) (hi : ops[i]? = some o) (hwd : Region.wanted o (yielded ops a.tmps) = true)
    (ty : TypeId) (x : Operand) (g : Nat) (t : TypeId) (cs : List Value) (d : TypeDesc) (ho : o.op = .load ty x) (hg : Blk w g t cs) (hu : P.underlying ty = some d) (hd : d.isRow = true) (hz : (P.info? ty).map (·.size) = some cs.length) (hx : a.eval x = .pointer (some ⟨g, 0, none⟩))
    (hS : last i = true ∨ S w) (h : wpAnyE P md ops Q S last fuel (listed.setIfInBounds i true) (a.put o.dst (.agg cs.toArray)) w) : wpAnyE P md ops Q S last (fuel + 1) listed a w :=
  wpAnyE_one hr hi hwd fun _ hK => wload_part ty x g 0 t [] cs [] d ho (by simpa using hg) rfl hu hd hz hx (hK.out _ _ hS h)
/-- The one that may come up now stores a whole block. -/
theorem wpAnyE_store {i : Nat} {o : Oper} {fuel : Nat} {listed : Array Bool} {a : Act} {w : World} (hr : Region.ready md ops listed = [i]) (hi : ops[i]? = some o) (hwd : Region.wanted o (yielded ops a.tmps) = true)
    (ty : TypeId) (x y : Operand) (g : Nat) (t : TypeId) (cs cs' : List Value) (ho : o.op = .store ty x y) (hg : Blk w g t cs) (hl : cs.length = cs'.length) (hz : (P.info? ty).map (·.size) = some cs'.length) (h1 : cs'.toArray.all (·.oneCell') = true)
    (hx : a.eval x = .pointer (some ⟨g, 0, none⟩)) (hy : a.eval y = .agg cs'.toArray)
    (h : ∀ w', Blk w' g t cs' → Kept (fun b => b = g) w w' → (last i = true ∨ S w') ∧ wpAnyE P md ops Q S last fuel (listed.setIfInBounds i true) (a.put o.dst undef) w') : wpAnyE P md ops Q S last (fuel + 1) listed a w :=
  wpAnyE_one hr hi hwd fun _ hK => wstore_part ty x y g 0 t [] cs [] cs' ho (by simpa using hg) rfl hl hz h1 hx hy fun w' a1 a2 _ => by
    obtain ⟨h1, h2⟩ := h w' (by simpa using a1.out) (a2.out.keptOne rfl)
    exact hK.out _ _ h1 h2
end
/-- An Ask as it lies. -/
structure Av where
  r : Rv
  d : Int
def al (x : Av) : List Value := rv x.r ++ [.int .i64 x.d]
/-- A row of asks. -/
structure AW (w : World) (A : Option Addr) (n : Nat) (F : Nat → Av) : Prop where
  at_ : ∀ j, j < n → ∃ b o, A = some ⟨b, o, none⟩ ∧ b < w.heap.size ∧ w.rangeAt b (o + j * 7) (al (F j))
  r : ∀ j, j < n → RvW w (F j).r
theorem AW.below {w w' : World} {A : Option Addr} {n : Nat} {F : Nat → Av} (h : AW w A n F) (hb : Below w.heap.size w w') : AW w' A n F :=
  ⟨fun j hj => by
    obtain ⟨b, o, e, hl, r⟩ := h.at_ j hj
    exact ⟨b, o, e, Nat.lt_of_lt_of_le hl hb.size, rows_below r hb hl⟩, fun j hj => (h.r j hj).below hb⟩
theorem AW.read {w : World} {A : Option Addr} {n : Nat} {F : Nat → Av} (h : AW w A n F) {j : Nat} (hj : j < n) : ∃ b o, A = some ⟨b, o, none⟩ ∧ b < w.heap.size ∧ w.rangeAt b (o + j * 7) (rv (F j).r) ∧ w.cell? ⟨b, o + j * 7 + 6, none⟩ = some (.int .i64 (F j).d) := by
  obtain ⟨b, o, e, hl, r⟩ := h.at_ j hj
  refine ⟨b, o, e, hl, fun i v hv => r i v ?_, r 6 _ rfl⟩
  unfold al
  rw [List.getElem?_append_left (List.getElem?_eq_some_iff.1 hv).1]
  exact hv
/-- A space that is worked on in the block g. -/
structure PL (w0 W : World) (g : Nat) (x : Spv) : Prop where
  box : Blk W g 32 (sv x)
  sf : SF w0.heap.size W x
  op : Op15 x.sp
  ge : w0.heap.size ≤ g
  bel : Below w0.heap.size w0 W
theorem PL.w {w0 W : World} {g : Nat} {x : Spv} (h : PL w0 W g x) : SpW W x := h.sf.w h.op.may.small
theorem PL.below {w0 W W' : World} {g : Nat} {x : Spv} (h : PL w0 W g x) (hb : Below W.heap.size W W') : PL w0 W' g x := ⟨h.box.below hb h.box.lt, h.sf.below hb, h.op, h.ge, h.bel.trans (hb.mono h.bel.size)⟩
theorem sf_new (rd wr a b c d : Int) (B : Nat) (W : World) : SF B W (nsp rd wr a b c d) :=
  ⟨World.ownsRow_nil _ _ _ _, (fun y hy => by cases hy), World.ownsRow_nil _ _ _ _, (fun y hy => by cases hy), rfl, fun y hy => by
    simp only [nsp, List.mem_cons, List.not_mem_nil, or_false] at hy
    rcases hy with rfl | rfl | rfl | rfl <;> exact FT.nil _ _⟩
theorem PL.put {w0 W W' V : World} {g : Nat} {x x' : Spv} (h : PL w0 W g x) (hs : SF W.heap.size W' x') (ho : Op15 x'.sp) (hb : Below W.heap.size W W') (hk : Kept (fun b => b = g) W' V) (hx : Blk V g 32 (sv x')) : PL w0 V g x' := by
  have bx := h.box.below hb h.box.lt
  have b1 : Below w0.heap.size w0 W' := h.bel.trans (hb.mono h.bel.size)
  exact ⟨hx, (hs.low h.bel.size).kept hk bx, ho, h.ge, b1.trans ⟨hk.os, hk.tape, hk.output, hk.size, fun k hlt => hk.block k (Nat.lt_of_lt_of_le hlt b1.size) (by have := h.ge; omega)⟩⟩
def zSp : List Value := [.int .i64 0, .slice none 0 0, .slice none 0 0, .int .i64 0, .int .i64 0, .int .i64 0, .int .i64 0, .int .i64 0, .slice none 0 0, .bool false, .int .i64 0, .int .i64 0, .int .i64 0, .slice none 0 0, .bool false, .int .i64 0, .int .i64 0, .int .i64 0, .slice none 0 0, .bool false, .int .i64 0, .int .i64 0, .int .i64 0, .slice none 0 0, .bool false]
set_option maxRecDepth 100000 in
set_option maxHeartbeats 4000000 in
theorem play_t (A : Option Addr) (n c : Nat) (F : Nat → Av) (most : Int) (w : World) (hn : n ≤ 9223372036854775807) (hA : AW w A n F) (hf : ∀ j : Nat, j < n → (j : Int) < most → (F j).r.r.n ≤ 1000 ∧ (F j).r.r.m ≤ 1000) (h40 : most ≤ 40) (hu : UT w) :
    Calls Tryd.prog 32 #[.int .i64 15, .int .i64 15, .slice A n c, .int .i64 most] w fun e w' => ∃ (x : Spv) (now : Int), e = .returned (.tuple #[.agg (sv x).toArray, .int .i64 now]) ∧ Op15 x.sp ∧ x.sp.now ≤ now ∧ now ≤ 800 ∧ SpW w' x ∧ Below w.heap.size w w' := by
  have HA := Lib.hid hA; have HF := Lib.hid hf; have HU := Lib.hid hu; have HM := Lib.hid h40
  have RB0 := Lib.hid (Blk.new w 32 zSp)
  have B0 := Lib.hid ((Below.refl w.heap.size w).alloc (Nat.le_refl _) (.cells zSp.toArray 32))
  clear hA hf hu h40
  go_enter Tryd.func32, Tryd.ntmps32
  go_upto_region 1 with (fail)
  change Code.wp _ _ _ _ (w.alloc (.cells zSp.toArray 32))
  obtain ⟨V, hV⟩ : ∃ V, w.alloc (.cells zSp.toArray 32) = V := ⟨_, rfl⟩
  rw [hV] at RB0 B0 ⊢
  clear hV
  go_wp2_with fail
  refine (New_t 15 15 V).mono ?_
  rintro e w2 ⟨rfl, b2⟩
  have RB1 := Lib.hid (RB0.out.below b2 RB0.out.lt)
  have B2 := Lib.hid (B0.out.trans (b2.mono B0.out.size))
  have Z2 := Lib.hid (Blk.new w2 32 zSp)
  obtain ⟨x0, hx0⟩ : ∃ x, nsp 15 15 0 1 2 3 = x := ⟨_, rfl⟩
  have P0 : x0.sp = newS 15 15 := by rw [← hx0]; exact nsp_sp 15 15
  have hl0 : x0.last.length = 4 := by rw [← hx0]; rfl
  have PL0 := Lib.hid (show PL w ((w2.alloc (.cells zSp.toArray 32)).setRow w2.heap.size (sv x0).toArray) w2.heap.size x0 from
    ⟨(Blk.new w2 32 zSp).setRow (sv x0), by rw [← hx0]; exact sf_new _ _ _ _ _ _ _ _, by rw [P0]; exact Op15.new, B2.out.size, below_setRow (B2.out.alloc B2.out.size _) B2.out.size _⟩)
  have RB2 := Lib.hid (show Blk ((w2.alloc (.cells zSp.toArray 32)).setRow w2.heap.size (sv x0).toArray) w.heap.size 32 zSp from
    RB1.out.below (below_setRow ((Below.refl w2.heap.size w2).alloc (Nat.le_refl _) _) (Nat.le_refl _) _) RB1.out.lt)
  have HGE := Lib.hid (show w.heap.size < w2.heap.size from RB1.out.lt)
  have FX0 := Lib.hid (sv_size x0 hl0); have FO0 := Lib.hid (sv_one x0); have SL0 := Lib.hid (sv_len x0 hl0)
  rw [hx0]
  clear b2 RB0 RB1 B0 B2 hx0 hl0
  go_upto_region 2 with ((with_reducible refine at_op (.store 32 (.tmp 10) (.tmp 15)) rfl ?_); go_must (refine store_blk 32 (.tmp 10) (.tmp 15) w2.heap.size 32 _ (sv x0) rfl rfl Z2.out SL0.out.symm FX0.out FO0.out rfl rfl ?_))
  change Code.wp _ _ _ _ ((w2.alloc (.cells zSp.toArray 32)).setRow w2.heap.size (sv x0).toArray)
  obtain ⟨V2, hV2⟩ : ∃ V, (w2.alloc (.cells zSp.toArray 32)).setRow w2.heap.size (sv x0).toArray = V := ⟨_, rfl⟩
  rw [hV2] at PL0 RB2 ⊢
  obtain ⟨g, hg⟩ : ∃ g, w2.heap.size = g := ⟨_, rfl⟩
  rw [hg] at PL0 HGE ⊢
  have N0 := Lib.hid (show x0.sp.now ≤ 0 by rw [P0]; exact Int.le_refl _)
  clear hV2 hg Z2 FX0 FO0 SL0 P0
  go_upto_region 4 with (fail)
  go_loopw [11, 12] (fun s t wr => ∃ (i : Nat) (now : Int) (x : Spv), i ≤ n ∧ (i : Int) ≤ 40 ∧ s = .int .i64 now ∧ t = .int .i64 (i : Int) ∧ x.sp.now ≤ now ∧ now ≤ 20 * (i : Int) ∧ 0 ≤ now ∧ PL w wr g x ∧ Blk wr w.heap.size 32 zSp) (fun _ t _ => n - (intOf t).toNat)
  case atStart => exact ⟨0, 0, x0, by omega, by omega, rfl, rfl, N0.out, by omega, by omega, PL0.out, RB2.out⟩
  case round =>
    clear PL0 RB2 N0
    obtain ⟨j, now, x, hj, hj40, rfl, rfl, hnow, hn20, hn0, px, rb⟩ := hrel
    have PX := Lib.hid px; have RB := Lib.hid rb; have HNOW := Lib.hid hnow; have HN20 := Lib.hid hn20
    clear px rb hnow
    by_cases hlt : j < n
    · by_cases hm : (j : Int) < most
      · obtain ⟨b, o, rfl, hbl, rg0, cd0⟩ := HA.out.read hlt
        have rg := rows_below rg0 PX.out.bel hbl
        have cd := (PX.out.bel.cell (p := ⟨b, o + j * 7 + 6, none⟩) hbl).trans cd0
        clear rg0 cd0
        have j1 : (j : Int) < (n : Int) := by omega
        have n800 : now ≤ 800 := by omega
        obtain ⟨y, hy⟩ : ∃ y, F j = y := ⟨_, rfl⟩
        have HRY := Lib.hid (show RvW w y.r by rw [← hy]; exact HA.out.r j hlt)
        have HFY := Lib.hid (show y.r.r.n ≤ 1000 ∧ y.r.r.m ≤ 1000 by rw [← hy]; exact HF.out j hlt hm)
        rw [hy] at rg cd
        obtain ⟨k, hk, hke⟩ := mod_s 20 (by decide) (by decide) y.d
        rw [show ((20 : Nat) : Int) = 20 from rfl] at hke
        have k1 : (k : Int) < 20 := by omega
        have RG := Lib.hid rg; have HBL := Lib.hid hbl
        have HK20 := Lib.hid (show now + (k : Int) ≤ 20 * ((j + 1 : Nat) : Int) ∧ (j : Int) + 1 ≤ 40 from ⟨by have := HN20.out; omega, by have := HM.out; omega⟩)
        clear hy rg hbl hn20 hk
        go_upto_region 7 with (fail)
        obtain ⟨now', hnw⟩ : ∃ z, now + (k : Int) = z := ⟨_, rfl⟩
        rw [hnw] at HK20 ⊢
        have HNW := Lib.hid (show x.sp.now ≤ now' ∧ 0 ≤ now' from ⟨by have := HNOW.out; omega, by omega⟩)
        have FXU := Lib.hid (sv_size x PX.out.sf.l4); have FR := Lib.hid (rv_size y.r)
        obtain ⟨U, hU⟩ : ∃ U, wr.drew = U := ⟨_, rfl⟩
        have BU := Lib.hid (show Below wr.heap.size wr U from by rw [← hU]; exact (Below.refl _ _).drew)
        have PU := Lib.hid (PX.out.below BU.out)
        have RBU := Lib.hid (RB.out.below BU.out RB.out.lt)
        have HBW := Lib.hid (show b < wr.heap.size from Nat.lt_of_lt_of_le HBL.out PX.out.bel.size)
        have G1 : U.rangeAt b (o + j * 7) (rv y.r) := rows_below RG.out BU.out HBW.out
        have HBU := Lib.hid (show b < U.heap.size from Nat.lt_of_lt_of_le HBW.out BU.out.size)
        have BX := Lib.hid PU.out.box
        have HBG := Lib.hid (show b ≠ g by have := PX.out.ge; have := HBL.out; omega)
        have DO_ := Lib.hid (DoM x now' y.r U PU.out.w PU.out.op.may (HRY.out.below PU.out.bel) HFY.out.1 HFY.out.2 (HU.out.below PU.out.bel) _ rfl)
        clear HNOW hnw PX RB RG HBL hke k1 cd
        refine wp_region_E (fun Y => Y.rangeAt b (o + j * 7) (rv y.r)) (fun _ => false) (by kernel_rfl) ?_
        change wpAnyE _ _ _ _ _ _ _ _ _ wr.drew
        rw [hU]
        clear hU
        refine wpAnyE_take (i := 1) (v := ?_) rfl (by kernel_rfl) (by kernel_rfl) (by kernel_rfl) (by kernel_rfl) (fun _ _ _ h => h) (Or.inl ⟨by kernel_rfl, ?_⟩) G1 ?_
        rotate_left 1
        · (intro w hS; clear hS; go_simp; try (with_reducible rfl))
        refine wpAnyE_take (i := 2) (v := ?_) rfl (by kernel_rfl) (by kernel_rfl) (by kernel_rfl) (by kernel_rfl) (fun _ _ _ h => h) (Or.inl ⟨by kernel_rfl, ?_⟩) G1 ?_
        rotate_left 1
        · (intro w hS; clear hS; go_simp; try (with_reducible rfl))
        refine wpAnyE_take (i := 3) (v := ?_) rfl (by kernel_rfl) (by kernel_rfl) (by kernel_rfl) (by kernel_rfl) (fun _ _ _ h => h) (Or.inl ⟨by kernel_rfl, ?_⟩) G1 ?_
        rotate_left 1
        · (intro w hS; clear hS; go_simp; try (with_reducible rfl))
        refine wpAnyE_take (i := 4) (v := ?_) rfl (by kernel_rfl) (by kernel_rfl) (by kernel_rfl) (by kernel_rfl) (fun _ _ _ h => h) (Or.inl ⟨by kernel_rfl, ?_⟩) G1 ?_
        rotate_left 1
        · (intro w hS; clear hS; go_simp; try (with_reducible rfl))
        refine wpAnyE_take (i := 5) (v := ?_) rfl (by kernel_rfl) (by kernel_rfl) (by kernel_rfl) (by kernel_rfl) (fun _ _ _ h => h) (Or.inl ⟨by kernel_rfl, ?_⟩) G1 ?_
        rotate_left 1
        · (intro w hS; clear hS; go_simp; try (with_reducible rfl))
        refine wpAnyE_take (i := 6) (v := .agg (rv y.r).toArray) rfl (by kernel_rfl) (by kernel_rfl) (by kernel_rfl) (by kernel_rfl) (fun _ _ _ h => h) (yieldsIf_load_mid (by kernel_rfl) 38 (.tmp 43) rfl b (o + j * 7) (by go_simp) (rv y.r) _ (fun _ h => h) Tryd.underlying38 rfl (FR.out)) G1 ?_
        refine wpAnyE_load (i := 0) (by kernel_rfl) rfl (by kernel_rfl) 32 (.tmp 10) g 32 (sv x) _ rfl BX.out Tryd.underlying32 rfl FXU.out rfl (.inr G1) ?_
        refine wpAnyE_one (i := 7) (by kernel_rfl) rfl (by kernel_rfl) (fun K hK => ?_)
        go_simp
        refine DO_.out.mono ?_
        rintro e w2 ⟨x', R, q, c', rfl, p', -, s', -, m', -, -, -, b'⟩
        have hop : Op15 x'.sp := by rw [p']; exact PU.out.op.do now' y.r.r
        have hnow : x'.sp.now ≤ now' := by
          rw [p', (do_kept x.sp now' y.r.r).2.2.2]
          split
          · exact HNW.out.1
          · exact Int.le_refl _
        have HL4 := Lib.hid (show x'.last.length = 4 from s'.l4)
        have FX2 := Lib.hid (sv_size x' HL4.out); have FO2 := Lib.hid (sv_one x'); have SL2 := Lib.hid (sv_len x' HL4.out); have SL1 := Lib.hid (sv_len x PU.out.sf.l4)
        have S2 := Lib.hid s'; have B2 := Lib.hid b'; have HOP := Lib.hid hop; have HNOW2 := Lib.hid hnow
        have BX2 := Lib.hid (BX.out.below b' BX.out.lt); have RB2 := Lib.hid (RBU.out.below b' RBU.out.lt)
        have G2 : w2.rangeAt b (o + j * 7) (rv y.r) := rows_below G1 b' HBU.out
        refine hK.out _ _ (.inr G2) ?_
        clear hK K s' b' hop hnow p' m' DO_ G1 RBU BX
        refine wpAnyE_take (i := 8) (v := ?_) rfl (by kernel_rfl) (by kernel_rfl) (by kernel_rfl) (by kernel_rfl) (fun _ _ _ h => h) (Or.inl ⟨by kernel_rfl, ?_⟩) G2 ?_
        rotate_left 1
        · (intro w hS; clear hS; go_simp; try (with_reducible rfl))
        refine wpAnyE_take (i := 9) (v := ?_) rfl (by kernel_rfl) (by kernel_rfl) (by kernel_rfl) (by kernel_rfl) (fun _ _ _ h => h) (Or.inl ⟨by kernel_rfl, ?_⟩) G2 ?_
        rotate_left 1
        · (intro w hS; clear hS; go_simp; try (with_reducible rfl))
        refine wpAnyE_take (i := 10) (v := ?_) rfl (by kernel_rfl) (by kernel_rfl) (by kernel_rfl) (by kernel_rfl) (fun _ _ _ h => h) (Or.inl ⟨by kernel_rfl, ?_⟩) G2 ?_
        rotate_left 1
        · (intro w hS; clear hS; go_simp; try (with_reducible rfl))
        refine wpAnyE_store (i := 11) (by kernel_rfl) rfl (by kernel_rfl) 32 (.tmp 10) (.tmp 46) g 32 (sv x) (sv x') rfl BX2.out (SL1.out.trans SL2.out.symm) FX2.out FO2.out rfl rfl fun wz rz KZ => ?_
        have RZ := Lib.hid rz
        have P3 := Lib.hid (PU.out.put S2.out HOP.out B2.out KZ RZ.out)
        have RB3 := Lib.hid (RB2.out.kept KZ (by have := HGE.out; omega))
        have G3 : wz.rangeAt b (o + j * 7) (rv y.r) := fun i v hv => by
          exact (KZ.cell (p := ⟨b, o + j * 7 + i, none⟩) (Nat.lt_of_lt_of_le HBU.out B2.out.size) HBG.out).trans (G2 i v hv)
        refine ⟨.inr G3, ?_⟩
        clear G2 G3 KZ rz
        refine wpAnyE_done (by kernel_rfl) ?_ _
        go_simp
        go_wp2_with fail
        exact ⟨⟨j + 1, now', x', hlt, by have := HK20.out.2; omega, rfl, by go_num, HNOW2.out, HK20.out.1, HNW.out.2, P3.out, RB3.out⟩, by simp [intOf]; omega⟩
      · have hmf : decide ((j : Int) < most) = false := decide_eq_false hm
        have j1 : (j : Int) < (n : Int) := by omega
        clear hm
        have FXU := Lib.hid (sv_size x PX.out.sf.l4); have FOU := Lib.hid (sv_one x); have SLU := Lib.hid (sv_len x PX.out.sf.l4)
        have BX := Lib.hid PX.out.box
        have RZ := Lib.hid (RB.out.setRow (sv x))
        have BZ := Lib.hid (below_setRow PX.out.bel (Nat.le_refl _) (sv x).toArray)
        have KZ : Kept (fun b => b = w.heap.size) wr (wr.setRow w.heap.size (sv x).toArray) := (Kept.refl (fun b => b = w.heap.size) wr).setRowK (.inl rfl) _
        have SZ := Lib.hid ((PX.out.sf.kept KZ RB.out).w PX.out.op.may.small)
        clear KZ
        go_wp2_with (first
          | ((with_reducible refine load_blk 32 (.tmp 10) g 32 (sv x) _ rfl rfl ?_ Tryd.underlying32 ?_ ?_ ?_ ?_); exact BX.out; exact rfl; exact FXU.out; exact rfl)
          | ((with_reducible refine at_op (.store 32 (.tmp 8) (.tmp 48)) rfl ?_); go_must (refine store_blk 32 (.tmp 8) (.tmp 48) w.heap.size 32 _ (sv x) rfl rfl RB.out SLU.out.symm FXU.out FOU.out rfl rfl ?_)))
        exact ret_blkS (p := 8) (u := 9) (ty := 32) rfl rfl w.heap.size 32 _ _ rfl RZ.out Tryd.underlying32 rfl FXU.out _ rfl ⟨x, now, rfl, PX.out.op, HNOW.out, by have := HN20.out; omega, SZ.out, BZ.out⟩
    · obtain rfl : j = n := by omega
      clear hlt
      have FXU := Lib.hid (sv_size x PX.out.sf.l4); have FOU := Lib.hid (sv_one x); have SLU := Lib.hid (sv_len x PX.out.sf.l4)
      have BX := Lib.hid PX.out.box
      have RZ := Lib.hid (RB.out.setRow (sv x))
      have BZ := Lib.hid (below_setRow PX.out.bel (Nat.le_refl _) (sv x).toArray)
      have KZ : Kept (fun b => b = w.heap.size) wr (wr.setRow w.heap.size (sv x).toArray) := (Kept.refl (fun b => b = w.heap.size) wr).setRowK (.inl rfl) _
      have SZ := Lib.hid ((PX.out.sf.kept KZ RB.out).w PX.out.op.may.small)
      clear KZ
      go_wp2_with (first
        | ((with_reducible refine load_blk 32 (.tmp 10) g 32 (sv x) _ rfl rfl ?_ Tryd.underlying32 ?_ ?_ ?_ ?_); exact BX.out; exact rfl; exact FXU.out; exact rfl)
        | ((with_reducible refine at_op (.store 32 (.tmp 8) (.tmp 48)) rfl ?_); go_must (refine store_blk 32 (.tmp 8) (.tmp 48) w.heap.size 32 _ (sv x) rfl rfl RB.out SLU.out.symm FXU.out FOU.out rfl rfl ?_)))
      exact ret_blkS (p := 8) (u := 9) (ty := 32) rfl rfl w.heap.size 32 _ _ rfl RZ.out Tryd.underlying32 rfl FXU.out _ rfl ⟨x, now, rfl, PX.out.op, HNOW.out, by have := HN20.out; omega, SZ.out, BZ.out⟩
end Go.Proofs.YtfcmhpgopihidaaDoor
