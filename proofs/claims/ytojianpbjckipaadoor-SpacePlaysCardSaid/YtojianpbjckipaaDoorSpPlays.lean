/-
  SpacePlays walked.
-/
import Derived.Test.YtojianpbjckipaaDoorSpZ
import Derived.Test.YtojianpbjckipaaDoorSpAsks
namespace Go.Proofs.YtojianpbjckipaaDoor
open Go Go.RowKit Sh

theorem and15_r (a : Int) : alB (bits .and .i64 a 15) = true := by
  have h : (BitVec.ofInt IntKind.i64.bits a &&& BitVec.ofInt IntKind.i64.bits 15).toNat ≤ 15 := by
    rw [BitVec.toNat_and]
    exact Nat.le_trans Nat.and_le_right (by decide)
  have h2 : 0 ≤ bits .and .i64 a 15 ∧ bits .and .i64 a 15 ≤ 15 := by
    unfold bits
    dsimp only
    generalize (BitVec.ofInt IntKind.i64.bits a &&& BitVec.ofInt IntKind.i64.bits 15).toNat = v at *
    simp only [IntKind.wrap, IntKind.bits, IntKind.signed]
    simp
    omega
  unfold alB
  simpa using h2
theorem off_new (E : Nat → Prop) (rd wx a b c d : Int) : OffS E (nsp rd wx a b c d) := by
  refine ⟨fun h => absurd rfl h, fun y hy => ?_, fun h => absurd rfl h, fun y hy => ?_, fun y hy => ?_⟩
  · cases hy
  · cases hy
  · simp only [nsp, List.mem_cons, List.not_mem_nil, or_false] at hy
    rcases hy with rfl | rfl | rfl | rfl <;> exact fun h => absurd rfl h
theorem act_sq (s : Sp) (r : Qp) : (actP s r).2.1.sq = r.sq := by
  unfold actP
  split
  · rfl
  · split
    · unfold bringP; split <;> rfl
    · split
      · split
        · rfl
        · unfold bringP; split <;> rfl
      · split
        · cases fnd r.p s.its with
          | none => rfl
          | some k => unfold replP; dsimp only; split <;> rfl
        · split
          · rfl
          · cases fnd r.p s.its with
            | none => unfold lookP; dsimp only; split; rfl; split <;> rfl
            | some k => unfold lookP; dsimp only; split <;> rfl
theorem do_head {s : Sp} {now : Int} {r : Rq} {x : Rp} {l : List Rp} (h : (doP s now r).2 = x :: l) : 1 ≤ x.sq := by
  cases hok : okDo s now r with
  | false => rw [do_no hok] at h; cases h
  | true =>
    have h1 : 1 ≤ r.sq := (mayR_h (okDo_h hok).2.1).sq1
    suffices hx : x.sq = r.sq by omega
    unfold doP at h
    rw [if_neg (by rw [hok]; decide)] at h
    dsimp only at h
    split at h
    · injection h with h _; rw [← h]; rfl
    · split at h
      · rename_i hs; injection h with h _; rw [← h]; exact hs.symm
      · unfold answP at h
        dsimp only at h
        split at h
        · injection h with h _; rw [← h]; exact act_sq _ _
        · injection h with h _; rw [← h]; exact act_sq _ _
theorem zSp_int {i : Nat} {k : IntKind} {n : Int} (h : zSpK[i]? = some (.int k n)) : n = 0 := by
  have hi : i < 25 := (List.getElem?_eq_some_iff.1 h).1
  rcases (show i = 0 ∨ i = 1 ∨ i = 2 ∨ i = 3 ∨ i = 4 ∨ i = 5 ∨ i = 6 ∨ i = 7 ∨ i = 8 ∨ i = 9 ∨ i = 10 ∨ i = 11 ∨ i = 12 ∨ i = 13 ∨ i = 14 ∨ i = 15 ∨ i = 16 ∨ i = 17 ∨ i = 18 ∨ i = 19 ∨ i = 20 ∨ i = 21 ∨ i = 22 ∨ i = 23 ∨ i = 24 by omega) with e | e | e | e | e | e | e | e | e | e | e | e | e | e | e | e | e | e | e | e | e | e | e | e | e <;> subst e <;> injection h with h <;> first | (injection h with _ h; exact h.symm) | (cases h)
/-- No row of replies that are told lies in a space's empty box. -/
theorem rowP_offZ {W : World} {b : Nat} {q : Option Addr} {R : List Rpv} (h : RowL W q 5 pv R) (hb : Blk W b 31 zSpK) (h1 : ∀ x l, R.map (·.r) = x :: l → 1 ≤ x.sq) : R ≠ [] → ∀ k, OB q k → ¬ (k = b) := fun hne k hk e => by
  obtain ⟨y, l, rfl⟩ : ∃ y l, R = y :: l := by cases R with | nil => exact absurd rfl hne | cons y l => exact ⟨y, l, rfl⟩
  obtain ⟨b', o, hp, _, r⟩ := h 0 y rfl
  obtain ⟨a, ha, rfl⟩ := hk
  rw [ha] at hp
  injection hp with hp
  subst hp
  dsimp only at e
  subst e
  have h2 := r 1 _ rfl
  rw [hb.cell] at h2
  have h3 := zSp_int h2
  have h4 := h1 y.r (l.map (·.r)) rfl
  omega
/-- Both spaces as they are kept: the program's in the block gs, the document's in gt. -/
structure PQ (w0 W : World) (gs gt : Nat) (x y : Spv) : Prop where
  bx : Blk W gs 31 (sv x)
  bt : Blk W gt 31 (sv y)
  sf : SF w0.heap.size W x
  mx : MayS x.sp
  ry : SpW W y
  oy : OffS (fun k => k = gs ∨ k = gt) y
  eq : y.sp = x.sp
  ne : gs ≠ gt
  gsl : w0.heap.size ≤ gs
  gtl : w0.heap.size ≤ gt
  bel : Below w0.heap.size w0 W
theorem PQ.w {w0 W : World} {gs gt : Nat} {x y : Spv} (h : PQ w0 W gs gt x y) : SpW W x := h.sf.w h.mx.small
theorem PQ.below {w0 W W' : World} {gs gt : Nat} {x y : Spv} (h : PQ w0 W gs gt x y) (hb : Below W.heap.size W W') : PQ w0 W' gs gt x y :=
  ⟨h.bx.below hb h.bx.lt, h.bt.below hb h.bt.lt, h.sf.below hb, h.mx, h.ry.below hb, h.oy, h.eq, h.ne, h.gsl, h.gtl, h.bel.trans (hb.mono h.bel.size)⟩
/-- What the program's Do leaves. -/
structure PR (w0 W : World) (x : Spv) (R : List Rpv) (q : Option Addr) (g : Nat) : Prop where
  box : Blk W g 31 (sv x)
  sf : SF w0.heap.size W x
  mx : MayS x.sp
  row : RowL W q 5 pv R
  ft : ∀ y ∈ R, FT W w0.heap.size y.p y.c y.r.t
  ge : w0.heap.size ≤ g
  bel : Below w0.heap.size w0 W
theorem PR.below {w0 W W' : World} {x : Spv} {R : List Rpv} {q : Option Addr} {g : Nat} (h : PR w0 W x R q g) (hb : Below W.heap.size W W') : PR w0 W' x R q g :=
  ⟨h.box.below hb h.box.lt, h.sf.below hb, h.mx, h.row.below hb, fun y hy => (h.ft y hy).below hb, h.ge, h.bel.trans (hb.mono h.bel.size)⟩
/-- What the document's Do leaves. -/
structure PT (E : Nat → Prop) (w0 W : World) (x : Spv) (R : List Rpv) (q : Option Addr) (g : Nat) : Prop where
  box : Blk W g 31 (sv x)
  rx : SpW W x
  off : OffS E x
  row : RowL W q 5 pv R
  tr : ∀ y ∈ R, TR W y.p y.r.t
  ge : w0.heap.size ≤ g
  bel : Below w0.heap.size w0 W
theorem PT.below {E : Nat → Prop} {w0 W W' : World} {x : Spv} {R : List Rpv} {q : Option Addr} {g : Nat} (h : PT E w0 W x R q g) (hb : Below W.heap.size W W') : PT E w0 W' x R q g :=
  ⟨h.box.below hb h.box.lt, h.rx.below hb, h.off, h.row.below hb, fun y hy => (h.tr y hy).below hb, h.ge, h.bel.trans (hb.mono h.bel.size)⟩
/-- Both are kept anew. -/
theorem PQ.next {w0 wr W1 W2 W W' W'' : World} {gs gt gx gy : Nat} {x y x' y' : Spv} {R R2 : List Rpv} {q q2 : Option Addr} (h : PQ w0 wr gs gt x y) (hx : PR wr W1 x' R q gx) (h12 : Below W1.heap.size W1 W2) (hy : PT (fun k => k = gs ∨ k = gt) W1 W2 y' R2 q2 gy) (h2 : Below W2.heap.size W2 W)
    (k1 : Kept (fun k => k = gs) W W') (b1 : Blk W' gs 31 (sv x')) (k2 : Kept (fun k => k = gt) W' W'') (b2 : Blk W'' gt 31 (sv y')) (he : y'.sp = x'.sp) : PQ w0 W'' gs gt x' y' := by
  have hW : Below wr.heap.size wr W := (hx.bel.trans (h12.mono hx.bel.size)).trans (h2.mono (Nat.le_trans hx.bel.size h12.size))
  have p := h.below hW
  have sx : SF w0.heap.size W x' := ((hx.sf.below h12).below h2).low h.bel.size
  have sx1 := sx.kept k1 p.bx
  have bt1 := p.bt.kept k1 (fun e => h.ne e.symm)
  have sx2 := sx1.kept k2 bt1
  have y1 := hy.rx.below h2
  have y2 := y1.keptF k1 (hy.off.mono fun k e => .inl e)
  have y3 := y2.keptF k2 (hy.off.mono fun k e => .inr e)
  have bb : Below w0.heap.size w0 W'' := below_one (below_one p.bel h.gsl k1) h.gtl k2
  exact ⟨b1.kept k2 h.ne, b2, sx2, hx.mx, y3, hy.off, he, h.ne, h.gsl, h.gtl, bb⟩
set_option maxRecDepth 100000 in
set_option maxHeartbeats 8000000 in
theorem splays_t (rd wx : Int) (A : Option Addr) (n c : Nat) (F : Nat → Av) (w : World) (hn : n ≤ 9223372036854775807) (hA : AW w A n F) (hu : UT w) :
    Calls Tryd.prog 3 #[.int .i64 rd, .int .i64 wx, .slice A n c] w fun e w' => e = .returned (.bool true) ∧ Below w.heap.size w w' := by
  have HA := Lib.hid hA; have HU := Lib.hid hu
  clear hA hu
  by_cases h80 : 80 < n
  · have e80 : (80 : Int) < (n : Int) := by omega
    go_enter Tryd.func3, Tryd.ntmps3
    go_upto_region 2 with (fail)
    have TD := Lib.hid (tolds_t w (HU.out.below (Below.refl w.heap.size w)))
    go_wp2_with fail
    refine TD.out.mono ?_
    rintro e wT ⟨rfl, bT⟩
    go_wp2_with fail
    go_ret
    exact ⟨rfl, ((Below.refl w.heap.size w)).trans (bT.mono ((Below.refl w.heap.size w)).size)⟩
  have e80 : ¬ (80 : Int) < (n : Int) := by omega
  have HN80 := Lib.hid (show n ≤ 80 by omega)
  clear h80
  go_enter Tryd.func3, Tryd.ntmps3
  go_upto_region 3 with (fail)
  clear e80
  go_wp2_with fail
  refine (New_t rd wx w).mono ?_
  rintro e w2 ⟨rfl, b2⟩
  have B2 := Lib.hid b2
  clear b2
  go_wp2_with fail
  refine (refNew_t rd wx w2).mono ?_
  rintro e w3 ⟨rfl, b3⟩
  have B3 := Lib.hid (B2.out.trans (b3.mono B2.out.size))
  obtain ⟨x0, hx0⟩ : ∃ x, nsp rd wx 0 1 2 3 = x := ⟨_, rfl⟩
  have P0 : x0.sp = newS rd wx := by rw [← hx0]; exact nsp_sp rd wx
  have hl0 : x0.last.length = 4 := by rw [← hx0]; rfl
  have MX0 := Lib.hid (show MayS x0.sp by rw [P0]; exact newS_may rd wx (and15_r rd) (and15_r wx))
  have SF0 := Lib.hid (fun (B : Nat) (W : World) => show SF B W x0 by rw [← hx0]; exact sf_new _ _ _ _ _ _ _ _)
  have OF0 := Lib.hid (fun (E : Nat → Prop) => show OffS E x0 by rw [← hx0]; exact off_new E _ _ _ _ _ _)
  have FX0 := Lib.hid (sv_size x0 hl0); have FO0 := Lib.hid (sv_one x0); have SL0 := Lib.hid (sv_len x0 hl0)
  have Z1 := Lib.hid ((Blk.new w3 31 zSp).alloc (.cells zSp.toArray 31))
  have Z2 := Lib.hid (Blk.new2 w3 (.cells zSp.toArray 31) 31 zSp)
  rw [hx0]
  clear b3 B2 hx0 hl0 P0
  have Z2' := Lib.hid (show Blk (((w3.alloc (.cells zSp.toArray 31)).alloc (.cells zSp.toArray 31)).setRow w3.heap.size (sv x0).toArray) (w3.heap.size + 1) 31 zSp from
    Z2.out.kept ((Kept.refl (fun b => b = w3.heap.size) _).setRowK (.inl rfl) _) (by omega))
  have PQ0 := Lib.hid (show PQ w ((((w3.alloc (.cells zSp.toArray 31)).alloc (.cells zSp.toArray 31)).setRow w3.heap.size (sv x0).toArray).setRow (w3.heap.size + 1) (sv x0).toArray) w3.heap.size (w3.heap.size + 1) x0 x0 from by
    have bs := B3.out.size
    have ba := (B3.out.alloc bs (.cells zSp.toArray 31)).alloc (by simp; omega) (.cells zSp.toArray 31)
    exact ⟨(Z1.out.setRow (sv x0)).kept ((Kept.refl (fun b => b = w3.heap.size + 1) _).setRowK (.inl rfl) _) (by omega), Z2'.out.setRow (sv x0), SF0.out _ _, MX0.out, (SF0.out 0 _).w MX0.out.small, OF0.out _, rfl, by omega, bs, by omega, below_setRow (below_setRow ba bs _) (by omega) _⟩)
  go_upto_region 4 with (first
    | ((with_reducible refine at_op (.store 31 (.tmp 7) (.tmp 21)) rfl ?_); go_must (refine store_blk 31 (.tmp 7) (.tmp 21) w3.heap.size 31 _ (sv x0) rfl rfl Z1.out SL0.out.symm FX0.out FO0.out rfl rfl ?_))
    | ((with_reducible refine at_op (.store 31 (.tmp 8) (.tmp 24)) rfl ?_); go_must (refine store_blk 31 (.tmp 8) (.tmp 24) (w3.heap.size + 1) 31 _ (sv x0) rfl rfl Z2'.out SL0.out.symm FX0.out FO0.out rfl rfl ?_)))
  change Code.wp _ _ _ _ ((((w3.alloc (.cells zSp.toArray 31)).alloc (.cells zSp.toArray 31)).setRow w3.heap.size (sv x0).toArray).setRow (w3.heap.size + 1) (sv x0).toArray)
  obtain ⟨V, hV⟩ : ∃ V, (((w3.alloc (.cells zSp.toArray 31)).alloc (.cells zSp.toArray 31)).setRow w3.heap.size (sv x0).toArray).setRow (w3.heap.size + 1) (sv x0).toArray = V := ⟨_, rfl⟩
  rw [hV] at PQ0 ⊢
  obtain ⟨gt, hgt⟩ : ∃ g, w3.heap.size + 1 = g := ⟨_, rfl⟩
  rw [hgt] at PQ0 ⊢
  obtain ⟨gs, hgs⟩ : ∃ g, w3.heap.size = g := ⟨_, rfl⟩
  rw [hgs] at PQ0 ⊢
  clear hV hgt hgs Z1 Z2 Z2' FX0 FO0 SL0 SF0 OF0 MX0 B3
  go_upto_region 6 with (fail)
  go_loopw [9, 10] (fun s t wr => ∃ (i : Nat) (now : Int) (x y : Spv), i ≤ n ∧ s = .int .i64 now ∧ t = .int .i64 (i : Int) ∧ now ≤ 20 * (i : Int) ∧ 0 ≤ now ∧ PQ w wr gs gt x y) (fun _ t _ => n - (intOf t).toNat)
  case atStart => exact ⟨0, 0, x0, x0, by omega, rfl, rfl, by omega, by omega, PQ0.out⟩
  case round =>
    clear PQ0
    obtain ⟨j, now, x, y, hj, rfl, rfl, hn20, hn0, pq⟩ := hrel
    have PX := Lib.hid pq; have HN20 := Lib.hid hn20
    clear pq
    by_cases hlt : j < n
    · obtain ⟨b, o, rfl, hbl, rg0, cd0⟩ := HA.out.read hlt
      have rg := rows_below rg0 PX.out.bel hbl
      have HBL := Lib.hid hbl
      have CD0 := Lib.hid cd0; have RG0 := Lib.hid rg0
      clear rg0 cd0
      have j1 : (j : Int) < (n : Int) := by omega
      have n1600 : now ≤ 1600 := by have := HN80.out; omega
      obtain ⟨z, hz⟩ : ∃ z, F j = z := ⟨_, rfl⟩
      have HRZ := Lib.hid (show RvW w z.r by rw [← hz]; exact HA.out.r j hlt)
      rw [hz] at rg CD0 RG0
      have FR := Lib.hid (rv_size z.r)
      have RG := Lib.hid rg
      have FW := Lib.hid (fewR_t z.r wr (HRZ.out.below PX.out.bel))
      obtain ⟨fb, hfb⟩ : ∃ b, fewR z.r = b := ⟨_, rfl⟩
      rw [hfb] at FW
      have HFB := Lib.hid hfb
      have HLT := Lib.hid hlt
      clear hz rg hbl hn20 hfb hlt
      go_wp2_with ((with_reducible refine at_op (.load 35 (.tmp 34)) rfl ?_); go_must (refine wpList_load_mid rfl 35 (.tmp 34) rfl b (o + j * 7) rfl (rv z.r) _ RG.out Tryd.underlying35 rfl FR.out ?_))
      refine FW.out.mono ?_
      rintro e w4 ⟨rfl, b4⟩
      have P4 := Lib.hid (PX.out.below b4)
      clear b4 PX RG FW
      cases fb with
      | false =>
        have TD := Lib.hid (tolds_t w4 (HU.out.below P4.out.bel))
        go_wp2_with fail
        refine TD.out.mono ?_
        rintro e wT ⟨rfl, bT⟩
        go_wp2_with fail
        go_ret
        exact ⟨rfl, (P4.out.bel).trans (bT.mono (P4.out.bel).size)⟩
      | true =>
        have HFY := Lib.hid (few_smallA HFB.out)
        obtain ⟨k, hk, hke⟩ := mod_s 20 (by decide) (by decide) z.d
        rw [show ((20 : Nat) : Int) = 20 from rfl] at hke
        have k1 : (k : Int) < 20 := by omega
        have HK20 := Lib.hid (show now + (k : Int) ≤ 20 * ((j + 1 : Nat) : Int) ∧ 0 ≤ now + (k : Int) from ⟨by have := HN20.out; omega, by omega⟩)
        have cd := (P4.out.bel.cell (p := ⟨b, o + j * 7 + 6, none⟩) HBL.out).trans CD0.out
        clear hk CD0 HFB
        go_upto_region 11 with (fail)
        clear cd
        obtain ⟨now', hnw⟩ : ∃ z, now + (k : Int) = z := ⟨_, rfl⟩
        rw [hnw] at HK20 ⊢
        clear hnw hke k1 hn0 HN20 n1600
        go_cut [11, 12] (fun s11 s12 wx => ∃ (x' : Spv) (R : List Rpv) (q : Option Addr) (d gx : Nat), s11 = .pointer (some ⟨gx, 0, none⟩) ∧ s12 = .slice q R.length d ∧ x'.sp = (doP x.sp now' z.r.r).1 ∧ R.map (·.r) = (doP x.sp now' z.r.r).2 ∧ PR w4 wx x' R q gx)
        case first =>
          obtain ⟨U, hU⟩ : ∃ U, w4.drew = U := ⟨_, rfl⟩
          have BU := Lib.hid (show Below w4.heap.size w4 U from by rw [← hU]; exact (Below.refl _ _).drew)
          have PU := Lib.hid (P4.out.below BU.out)
          have FXU := Lib.hid (sv_size x PU.out.w.l4)
          have SU := Lib.hid (fun (Y : World) (hb : Below U.heap.size U Y) => show Blk Y gs 31 (sv x) ∧ Y.rangeAt b (o + j * 7) (rv z.r) from
            ⟨PU.out.bx.below hb PU.out.bx.lt, rows_below (rows_below RG0.out PU.out.bel HBL.out) hb (Nat.lt_of_lt_of_le HBL.out PU.out.bel.size)⟩)
          have BR0 := Lib.hid (Below.refl U.heap.size U)
          have s0 := SU.out U BR0.out
          have DOU := Lib.hid (fun (Y : World) (hb : Below U.heap.size U Y) => DoM x now' z.r Y (PU.out.below hb).w PU.out.mx (HRZ.out.below (PU.out.below hb).bel) HFY.out.1 HFY.out.2 (HU.out.below (PU.out.below hb).bel) _ rfl)
          refine wp_region_held (S := fun Y => Blk Y gs 31 (sv x) ∧ Y.rangeAt b (o + j * 7) (rv z.r)) (by kernel_rfl) ?_
          change wpAnyH _ _ _ _ _ _ _ _ w4.drew
          rw [hU]
          clear hU
          refine wpAnyH_take (i := 0) (v := .agg (sv x).toArray) rfl (by kernel_rfl) (by kernel_rfl) (by kernel_rfl) (fun _ _ _ h => h) (yieldsIf_load_mid (by kernel_rfl) 31 (.tmp 7) rfl gs 0 (by go_simp) (sv x) _ (fun _ h => rows_of_blk h.1) Tryd.underlying31 rfl (FXU.out)) s0 ?_
          refine wpAnyH_take (i := 1) (v := ?_) rfl (by kernel_rfl) (by kernel_rfl) (by kernel_rfl) (fun _ _ _ h => h) (Or.inl ⟨by kernel_rfl, ?_⟩) s0 ?_
          rotate_left 1
          · (intro w hS; clear hS; go_simp; try (with_reducible rfl))
          refine wpAnyH_take (i := 2) (v := ?_) rfl (by kernel_rfl) (by kernel_rfl) (by kernel_rfl) (fun _ _ _ h => h) (Or.inl ⟨by kernel_rfl, ?_⟩) s0 ?_
          rotate_left 1
          · (intro w hS; clear hS; go_simp; try (with_reducible rfl))
          refine wpAnyH_take (i := 3) (v := ?_) rfl (by kernel_rfl) (by kernel_rfl) (by kernel_rfl) (fun _ _ _ h => h) (Or.inl ⟨by kernel_rfl, ?_⟩) s0 ?_
          rotate_left 1
          · (intro w hS; clear hS; go_simp; try (with_reducible rfl))
          refine wpAnyH_take (i := 4) (v := ?_) rfl (by kernel_rfl) (by kernel_rfl) (by kernel_rfl) (fun _ _ _ h => h) (Or.inl ⟨by kernel_rfl, ?_⟩) s0 ?_
          rotate_left 1
          · (intro w hS; clear hS; go_simp; try (with_reducible rfl))
          refine wpAnyH_take (i := 5) (v := ?_) rfl (by kernel_rfl) (by kernel_rfl) (by kernel_rfl) (fun _ _ _ h => h) (Or.inl ⟨by kernel_rfl, ?_⟩) s0 ?_
          rotate_left 1
          · (intro w hS; clear hS; go_simp; try (with_reducible rfl))
          refine wpAnyH_take (i := 6) (v := .agg (rv z.r).toArray) rfl (by kernel_rfl) (by kernel_rfl) (by kernel_rfl) (fun _ _ _ h => h) (yieldsIf_load_mid (by kernel_rfl) 35 (.tmp 55) rfl b (o + j * 7) (by go_simp) (rv z.r) _ (fun _ h => h.2) Tryd.underlying35 rfl (FR.out)) s0 ?_
          go_simp
          refine wpAnyH_ready (rs := [7, 11]) (by kernel_rfl) (by simp) ?_
          refine AllReadyH.cons rfl (fun K hK => ?_) ?_
          · skip
            go_simp
            refine (DOU.out U BR0.out).mono ?_
            rintro e w5 ⟨x', R, q, d, rfl, hx5, hR5, sf5, -, mx5, ow5, tr5, -, bb⟩
            have b6 := Lib.hid bb
            have b5 := Lib.hid (show Below U.heap.size U w5 from BR0.out.trans (bb.mono BR0.out.size))
            have HX5 := Lib.hid hx5; have HR5 := Lib.hid hR5; have MXA := Lib.hid mx5
            have SFA := Lib.hid (sf5.low (B' := w4.heap.size) (Nat.le_trans BU.out.size BR0.out.size))
            have RWA := Lib.hid ow5
            have TRA := Lib.hid (fun (v : Rpv) (hv : v ∈ R) => show FT w5 w4.heap.size v.p v.c v.r.t from (tr5 v hv).low (Nat.le_trans BU.out.size BR0.out.size))
            clear hx5 hR5 sf5 mx5 ow5 tr5 bb
            refine hK.out _ _ (SU.out _ b5.out) (fun _ => ?_)
            clear hK K
            refine wpAnyH_take (i := 8) (v := ?_) rfl (by kernel_rfl) (by kernel_rfl) (by kernel_rfl) (fun _ _ _ h => h) (Or.inl ⟨by kernel_rfl, ?_⟩) (SU.out _ b5.out) ?_
            rotate_left 1
            · (intro w hS; clear hS; go_simp; try (with_reducible rfl))
            refine wpAnyH_take (i := 9) (v := ?_) rfl (by kernel_rfl) (by kernel_rfl) (by kernel_rfl) (fun _ _ _ h => h) (Or.inl ⟨by kernel_rfl, ?_⟩) (SU.out _ b5.out) ?_
            rotate_left 1
            · (intro w hS; clear hS; go_simp; try (with_reducible rfl))
            refine wpAnyH_take (i := 10) (v := ?_) rfl (by kernel_rfl) (by kernel_rfl) (by kernel_rfl) (fun _ _ _ h => h) (Or.inl ⟨by kernel_rfl, ?_⟩) (SU.out _ b5.out) ?_
            rotate_left 1
            · (intro w hS; clear hS; go_simp; try (with_reducible rfl))
            refine wpAnyH_ready (rs := [11]) (by kernel_rfl) (by simp) ?_
            refine AllReadyH.cons rfl (fun K hK => ?_) AllReadyH.nil
            rw [if_pos (by kernel_rfl)]
            go_simp
            have BA := Lib.hid (b5.out.alloc b5.out.size (.cells zSp.toArray 31))
            have GZ := Lib.hid (Blk.new w5 31 zSp)
            have BZ := Lib.hid ((Below.refl (w5).heap.size w5).alloc (Nat.le_refl _) (.cells zSp.toArray 31))
            refine hK.out _ _ (SU.out _ BA.out) (fun _ => ?_)
            clear hK K
            obtain ⟨WA, hWA⟩ : ∃ V, (w5).alloc (.cells zSp.toArray 31) = V := ⟨_, rfl⟩
            change wpAnyH _ _ _ _ _ _ _ _ ((w5).alloc (.cells zSp.toArray 31))
            rw [hWA] at BA GZ BZ ⊢
            clear hWA
            have SF6 := Lib.hid (SFA.out.below BZ.out); have OW6 := Lib.hid (own_below RWA.out BZ.out); have TA6 := Lib.hid (fun (v : Rpv) (hv : v ∈ R) => (TRA.out v hv).below BZ.out)
            have FXE := Lib.hid (sv_size x' SF6.out.l4); have FOE := Lib.hid (sv_one x'); have LXE := Lib.hid (show (sv x').length = zSp.length from sv_len x' SF6.out.l4)
            have HGE := Lib.hid (show w4.heap.size ≤ w5.heap.size from by have h1 := BU.out.size; have h2 := b5.out.size; first | omega | (simp; omega))
            have HGU := Lib.hid (show U.heap.size ≤ w5.heap.size from by have h2 := b5.out.size; first | omega | (simp; omega))
            refine wpAnyH_ready (rs := [12]) (by kernel_rfl) (by simp) ?_
            refine AllReadyH.cons rfl (fun K hK => ?_) AllReadyH.nil
            rw [if_pos (by kernel_rfl)]
            refine wstore_part 31 (.tmp 11) (.tmp 58) (w5.heap.size) 0 31 [] zSp [] (sv x') rfl (by rw [List.nil_append, List.append_nil]; exact GZ.out) rfl LXE.out.symm FXE.out FOE.out rfl rfl ?_
            intro wz a1 a2 a3
            have RZ := Lib.hid (show Blk wz (w5.heap.size) 31 (sv x') by have := a1.out; rwa [List.nil_append, List.append_nil] at this)
            have KZ := a2.out.keptOne rfl
            have bz := Lib.hid (below_one BA.out HGU.out KZ)
            have PZ := Lib.hid (show PR w4 wz x' R q (w5.heap.size) from ⟨RZ.out, SF6.out.kept KZ GZ.out, MXA.out, RowL.of_own pv_len rfl (own_kept OW6.out KZ (fun k hk e => own_apart OW6.out GZ.out (by decide) (by rw [hk, e]))), fun v hv => own_kept (TA6.out v hv) KZ (fun k hk e => own_apart (TA6.out v hv) GZ.out (by decide) (by rw [hk, e])), HGE.out, BU.out.trans (bz.out.mono BU.out.size)⟩)
            refine hK.out _ _ (SU.out _ bz.out) (fun _ => ?_)
            clear hK K a1 a2 a3
            refine wpAnyH_take (i := 13) (v := ?_) rfl (by kernel_rfl) (by kernel_rfl) (by kernel_rfl) (fun _ _ _ h => h) (Or.inl ⟨by kernel_rfl, ?_⟩) (SU.out _ bz.out) ?_
            rotate_left 1
            · (intro w hS; clear hS; go_simp; try (with_reducible rfl))
            refine wpAnyH_done (by kernel_rfl) ?_ _
            go_simp
            go_wp2_with fail
            go_meet
            exact ⟨x', R, q, d, _, rfl, rfl, HX5.out, HR5.out, PZ.out⟩
          · refine AllReadyH.cons rfl (fun K hK => ?_) AllReadyH.nil
            go_simp
            have BA := Lib.hid (BR0.out.alloc BR0.out.size (.cells zSp.toArray 31))
            have GZ := Lib.hid (Blk.new U 31 zSp)
            have BZ := Lib.hid ((Below.refl (U).heap.size U).alloc (Nat.le_refl _) (.cells zSp.toArray 31))
            refine hK.out _ _ (SU.out _ BA.out) (fun _ => ?_)
            clear hK K
            obtain ⟨WA, hWA⟩ : ∃ V, (U).alloc (.cells zSp.toArray 31) = V := ⟨_, rfl⟩
            change wpAnyH _ _ _ _ _ _ _ _ ((U).alloc (.cells zSp.toArray 31))
            rw [hWA] at BA GZ BZ ⊢
            clear hWA
            refine wpAnyH_ready (rs := [7]) (by kernel_rfl) (by simp) ?_
            refine AllReadyH.cons rfl (fun K hK => ?_) AllReadyH.nil
            rw [if_pos (by kernel_rfl)]
            go_simp
            refine (DOU.out WA BA.out).mono ?_
            rintro e w5 ⟨x', R, q, d, rfl, hx5, hR5, sf5, -, mx5, ow5, tr5, -, bb⟩
            have b6 := Lib.hid bb
            have b5 := Lib.hid (show Below U.heap.size U w5 from BA.out.trans (bb.mono BA.out.size))
            have HX5 := Lib.hid hx5; have HR5 := Lib.hid hR5; have MXA := Lib.hid mx5
            have SFA := Lib.hid (sf5.low (B' := w4.heap.size) (Nat.le_trans BU.out.size BA.out.size))
            have RWA := Lib.hid ow5
            have TRA := Lib.hid (fun (v : Rpv) (hv : v ∈ R) => show FT w5 w4.heap.size v.p v.c v.r.t from (tr5 v hv).low (Nat.le_trans BU.out.size BA.out.size))
            clear hx5 hR5 sf5 mx5 ow5 tr5 bb
            have HGX := Lib.hid (show U.heap.size < WA.heap.size from GZ.out.lt)
            have GZ2 := Lib.hid (GZ.out.below b6.out GZ.out.lt)
            refine hK.out _ _ (SU.out _ b5.out) (fun _ => ?_)
            clear hK K GZ
            have SF6 := SFA; have OW6 := RWA; have TA6 := TRA; have GZ := GZ2
            clear SFA RWA TRA GZ2
            refine wpAnyH_take (i := 8) (v := ?_) rfl (by kernel_rfl) (by kernel_rfl) (by kernel_rfl) (fun _ _ _ h => h) (Or.inl ⟨by kernel_rfl, ?_⟩) (SU.out _ b5.out) ?_
            rotate_left 1
            · (intro w hS; clear hS; go_simp; try (with_reducible rfl))
            refine wpAnyH_take (i := 9) (v := ?_) rfl (by kernel_rfl) (by kernel_rfl) (by kernel_rfl) (fun _ _ _ h => h) (Or.inl ⟨by kernel_rfl, ?_⟩) (SU.out _ b5.out) ?_
            rotate_left 1
            · (intro w hS; clear hS; go_simp; try (with_reducible rfl))
            refine wpAnyH_take (i := 10) (v := ?_) rfl (by kernel_rfl) (by kernel_rfl) (by kernel_rfl) (fun _ _ _ h => h) (Or.inl ⟨by kernel_rfl, ?_⟩) (SU.out _ b5.out) ?_
            rotate_left 1
            · (intro w hS; clear hS; go_simp; try (with_reducible rfl))
            have FXE := Lib.hid (sv_size x' SF6.out.l4); have FOE := Lib.hid (sv_one x'); have LXE := Lib.hid (show (sv x').length = zSp.length from sv_len x' SF6.out.l4)
            have HGE := Lib.hid (show w4.heap.size ≤ U.heap.size from by have h1 := BU.out.size; have h2 := b5.out.size; first | omega | (simp; omega))
            have HGU := Lib.hid (show U.heap.size ≤ U.heap.size from by have h2 := b5.out.size; first | omega | (simp; omega))
            refine wpAnyH_ready (rs := [12]) (by kernel_rfl) (by simp) ?_
            refine AllReadyH.cons rfl (fun K hK => ?_) AllReadyH.nil
            rw [if_pos (by kernel_rfl)]
            refine wstore_part 31 (.tmp 11) (.tmp 58) (U.heap.size) 0 31 [] zSp [] (sv x') rfl (by rw [List.nil_append, List.append_nil]; exact GZ.out) rfl LXE.out.symm FXE.out FOE.out rfl rfl ?_
            intro wz a1 a2 a3
            have RZ := Lib.hid (show Blk wz (U.heap.size) 31 (sv x') by have := a1.out; rwa [List.nil_append, List.append_nil] at this)
            have KZ := a2.out.keptOne rfl
            have bz := Lib.hid (below_one b5.out HGU.out KZ)
            have PZ := Lib.hid (show PR w4 wz x' R q (U.heap.size) from ⟨RZ.out, SF6.out.kept KZ GZ.out, MXA.out, RowL.of_own pv_len rfl (own_kept OW6.out KZ (fun k hk e => own_apart OW6.out GZ.out (by decide) (by rw [hk, e]))), fun v hv => own_kept (TA6.out v hv) KZ (fun k hk e => own_apart (TA6.out v hv) GZ.out (by decide) (by rw [hk, e])), HGE.out, BU.out.trans (bz.out.mono BU.out.size)⟩)
            refine hK.out _ _ (SU.out _ bz.out) (fun _ => ?_)
            clear hK K a1 a2 a3
            refine wpAnyH_take (i := 13) (v := ?_) rfl (by kernel_rfl) (by kernel_rfl) (by kernel_rfl) (fun _ _ _ h => h) (Or.inl ⟨by kernel_rfl, ?_⟩) (SU.out _ bz.out) ?_
            rotate_left 1
            · (intro w hS; clear hS; go_simp; try (with_reducible rfl))
            refine wpAnyH_done (by kernel_rfl) ?_ _
            go_simp
            go_wp2_with fail
            go_meet
            exact ⟨x', R, q, d, _, rfl, rfl, HX5.out, HR5.out, PZ.out⟩
        case rest =>
          obtain ⟨x', R, q, d, gx, rfl, rfl, hx5, hR5, pr⟩ := hcut
          have PRX := Lib.hid pr; have HX5 := Lib.hid hx5; have HR5 := Lib.hid hR5
          obtain ⟨w5, hw5⟩ : ∃ W, wc = W := ⟨_, rfl⟩
          rw [hw5] at PRX ⊢
          have P5 := Lib.hid (P4.out.below PRX.out.bel)
          clear pr hx5 hR5 hw5
          go_upto_region 12 with (fail)
          go_cut [13, 14] (fun s13 s14 wx => ∃ (y' : Spv) (R2 : List Rpv) (q2 : Option Addr) (d2 gy : Nat), s13 = .pointer (some ⟨gy, 0, none⟩) ∧ s14 = .slice q2 R2.length d2 ∧ y'.sp = (doP y.sp now' z.r.r).1 ∧ R2.map (·.r) = (doP y.sp now' z.r.r).2 ∧ PT (fun k => k = gs ∨ k = gt) w5 wx y' R2 q2 gy)
          case first =>
            obtain ⟨U, hU⟩ : ∃ U, w5.drew = U := ⟨_, rfl⟩
            have BU := Lib.hid (show Below w5.heap.size w5 U from by rw [← hU]; exact (Below.refl _ _).drew)
            have PU := Lib.hid (P5.out.below BU.out)
            have FXU := Lib.hid (sv_size y PU.out.ry.l4)
            have SU := Lib.hid (fun (Y : World) (hb : Below U.heap.size U Y) => show Blk Y gt 31 (sv y) ∧ Y.rangeAt b (o + j * 7) (rv z.r) from
              ⟨PU.out.bt.below hb PU.out.bt.lt, rows_below (rows_below RG0.out PU.out.bel HBL.out) hb (Nat.lt_of_lt_of_le HBL.out PU.out.bel.size)⟩)
            have BR0 := Lib.hid (Below.refl U.heap.size U)
            have s0 := SU.out U BR0.out
            have hF : ∀ k, (k = gs ∨ k = gt) → w.heap.size ≤ k := fun k e => by
              have h1 := P5.out.gsl; have h2 := P5.out.gtl
              rcases e with e | e <;> omega
            have DOU := Lib.hid (fun (Y : World) (hb : Below U.heap.size U Y) => refDoE_t (E := fun k => k = gs ∨ k = gt) y now' z.r Y (PU.out.ry.below hb) (HRZ.out.below (PU.out.below hb).bel) PU.out.oy ((tr_fl HRZ.out.p HRZ.out.n).offNew hF) ((tr_fl HRZ.out.t HRZ.out.m).offNew hF) (fun k e => by
              have h1 := (PU.out.below hb).bx.lt; have h2 := (PU.out.below hb).bt.lt
              rcases e with e | e <;> omega))
            clear hF
            refine wp_region_held (S := fun Y => Blk Y gt 31 (sv y) ∧ Y.rangeAt b (o + j * 7) (rv z.r)) (by kernel_rfl) ?_
            change wpAnyH _ _ _ _ _ _ _ _ w5.drew
            rw [hU]
            clear hU
            refine wpAnyH_take (i := 0) (v := .agg (sv y).toArray) rfl (by kernel_rfl) (by kernel_rfl) (by kernel_rfl) (fun _ _ _ h => h) (yieldsIf_load_mid (by kernel_rfl) 31 (.tmp 8) rfl gt 0 (by go_simp) (sv y) _ (fun _ h => rows_of_blk h.1) Tryd.underlying31 rfl (FXU.out)) s0 ?_
            refine wpAnyH_take (i := 1) (v := ?_) rfl (by kernel_rfl) (by kernel_rfl) (by kernel_rfl) (fun _ _ _ h => h) (Or.inl ⟨by kernel_rfl, ?_⟩) s0 ?_
            rotate_left 1
            · (intro w hS; clear hS; go_simp; try (with_reducible rfl))
            refine wpAnyH_take (i := 2) (v := ?_) rfl (by kernel_rfl) (by kernel_rfl) (by kernel_rfl) (fun _ _ _ h => h) (Or.inl ⟨by kernel_rfl, ?_⟩) s0 ?_
            rotate_left 1
            · (intro w hS; clear hS; go_simp; try (with_reducible rfl))
            refine wpAnyH_take (i := 3) (v := ?_) rfl (by kernel_rfl) (by kernel_rfl) (by kernel_rfl) (fun _ _ _ h => h) (Or.inl ⟨by kernel_rfl, ?_⟩) s0 ?_
            rotate_left 1
            · (intro w hS; clear hS; go_simp; try (with_reducible rfl))
            refine wpAnyH_take (i := 4) (v := ?_) rfl (by kernel_rfl) (by kernel_rfl) (by kernel_rfl) (fun _ _ _ h => h) (Or.inl ⟨by kernel_rfl, ?_⟩) s0 ?_
            rotate_left 1
            · (intro w hS; clear hS; go_simp; try (with_reducible rfl))
            refine wpAnyH_take (i := 5) (v := ?_) rfl (by kernel_rfl) (by kernel_rfl) (by kernel_rfl) (fun _ _ _ h => h) (Or.inl ⟨by kernel_rfl, ?_⟩) s0 ?_
            rotate_left 1
            · (intro w hS; clear hS; go_simp; try (with_reducible rfl))
            refine wpAnyH_take (i := 6) (v := .agg (rv z.r).toArray) rfl (by kernel_rfl) (by kernel_rfl) (by kernel_rfl) (fun _ _ _ h => h) (yieldsIf_load_mid (by kernel_rfl) 35 (.tmp 66) rfl b (o + j * 7) (by go_simp) (rv z.r) _ (fun _ h => h.2) Tryd.underlying35 rfl (FR.out)) s0 ?_
            go_simp
            refine wpAnyH_ready (rs := [7, 11]) (by kernel_rfl) (by simp) ?_
            refine AllReadyH.cons rfl (fun K hK => ?_) ?_
            · skip
              go_simp
              refine (DOU.out U BR0.out).mono ?_
              rintro e w8 ⟨y', R2, q2, d2, rfl, hy5, hR5, sw5, rw5, tr5, of5, bb⟩
              have b6 := Lib.hid bb
              have b5 := Lib.hid (show Below U.heap.size U w8 from BR0.out.trans (bb.mono BR0.out.size))
              have HY5 := Lib.hid hy5; have HS5 := Lib.hid hR5; have OFA := Lib.hid of5; have SWA := Lib.hid sw5; have RWA := Lib.hid rw5; have TRA := Lib.hid tr5
              have MYA := Lib.hid (show MayS y'.sp by rw [hy5, P5.out.eq]; exact (do_ok P5.out.mx now' z.r.r).1)
              clear hy5 hR5 sw5 rw5 tr5 of5 bb
              refine hK.out _ _ (SU.out _ b5.out) (fun _ => ?_)
              clear hK K
              refine wpAnyH_take (i := 8) (v := ?_) rfl (by kernel_rfl) (by kernel_rfl) (by kernel_rfl) (fun _ _ _ h => h) (Or.inl ⟨by kernel_rfl, ?_⟩) (SU.out _ b5.out) ?_
              rotate_left 1
              · (intro w hS; clear hS; go_simp; try (with_reducible rfl))
              refine wpAnyH_take (i := 9) (v := ?_) rfl (by kernel_rfl) (by kernel_rfl) (by kernel_rfl) (fun _ _ _ h => h) (Or.inl ⟨by kernel_rfl, ?_⟩) (SU.out _ b5.out) ?_
              rotate_left 1
              · (intro w hS; clear hS; go_simp; try (with_reducible rfl))
              refine wpAnyH_take (i := 10) (v := ?_) rfl (by kernel_rfl) (by kernel_rfl) (by kernel_rfl) (fun _ _ _ h => h) (Or.inl ⟨by kernel_rfl, ?_⟩) (SU.out _ b5.out) ?_
              rotate_left 1
              · (intro w hS; clear hS; go_simp; try (with_reducible rfl))
              refine wpAnyH_ready (rs := [11]) (by kernel_rfl) (by simp) ?_
              refine AllReadyH.cons rfl (fun K hK => ?_) AllReadyH.nil
              rw [if_pos (by kernel_rfl)]
              go_simp
              have BA := Lib.hid (b5.out.alloc b5.out.size (.cells zSpK.toArray 31))
              have GZ := Lib.hid (Blk.new w8 31 zSpK)
              have BZ := Lib.hid ((Below.refl (w8).heap.size w8).alloc (Nat.le_refl _) (.cells zSpK.toArray 31))
              refine hK.out _ _ (SU.out _ BA.out) (fun _ => ?_)
              clear hK K
              obtain ⟨WA, hWA⟩ : ∃ V, (w8).alloc (.cells zSpK.toArray 31) = V := ⟨_, rfl⟩
              change wpAnyH _ _ _ _ _ _ _ _ ((w8).alloc (.cells zSpK.toArray 31))
              rw [hWA] at BA GZ BZ ⊢
              clear hWA
              have SW6 := Lib.hid (SWA.out.below BZ.out); have OW6 := Lib.hid (RWA.out.below BZ.out); have TA6 := Lib.hid (fun (v : Rpv) (hv : v ∈ R2) => (TRA.out v hv).below BZ.out)
              have FXE := Lib.hid (sv_size y' SW6.out.l4); have FOE := Lib.hid (sv_one y'); have LXE := Lib.hid (show (sv y').length = zSpK.length from sv_len y' SW6.out.l4)
              have HGE := Lib.hid (show w5.heap.size ≤ w8.heap.size from by have h1 := BU.out.size; have h2 := b5.out.size; first | omega | (simp; omega))
              have HGU := Lib.hid (show U.heap.size ≤ w8.heap.size from by have h2 := b5.out.size; first | omega | (simp; omega))
              refine wpAnyH_ready (rs := [12]) (by kernel_rfl) (by simp) ?_
              refine AllReadyH.cons rfl (fun K hK => ?_) AllReadyH.nil
              rw [if_pos (by kernel_rfl)]
              refine wstore_part 31 (.tmp 13) (.tmp 69) (w8.heap.size) 0 31 [] zSpK [] (sv y') rfl (by rw [List.nil_append, List.append_nil]; exact GZ.out) rfl LXE.out.symm FXE.out FOE.out rfl rfl ?_
              intro wz a1 a2 a3
              have RZ := Lib.hid (show Blk wz (w8.heap.size) 31 (sv y') by have := a1.out; rwa [List.nil_append, List.append_nil] at this)
              have KZ := a2.out.keptOne rfl
              have bz := Lib.hid (below_one BA.out HGU.out KZ)
              have PZ := Lib.hid (show PT (fun k => k = gs ∨ k = gt) w5 wz y' R2 q2 (w8.heap.size) from ⟨RZ.out, SW6.out.keptF KZ (SW6.out.offZ GZ.out MYA.out), OFA.out, OW6.out.keptF KZ (rowP_offZ OW6.out GZ.out (fun a l e => do_head (HS5.out.symm.trans e))), fun v hv => (TA6.out v hv).keptF KZ ((TA6.out v hv).offZ GZ.out), HGE.out, BU.out.trans (bz.out.mono BU.out.size)⟩)
              refine hK.out _ _ (SU.out _ bz.out) (fun _ => ?_)
              clear hK K a1 a2 a3
              refine wpAnyH_take (i := 13) (v := ?_) rfl (by kernel_rfl) (by kernel_rfl) (by kernel_rfl) (fun _ _ _ h => h) (Or.inl ⟨by kernel_rfl, ?_⟩) (SU.out _ bz.out) ?_
              rotate_left 1
              · (intro w hS; clear hS; go_simp; try (with_reducible rfl))
              refine wpAnyH_done (by kernel_rfl) ?_ _
              go_simp
              go_wp2_with fail
              go_meet
              exact ⟨y', R2, q2, d2, _, rfl, rfl, HY5.out, HS5.out, PZ.out⟩
            · refine AllReadyH.cons rfl (fun K hK => ?_) AllReadyH.nil
              go_simp
              have BA := Lib.hid (BR0.out.alloc BR0.out.size (.cells zSpK.toArray 31))
              have GZ := Lib.hid (Blk.new U 31 zSpK)
              have BZ := Lib.hid ((Below.refl (U).heap.size U).alloc (Nat.le_refl _) (.cells zSpK.toArray 31))
              refine hK.out _ _ (SU.out _ BA.out) (fun _ => ?_)
              clear hK K
              obtain ⟨WA, hWA⟩ : ∃ V, (U).alloc (.cells zSpK.toArray 31) = V := ⟨_, rfl⟩
              change wpAnyH _ _ _ _ _ _ _ _ ((U).alloc (.cells zSpK.toArray 31))
              rw [hWA] at BA GZ BZ ⊢
              clear hWA
              refine wpAnyH_ready (rs := [7]) (by kernel_rfl) (by simp) ?_
              refine AllReadyH.cons rfl (fun K hK => ?_) AllReadyH.nil
              rw [if_pos (by kernel_rfl)]
              go_simp
              refine (DOU.out WA BA.out).mono ?_
              rintro e w8 ⟨y', R2, q2, d2, rfl, hy5, hR5, sw5, rw5, tr5, of5, bb⟩
              have b6 := Lib.hid bb
              have b5 := Lib.hid (show Below U.heap.size U w8 from BA.out.trans (bb.mono BA.out.size))
              have HY5 := Lib.hid hy5; have HS5 := Lib.hid hR5; have OFA := Lib.hid of5; have SWA := Lib.hid sw5; have RWA := Lib.hid rw5; have TRA := Lib.hid tr5
              have MYA := Lib.hid (show MayS y'.sp by rw [hy5, P5.out.eq]; exact (do_ok P5.out.mx now' z.r.r).1)
              clear hy5 hR5 sw5 rw5 tr5 of5 bb
              have HGX := Lib.hid (show U.heap.size < WA.heap.size from GZ.out.lt)
              have GZ2 := Lib.hid (GZ.out.below b6.out GZ.out.lt)
              refine hK.out _ _ (SU.out _ b5.out) (fun _ => ?_)
              clear hK K GZ
              have SW6 := SWA; have OW6 := RWA; have TA6 := TRA; have GZ := GZ2
              clear SWA RWA TRA GZ2
              refine wpAnyH_take (i := 8) (v := ?_) rfl (by kernel_rfl) (by kernel_rfl) (by kernel_rfl) (fun _ _ _ h => h) (Or.inl ⟨by kernel_rfl, ?_⟩) (SU.out _ b5.out) ?_
              rotate_left 1
              · (intro w hS; clear hS; go_simp; try (with_reducible rfl))
              refine wpAnyH_take (i := 9) (v := ?_) rfl (by kernel_rfl) (by kernel_rfl) (by kernel_rfl) (fun _ _ _ h => h) (Or.inl ⟨by kernel_rfl, ?_⟩) (SU.out _ b5.out) ?_
              rotate_left 1
              · (intro w hS; clear hS; go_simp; try (with_reducible rfl))
              refine wpAnyH_take (i := 10) (v := ?_) rfl (by kernel_rfl) (by kernel_rfl) (by kernel_rfl) (fun _ _ _ h => h) (Or.inl ⟨by kernel_rfl, ?_⟩) (SU.out _ b5.out) ?_
              rotate_left 1
              · (intro w hS; clear hS; go_simp; try (with_reducible rfl))
              have FXE := Lib.hid (sv_size y' SW6.out.l4); have FOE := Lib.hid (sv_one y'); have LXE := Lib.hid (show (sv y').length = zSpK.length from sv_len y' SW6.out.l4)
              have HGE := Lib.hid (show w5.heap.size ≤ U.heap.size from by have h1 := BU.out.size; have h2 := b5.out.size; first | omega | (simp; omega))
              have HGU := Lib.hid (show U.heap.size ≤ U.heap.size from by have h2 := b5.out.size; first | omega | (simp; omega))
              refine wpAnyH_ready (rs := [12]) (by kernel_rfl) (by simp) ?_
              refine AllReadyH.cons rfl (fun K hK => ?_) AllReadyH.nil
              rw [if_pos (by kernel_rfl)]
              refine wstore_part 31 (.tmp 13) (.tmp 69) (U.heap.size) 0 31 [] zSpK [] (sv y') rfl (by rw [List.nil_append, List.append_nil]; exact GZ.out) rfl LXE.out.symm FXE.out FOE.out rfl rfl ?_
              intro wz a1 a2 a3
              have RZ := Lib.hid (show Blk wz (U.heap.size) 31 (sv y') by have := a1.out; rwa [List.nil_append, List.append_nil] at this)
              have KZ := a2.out.keptOne rfl
              have bz := Lib.hid (below_one b5.out HGU.out KZ)
              have PZ := Lib.hid (show PT (fun k => k = gs ∨ k = gt) w5 wz y' R2 q2 (U.heap.size) from ⟨RZ.out, SW6.out.keptF KZ (SW6.out.offZ GZ.out MYA.out), OFA.out, OW6.out.keptF KZ (rowP_offZ OW6.out GZ.out (fun a l e => do_head (HS5.out.symm.trans e))), fun v hv => (TA6.out v hv).keptF KZ ((TA6.out v hv).offZ GZ.out), HGE.out, BU.out.trans (bz.out.mono BU.out.size)⟩)
              refine hK.out _ _ (SU.out _ bz.out) (fun _ => ?_)
              clear hK K a1 a2 a3
              refine wpAnyH_take (i := 13) (v := ?_) rfl (by kernel_rfl) (by kernel_rfl) (by kernel_rfl) (fun _ _ _ h => h) (Or.inl ⟨by kernel_rfl, ?_⟩) (SU.out _ bz.out) ?_
              rotate_left 1
              · (intro w hS; clear hS; go_simp; try (with_reducible rfl))
              refine wpAnyH_done (by kernel_rfl) ?_ _
              go_simp
              go_wp2_with fail
              go_meet
              exact ⟨y', R2, q2, d2, _, rfl, rfl, HY5.out, HS5.out, PZ.out⟩
          case rest =>
            obtain ⟨y', R2, q2, d2, gy, rfl, rfl, hy5, hS5, pt⟩ := hcut
            have PTY := Lib.hid pt
            have HEQ := Lib.hid (show y'.sp = x'.sp from by rw [hy5, P4.out.eq]; exact HX5.out.symm)
            have ER := Lib.hid (show R2.map (·.r) = R.map (·.r) from by rw [hS5, P4.out.eq]; exact HR5.out.symm)
            obtain ⟨w8, hw8⟩ : ∃ W, wc = W := ⟨_, rfl⟩
            rw [hw8] at PTY ⊢
            clear pt hy5 hS5 hw8
            have PR8 := Lib.hid (PRX.out.below PTY.out.bel)
            have TB2 := Lib.hid PTY.out.tr
            have TA2 := Lib.hid (fun (v : Rpv) (hv : v ∈ R) => show TR w8 v.p v.r.t from (PR8.out.ft v hv).tr (by
              have h : v.r ∈ R2.map (·.r) := by rw [ER.out]; exact List.mem_map_of_mem hv
              obtain ⟨v2, hv2, e⟩ := List.mem_map.1 h
              rw [← e]
              exact (TB2.out v2 hv2).n))
            have LR := Lib.hid (show R.length ≤ 1001 from by
              have h := do_len (s := x.sp) (by have := P4.out.mx.wl; omega) now' z.r.r
              rw [← HR5.out, List.length_map] at h
              exact h)
            have RR := Lib.hid (refSameReplies_eq R R2 q q2 d d2 w8 PR8.out.row PTY.out.row TA2.out TB2.out LR.out ER.out)
            go_wp2_with fail
            refine RR.out.mono ?_
            rintro e w9 ⟨rfl, b9⟩
            have PR9 := Lib.hid (PR8.out.below b9); have PT9 := Lib.hid (PTY.out.below b9); have B9 := Lib.hid b9
            have FX := Lib.hid (sv_size x' PR9.out.sf.l4); have FY := Lib.hid (sv_size y' PT9.out.rx.l4)
            have SG := Lib.hid (refSameSpace_t x' y' w9 (PR9.out.sf.w PR9.out.mx.small) PT9.out.rx)
            rw [spS_iff.2 HEQ.out.symm] at SG
            clear b9 RR TA2 TB2 LR
            go_wp2_with (first
              | ((with_reducible refine load_blk_gdO 76 31 (.tmp 11) gx 31 (sv x') _ ?_ ?_ rfl ?_ Tryd.underlying31 ?_ ?_ ?_ ?_); exact rfl; kernel_rfl; exact PR9.out.box; exact rfl; exact FX.out; exact rfl)
              | ((with_reducible refine load_blk_gdO 77 31 (.tmp 13) gy 31 (sv y') _ ?_ ?_ rfl ?_ Tryd.underlying31 ?_ ?_ ?_ ?_); exact rfl; kernel_rfl; exact PT9.out.box; exact rfl; exact FY.out; exact rfl))
            refine SG.out.mono ?_
            rintro e w10 ⟨rfl, b10⟩
            have PRa := Lib.hid (PR9.out.below b10); have PTa := Lib.hid (PT9.out.below b10); have Ba := Lib.hid (B9.out.trans (b10.mono B9.out.size))
            clear b10 SG PR9 PT9 B9
            go_upto_region 15 with (fail)
            obtain ⟨U, hU⟩ : ∃ U, w10.drew = U := ⟨_, rfl⟩
            have BU := Lib.hid (show Below w10.heap.size w10 U from by rw [← hU]; exact (Below.refl _ _).drew)
            have PRb := Lib.hid (PRa.out.below BU.out); have PTb := Lib.hid (PTa.out.below BU.out)
            have BUw := Lib.hid (show Below w8.heap.size w8 U from Ba.out.trans (BU.out.mono Ba.out.size))
            have PQU := Lib.hid (((P4.out.below PRX.out.bel).below PTY.out.bel).below BUw.out)
            have FOX := Lib.hid (sv_one x'); have FOY := Lib.hid (sv_one y')
            have LXX := Lib.hid (show (sv x).length = (sv x').length from (sv_len x PQU.out.w.l4).trans (sv_len x' PRb.out.sf.l4).symm)
            have LYY := Lib.hid (show (sv y).length = (sv y').length from (sv_len y PQU.out.ry.l4).trans (sv_len y' PTb.out.rx.l4).symm)
            have NGX := Lib.hid (show gx ≠ gs ∧ gx ≠ gt ∧ gy ≠ gs ∧ gy ≠ gt from by
              have h1 := P4.out.bx.lt; have h2 := P4.out.bt.lt; have h3 := PRX.out.ge; have h4 := PTY.out.ge; have h5 := PRX.out.bel.size
              omega)
            have s0 : Blk U gx 31 (sv x') ∧ Blk U gy 31 (sv y') := ⟨PRb.out.box, PTb.out.box⟩
            refine wp_region_held (S := fun Y => Blk Y gx 31 (sv x') ∧ Blk Y gy 31 (sv y')) (by kernel_rfl) ?_
            change wpAnyH _ _ _ _ _ _ _ _ w10.drew
            rw [hU]
            clear hU
            refine wpAnyH_take (i := 0) (v := .agg (sv x').toArray) rfl (by kernel_rfl) (by kernel_rfl) (by kernel_rfl) (fun _ _ _ h => h) (yieldsIf_load_mid (by kernel_rfl) 31 (.tmp 11) rfl gx 0 (by go_simp) (sv x') _ (fun _ h => rows_of_blk h.1) Tryd.underlying31 rfl (FX.out)) s0 ?_
            refine wpAnyH_take (i := 1) (v := .agg (sv y').toArray) rfl (by kernel_rfl) (by kernel_rfl) (by kernel_rfl) (fun _ _ _ h => h) (yieldsIf_load_mid (by kernel_rfl) 31 (.tmp 13) rfl gy 0 (by go_simp) (sv y') _ (fun _ h => rows_of_blk h.2) Tryd.underlying31 rfl (FY.out)) s0 ?_
            go_simp
            refine wpAnyH_ready (rs := [2]) (by kernel_rfl) (by simp) ?_
            refine AllReadyH.cons rfl (fun K hK => ?_) AllReadyH.nil
            rw [if_pos (by kernel_rfl)]
            refine wstore_part 31 (.tmp 7) (.tmp 81) gs 0 31 [] (sv x) [] (sv x') rfl (by rw [List.nil_append, List.append_nil]; exact PQU.out.bx) rfl LXX.out FX.out FOX.out rfl rfl ?_
            intro wz a1 a2 a3
            have RZ := Lib.hid (show Blk wz gs 31 (sv x') by have := a1.out; rwa [List.nil_append, List.append_nil] at this)
            have KZ := Lib.hid (a2.out.keptOne rfl)
            have s1 : Blk wz gx 31 (sv x') ∧ Blk wz gy 31 (sv y') := ⟨s0.1.kept KZ.out NGX.out.1, s0.2.kept KZ.out NGX.out.2.2.1⟩
            have BT2 := Lib.hid (PQU.out.bt.kept KZ.out (fun e => PQU.out.ne e.symm))
            refine hK.out _ _ s1 (fun _ => ?_)
            clear hK K a1 a2 a3
            refine wpAnyH_ready (rs := [3]) (by kernel_rfl) (by simp) ?_
            refine AllReadyH.cons rfl (fun K hK => ?_) AllReadyH.nil
            rw [if_pos (by kernel_rfl)]
            refine wstore_part 31 (.tmp 8) (.tmp 82) gt 0 31 [] (sv y) [] (sv y') rfl (by rw [List.nil_append, List.append_nil]; exact BT2.out) rfl LYY.out FY.out FOY.out rfl rfl ?_
            intro wy a1 a2 a3
            have RY := Lib.hid (show Blk wy gt 31 (sv y') by have := a1.out; rwa [List.nil_append, List.append_nil] at this)
            have KY := Lib.hid (a2.out.keptOne rfl)
            have PQN := Lib.hid (P4.out.next PRX.out PTY.out.bel PTY.out BUw.out KZ.out RZ.out KY.out RY.out HEQ.out)
            refine hK.out _ _ ⟨s1.1.kept KY.out NGX.out.2.1, s1.2.kept KY.out NGX.out.2.2.2⟩ (fun _ => ?_)
            clear hK K a1 a2 a3
            refine wpAnyH_done (by kernel_rfl) ?_ _
            go_simp
            go_wp2_with fail
            exact ⟨⟨j + 1, now', x', y', HLT.out, rfl, by go_num, HK20.out.1, HK20.out.2, PQN.out⟩, by have := HLT.out; simp [intOf]; omega⟩
    · obtain rfl : j = n := by omega
      clear hlt
      have TD := Lib.hid (tolds_t wr (HU.out.below PX.out.bel))
      go_wp2_with fail
      refine TD.out.mono ?_
      rintro e w4 ⟨rfl, b4⟩
      have P4 := Lib.hid (PX.out.below b4)
      have FX := Lib.hid (sv_size x P4.out.w.l4); have FY := Lib.hid (sv_size y P4.out.ry.l4)
      have MF := Lib.hid (SpMay_t x w4 P4.out.w)
      rw [mayS_iff.2 P4.out.mx] at MF
      clear b4 PX TD
      go_wp2_with ((with_reducible refine load_blk_gdO 85 31 (.tmp 7) gs 31 (sv x) _ ?_ ?_ rfl ?_ Tryd.underlying31 ?_ ?_ ?_ ?_); exact rfl; kernel_rfl; exact P4.out.bx; exact rfl; exact FX.out; exact rfl)
      refine MF.out.mono ?_
      rintro e w5 ⟨rfl, b5⟩
      have P5 := Lib.hid (P4.out.below b5)
      have SG := Lib.hid (SpSame_t x y w5 P5.out.w P5.out.ry)
      rw [spS_iff.2 P5.out.eq.symm] at SG
      clear b5 P4 MF
      go_wp2_with (first
        | ((with_reducible refine load_blk_gdO 89 31 (.tmp 7) gs 31 (sv x) _ ?_ ?_ rfl ?_ Tryd.underlying31 ?_ ?_ ?_ ?_); exact rfl; kernel_rfl; exact P5.out.bx; exact rfl; exact FX.out; exact rfl)
        | ((with_reducible refine load_blk_gdO 90 31 (.tmp 8) gt 31 (sv y) _ ?_ ?_ rfl ?_ Tryd.underlying31 ?_ ?_ ?_ ?_); exact rfl; kernel_rfl; exact P5.out.bt; exact rfl; exact FY.out; exact rfl))
      refine SG.out.mono ?_
      rintro e w6 ⟨rfl, b6⟩
      have B6 := Lib.hid (P5.out.bel.trans (b6.mono P5.out.bel.size))
      clear b6 P5 SG
      go_wp2_with fail
      go_ret
      exact ⟨rfl, B6.out⟩
end Go.Proofs.YtojianpbjckipaaDoor
