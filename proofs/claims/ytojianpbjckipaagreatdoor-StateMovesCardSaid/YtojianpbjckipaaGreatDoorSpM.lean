/-
  PACKAGE space: wake.
-/
import Derived.Test.YtojianpbjckipaaGreatDoorSpL
namespace Go.Proofs.YtojianpbjckipaaGreatDoor
open Go Go.RowKit Sh

theorem wake_snoc (t : List Fld) (x : Wt) : ∀ l : List Wt, wakeP t (l ++ [x]) = (if ((wakeP t l).2.2 || !mT x.p t) = true then ((wakeP t l).1 ++ [x], (wakeP t l).2.1, (wakeP t l).2.2) else ((wakeP t l).1, (wakeP t l).2.1 ++ [lateP t x], x.tk))
  | [] => by
    cases hm : mT x.p t <;> cases hk : x.tk <;> simp [wakeP, hm, hk]
  | y :: l => by
    have ih := wake_snoc t x l
    cases hm : mT y.p t with
    | true =>
      cases hk : y.tk with
      | true => simp [wakeP, hm, hk]
      | false =>
        simp only [List.cons_append, wakeP, hm, hk, if_true]
        rw [ih]
        by_cases hc : ((wakeP t l).2.2 || !mT x.p t) = true
        · simp [hc]
        · simp [hc]
    | false =>
      simp only [List.cons_append, wakeP, hm]
      rw [ih]
      by_cases hc : ((wakeP t l).2.2 || !mT x.p t) = true
      · simp [hc]
      · simp [hc]
/-- A row of another kind grows: this one stays. -/
theorem own_grown_blk {w w' : World} {base : Nat} {e t : TypeId} {size n g : Nat} {v : Value} {xs cs : List Value} (h : w.ownsRow base e size v n xs) (hg : w.grownBy w' v.ownBlock) (hb : Blk w g t cs) (hne : e ≠ t) : Blk w' g t cs :=
  (hg.block g hb.lt (fun e' => own_apart h hb hne e'.symm)).trans hb
theorem own_grown {w w' : World} {B B' : Nat} {e e' : TypeId} {sz sz' n n' : Nat} {v v' : Value} {xs xs' : List Value} (h : w.ownsRow B e sz v n xs) (ho : w.ownsRow B' e' sz' v' n' xs') (hg : w.grownBy w' v'.ownBlock) (hne : e' ≠ e) : w'.ownsRow B e sz v n xs :=
  own_kept (F := fun k => v'.ownBlock = some k) h ((Kept.refl (fun k => v'.ownBlock = some k) w).grown hg (fun _ hk => .inl hk)) (fun _ hk e' => own_two ho h hne e' hk)
/-- Where wake stands. -/
structure WK (w0 W : World) (t : List Fld) (x : Spv) (j : Nat) (L : List Wtv) (R : List Rpv) (lv rw : Value) : Prop where
  lo : W.ownsRow w0.heap.size 64 4 lv L.length (L.flatMap wv)
  ro : W.ownsRow w0.heap.size 26 5 rw R.length (R.flatMap pv)
  rt : ∀ y ∈ R, FT W w0.heap.size y.p y.c y.r.t
  lm : ∀ y ∈ L, y ∈ x.wts
  ll : L.length ≤ j
  rl : R.length ≤ j
  le : L.map (·.x) = (wakeP t ((x.wts.take j).map (·.x))).1
  re : R.map (·.r) = (wakeP t ((x.wts.take j).map (·.x))).2.1
  bel : Below w0.heap.size w0 W
theorem WK.below {w0 W W' : World} {t : List Fld} {x : Spv} {j : Nat} {L : List Wtv} {R : List Rpv} {lv rw : Value} (h : WK w0 W t x j L R lv rw) (hb : Below W.heap.size W W') : WK w0 W' t x j L R lv rw :=
  ⟨own_below h.lo hb, own_below h.ro hb, fun y hy => (h.rt y hy).below hb, h.lm, h.ll, h.rl, h.le, h.re, h.bel.trans (hb.mono h.bel.size)⟩
theorem wake_take {t : List Fld} {x : Spv} {j : Nat} {y : Wtv} (hy : x.wts[j]? = some y) : wakeP t ((x.wts.take (j + 1)).map (·.x)) = (if ((wakeP t ((x.wts.take j).map (·.x))).2.2 || !mT y.x.p t) = true then ((wakeP t ((x.wts.take j).map (·.x))).1 ++ [y.x], (wakeP t ((x.wts.take j).map (·.x))).2.1, (wakeP t ((x.wts.take j).map (·.x))).2.2) else ((wakeP t ((x.wts.take j).map (·.x))).1, (wakeP t ((x.wts.take j).map (·.x))).2.1 ++ [lateP t y.x], y.x.tk)) := by
  rw [take_snoc hy, List.map_append]
  exact wake_snoc t y.x _
theorem WK.left {w0 W W' : World} {t : List Fld} {x : Spv} {j : Nat} {L : List Wtv} {R : List Rpv} {lv rw lv' : Value} {y : Wtv} (h : WK w0 W t x j L R lv rw) (hy : x.wts[j]? = some y) (hc : ((wakeP t ((x.wts.take j).map (·.x))).2.2 || !mT y.x.p t) = true)
    (ho : W'.ownsRow w0.heap.size 64 4 lv' (L.length + 1) (L.flatMap wv ++ [y].flatMap wv)) (hg : W.grownBy W' lv.ownBlock) : WK w0 W' t x (j + 1) (L ++ [y]) R lv' rw := by
  have e := wake_take (t := t) hy
  rw [if_pos hc] at e
  refine ⟨?_, own_grown h.ro h.lo hg (by decide), fun z hz => own_grown (h.rt z hz) h.lo hg (by decide), fun z hz => ?_, ?_, Nat.le_succ_of_le h.rl, ?_, ?_, h.bel.grown hg h.bel.size (fun k e => (h.lo.lt k e).1)⟩
  · rw [List.length_append, List.flatMap_append]
    exact ho
  · rcases List.mem_append.1 hz with hz | hz
    · exact h.lm z hz
    · rw [List.mem_singleton.1 hz]; exact List.mem_of_getElem? hy
  · rw [List.length_append]; exact Nat.succ_le_succ h.ll
  · rw [e, List.map_append, h.le]; rfl
  · rw [e, h.re]
theorem WK.late {w0 W W' : World} {t : List Fld} {x : Spv} {j : Nat} {L : List Wtv} {R : List Rpv} {lv rw rw' : Value} {y : Wtv} {q : Option Addr} {d : Nat} (h : WK w0 W t x j L R lv rw) (hy : x.wts[j]? = some y) (hc : ((wakeP t ((x.wts.take j).map (·.x))).2.2 || !mT y.x.p t) = false)
    (hq : FT W w0.heap.size q d t) (ho : W'.ownsRow w0.heap.size 26 5 rw' (R.length + 1) (R.flatMap pv ++ [(⟨lateP t y.x, q, d⟩ : Rpv)].flatMap pv)) (hg : W.grownBy W' rw.ownBlock) : WK w0 W' t x (j + 1) L (R ++ [⟨lateP t y.x, q, d⟩]) lv rw' := by
  have e := wake_take (t := t) hy
  rw [hc, if_neg (by decide)] at e
  refine ⟨own_grown h.lo h.ro hg (by decide), ?_, fun z hz => ?_, h.lm, Nat.le_succ_of_le h.ll, ?_, ?_, ?_, h.bel.grown hg h.bel.size (fun k e => (h.ro.lt k e).1)⟩
  · rw [List.length_append, List.flatMap_append]
    exact ho
  · rcases List.mem_append.1 hz with hz | hz
    · exact own_grown (h.rt z hz) h.ro hg (by decide)
    · rw [List.mem_singleton.1 hz]; exact own_grown hq h.ro hg (by decide)
  · rw [List.length_append]; exact Nat.succ_le_succ h.rl
  · rw [e, h.le]
  · rw [e, List.map_append, h.re]; rfl
theorem wake_tk {t : List Fld} {x : Spv} {j : Nat} {y : Wtv} (hy : x.wts[j]? = some y) : (wakeP t ((x.wts.take (j + 1)).map (·.x))).2.2 = (if ((wakeP t ((x.wts.take j).map (·.x))).2.2 || !mT y.x.p t) = true then (wakeP t ((x.wts.take j).map (·.x))).2.2 else y.x.tk) := by
  rw [wake_take hy]
  split <;> rfl
/-- The waiters' row is new, then its head is written. -/
theorem SM.waiters {wB W W1 : World} {g : Nat} {x : Spv} (h : SM wB W g x) (l : List Wtv) (q : Option Addr) (c : Nat) (hk : Below W.heap.size W W1) (ho : W1.ownsRow W.heap.size 64 4 (.slice q l.length c) l.length (l.flatMap wv)) (ht : ∀ y ∈ l, y ∈ x.wts) :
    SM wB (W1.setCell ⟨g, 2, none⟩ (.slice q l.length c)) g { x with wts := l, wp := q, wc := c } ∧ Mv g x { x with wts := l, wp := q, wc := c } W (W1.setCell ⟨g, 2, none⟩ (.slice q l.length c)) := by
  have h1 := h.below hk
  have hs : SF wB.heap.size W1 { x with wts := l, wp := q, wc := c } :=
    ⟨h1.sf.its, h1.sf.it, own_base ho (fun k hk => Nat.le_trans h.bel.size (ho.lt k hk).1), fun y hy => h1.sf.wt y (ht y hy), h1.sf.l4, h1.sf.la⟩
  refine ⟨⟨h1.box.store 2 _, h.ge, h1.bel.setCell (p := ⟨g, 2, none⟩) h.ge _, hs.set (i := 2) h1.box _⟩, ⟨(Kept.of_below hk).trans ((Kept.refl (FF x g) W1).setCell (p := ⟨g, 2, none⟩) (.inl (.inl rfl)) _), fun k e => ?_⟩⟩
  rcases e with e | e | e
  · exact .inl (.inl e)
  · exact .inl (.inr (.inl e))
  · exact .inr (ho.lt k e.own).1
theorem row_one {α : Type} (f : α → List Value) (sz : Nat) (x : α) (w : World) (e : TypeId) : RowL (w.alloc (.cells (f x).toArray e)) (some ⟨w.heap.size, 0, none⟩) sz f [x] := fun j y hy => by
  cases j with
  | zero =>
    obtain rfl : x = y := by simpa using hy
    exact ⟨w.heap.size, 0, rfl, by simp, by simpa using rows_of_blk (Blk.new w e (f x))⟩
  | succ j => simp at hy
section
variable {P : Program} {ops : Array Oper} {rest : List Oper} {o : Oper} {a : Act} {w : World} {Q : Exit → Act → World → Prop}
/-- A literal row of one. -/
theorem wp_build1 {K : Act → World → Prop} (t e : TypeId) (x : Operand) (ho : o.op = .buildSlice t 1 #[(0, x)]) (cs : List Value) (hx : a.eval x = .agg cs.toArray)
    (hb : (Instr.buildSlice t 1 #[(0, .agg cs.toArray)]).run P w = .ok (.slice (some ⟨w.heap.size, 0, none⟩) 1 1) (w.alloc (.cells cs.toArray e)))
    (h : K (a.put o.dst (.slice (some ⟨w.heap.size, 0, none⟩) 1 1)) (w.alloc (.cells cs.toArray e))) : o.wp P a w K Q := by
  have e : ((#[(0, x)] : Array (Nat × Operand)).map fun (i, x) => (i, a.eval x)) = #[(0, .agg cs.toArray)] := by simp [hx]
  unfold Oper.wp execOp
  simp only [ho, e, Sem.run_bind, hb, Result.andThen_ok]
  exact h
theorem build1 (t e : TypeId) (x : Operand) (hgd : o.guard = none) (ho : o.op = .buildSlice t 1 #[(0, x)]) (cs : List Value) (hx : a.eval x = .agg cs.toArray)
    (hb : (Instr.buildSlice t 1 #[(0, .agg cs.toArray)]).run P w = .ok (.slice (some ⟨w.heap.size, 0, none⟩) 1 1) (w.alloc (.cells cs.toArray e)))
    (h : wpList P ops Q rest (a.put o.dst (.slice (some ⟨w.heap.size, 0, none⟩) 1 1)) (w.alloc (.cells cs.toArray e))) : wpList P ops Q (o :: rest) a w :=
  wpList_plain hgd fun _ hK => wp_build1 t e x ho cs hx hb (hK _ _ h)
end
theorem build_wv (y : Wtv) (W : World) : (Instr.buildSlice 23 1 #[(0, .agg (wv y).toArray)]).run Tryz.prog W = .ok (.slice (some ⟨W.heap.size, 0, none⟩) 1 1) (W.alloc (.cells (wv y).toArray 64)) := by
  kernel_rfl
theorem build_iv (y : Itv) (W : World) : (Instr.buildSlice 22 1 #[(0, .agg (iv y).toArray)]).run Tryz.prog W = .ok (.slice (some ⟨W.heap.size, 0, none⟩) 1 1) (W.alloc (.cells (iv y).toArray 62)) := by
  kernel_rfl
theorem build_pv (y : Rpv) (W : World) : (Instr.buildSlice 54 1 #[(0, .agg (pv y).toArray)]).run Tryz.prog W = .ok (.slice (some ⟨W.heap.size, 0, none⟩) 1 1) (W.alloc (.cells (pv y).toArray 26)) := by
  kernel_rfl
theorem built_late (a b : Int) (t : List Fld) (q : Option Addr) (d : Nat) : Tryz.prog.built 26 [(0, .int .i64 a), (1, .int .i64 b), (2, .int .i64 2), (3, .slice q t.length d), (4, .bool true)] = some (pv ⟨⟨a, b, 2, t, true⟩, q, d⟩).toArray := by kernel_rfl
set_option maxRecDepth 100000 in
set_option maxHeartbeats 4000000 in
theorem wake_t (wB : World) (g : Nat) (x : Spv) (t : List Fld) (tp : Option Addr) (tc : Nat) (W : World) (h : SM wB W g x) (hn : x.wts.length ≤ 1000) (hwt : ∀ y ∈ x.wts, y.x.p.length ≤ 1000) (ht : TR W tp t) (hl : t.length ≤ 1000) :
    Calls Tryz.prog 137 #[.pointer (some ⟨g, 0, none⟩), .slice tp t.length tc] W fun e W' => ∃ (x' : Spv) (R : List Rpv) (q : Option Addr) (c : Nat), e = .returned (.tuple #[.slice q R.length c, .bool (wakeP t x.sp.wts).2.2]) ∧ SM wB W' g x' ∧ Mv g x x' W W' ∧ x'.sp = { x.sp with wts := (wakeP t x.sp.wts).1 } ∧ W'.ownsRow W.heap.size 26 5 (.slice q R.length c) R.length (R.flatMap pv) ∧ (∀ y ∈ R, FT W' W.heap.size y.p y.c y.r.t) ∧ R.map (·.r) = (wakeP t x.sp.wts).2.1 := by
  have c1 := (sv_cells h.box).2.2.1
  have fz := h.box.frozen 2
  have H := Lib.hid h
  have HW := Lib.hid (fun (j : Nat) (y : Wtv) (hy : x.wts[j]? = some y) => And.intro (hwt y (List.mem_of_getElem? hy)) (FT.tr (h.sf.wt y (List.mem_of_getElem? hy)) (by have := hwt y (List.mem_of_getElem? hy); omega)))
  have HR := Lib.hid (RowL.of_own wv_len rfl h.sf.wts)
  obtain ⟨wp, hwp⟩ : ∃ p, x.wp = p := ⟨_, rfl⟩
  rw [hwp] at c1 HR
  have HT := Lib.hid ht; have HL := Lib.hid hl
  have hsp : x.sp.wts = x.wts.map (·.x) := rfl
  have WK0 := Lib.hid (show WK W W t x 0 [] [] (.slice none 0 0) (.slice none 0 0) from ⟨World.ownsRow_nil _ _ _ _, World.ownsRow_nil _ _ _ _, fun y hy => by simp at hy, fun y hy => by simp at hy, Nat.le_refl _, Nat.le_refl _, rfl, rfl, Below.refl _ _⟩)
  rw [hsp]
  clear h hwt ht hsp hwp
  have nB : (x.wts.length : Int) ≤ 9223372036854775807 := by omega
  go_enter Tryz.func137, Tryz.ntmps137
  go_upto_region 5 with (fail)
  go_loopw [6, 7, 8, 16] (fun lv rw tk i wr => ∃ j : Nat, j ≤ x.wts.length ∧ i = .int .i64 (j : Int) ∧ tk = .bool (wakeP t ((x.wts.take j).map (·.x))).2.2 ∧ ∃ L R, WK W wr t x j L R lv rw) (fun _ _ _ i _ => x.wts.length - (intOf i).toNat)
  case atStart => exact ⟨0, by omega, rfl, rfl, [], [], WK0.out⟩
  case round =>
    obtain ⟨j, hj, rfl, rfl, L, R, hK0⟩ := hrel
    have K1 := Lib.hid hK0
    clear hK0 WK0
    by_cases hlt : j < x.wts.length
    · obtain ⟨y, hy⟩ : ∃ y, x.wts[j]? = some y := ⟨_, List.getElem?_eq_getElem hlt⟩
      obtain ⟨b, o, hwp, hbl, rg⟩ := HR.out j y hy
      subst hwp
      have RG := Lib.hid (rows_below rg K1.out.bel hbl)
      have FS := Lib.hid (wv_size y); have F1 := Lib.hid (wv_oneA y)
      have j1 : (j : Int) < (x.wts.length : Int) := by omega
      have A0 := Lib.hid (Blk.new wr 64 [.int .i64 0, .int .i64 0, .bool false, .slice none 0 0])
      have A1 := Lib.hid (A0.out.setRow (wv y))
      have W1 := Lib.hid (below_setRow ((Below.refl wr.heap.size wr).alloc (Nat.le_refl _) (.cells #[.int .i64 0, .int .i64 0, .bool false, .slice none 0 0] 64)) (Nat.le_refl _) (wv y).toArray)
      have YT := Lib.hid (HW.out j y hy)
      have HY := Lib.hid hy; have HLT := Lib.hid hlt
      have HD := Lib.hid (wake_take (t := t) hy)
      have HWB := Lib.hid K1.out.bel.size
      obtain ⟨bk, hbk⟩ : ∃ b, (wakeP t ((x.wts.take j).map (·.x))).2.2 = b := ⟨_, rfl⟩
      rw [hbk]
      have HBK := Lib.hid hbk
      clear hy rg hbl hlt hbk
      go_upto_region 7 with (first
        | ((with_reducible refine at_op (.load 64 (.tmp 18)) rfl ?_); go_must (refine wpList_load_mid rfl 64 (.tmp 18) rfl b (o + j * 4) rfl (wv y) _ RG.out Tryz.underlying64 rfl FS.out ?_))
        | ((with_reducible refine store_blk 64 (.tmp 10) (.tmp 19) wr.heap.size 64 [.int .i64 0, .int .i64 0, .bool false, .slice none 0 0] (wv y) rfl rfl ?_ ?_ ?_ ?_ ?_ ?_ ?_); exact A0.out; exact rfl; exact FS.out; exact F1.out; exact rfl; exact rfl))
      obtain ⟨V, hV⟩ : ∃ V, (wr.alloc (.cells #[.int .i64 0, .int .i64 0, .bool false, .slice none 0 0] 64)).setRow wr.heap.size (wv y).toArray = V := ⟨_, rfl⟩
      rw [hV] at A1 W1 ⊢
      have K2 := Lib.hid (K1.out.below W1.out)
      clear hV A0 RG K1
      have c3 := (wv_cells A1.out).2.2.2
      cases bk with
      | true =>
        have HC := Lib.hid (show ((wakeP t ((x.wts.take j).map (·.x))).2.2 || !mT y.x.p t) = true from by rw [HBK.out]; rfl)
        have R1 := Lib.hid (row_one wv 4 y V 64)
        have BA := Lib.hid ((Below.refl (V).heap.size V).alloc (Nat.le_refl _) (.cells (wv y).toArray 64))
        have K3 := Lib.hid (K2.out.below BA.out)
        have HB := Lib.hid (show W.heap.size ≤ ((V).alloc (.cells (wv y).toArray 64)).heap.size from K3.out.bel.size)
        have LL := Lib.hid (show L.length + 1 ≤ 1000000 from by have := K2.out.ll; omega)
        go_wp2_with (first
          | ((with_reducible refine load_blk 64 (.tmp 10) wr.heap.size 64 (wv y) _ rfl rfl ?_ Tryz.underlying64 ?_ ?_ ?_ ?_); exact A1.out; exact rfl; exact FS.out; exact rfl)
          | ((with_reducible refine at_op (.buildSlice 23 1 #[(0, .tmp 29)]) rfl ?_); go_must (refine build1 23 64 (.tmp 29) rfl rfl (wv y) rfl (build_wv y _) ?_))
          | ((with_reducible refine at_op (.call { callee := .builtin .append, args := #[.tmp 28, .tmp 30], argTypes := #[23, 23] }) rfl ?_); go_must (refine append_rows (.tmp 28) (.tmp 30) 23 rfl rfl 64 Tryz.underlying23 infoW rfl (by decide) (by decide) wv_len wv_one W.heap.size u6 L.length (L.flatMap wv) rfl K3.out.lo (some ⟨(V).heap.size, 0, none⟩) 1 1 rfl [y] rfl R1.out LL.out HB.out ?_); intro v1 w5 h2 h3 h5 h6))
        have K4 := Lib.hid (K3.out.left HY.out HC.out h2.out h3.out)
        clear h2 h3 h5 h6 K3 R1 BA K2 A1
        go_roundw
        case rel => exact ⟨j + 1, HLT.out, by go_num, congrArg Value.bool (by rw [wake_tk HY.out, HC.out, if_pos rfl, HBK.out]), L ++ [y], R, K4.out⟩
        case measure => have := HLT.out; simp [intOf]; omega
      | false =>
        have MT := Lib.hid (show Calls _ _ _ _ fun e w' => e = .returned (.bool (mT y.x.p t)) ∧ _ from Match_t y.x.p.length y.c t.length tc y.p tp (gl y.x.p) (gl t) V (by have := YT.out.1; omega) (by have := HL.out; omega) ((YT.out.2.below K2.out.bel).t) ((HT.out.below K2.out.bel).t))
        obtain ⟨bm, hbm⟩ : ∃ b, mT y.x.p t = b := ⟨_, rfl⟩
        rw [hbm] at MT
        have HBM := Lib.hid hbm
        clear hbm
        go_wp2_with fail
        refine MT.out.mono ?_
        rintro e w2 ⟨rfl, b2⟩
        have K2' := Lib.hid (K2.out.below b2)
        have A2 := Lib.hid (A1.out.below b2 A1.out.lt)
        have HX := Lib.hid (Nat.lt_of_lt_of_le A1.out.lt b2.size)
        clear b2 MT K2 A1 W1 c3
        cases bm with
        | false =>
          have HC := Lib.hid (show ((wakeP t ((x.wts.take j).map (·.x))).2.2 || !mT y.x.p t) = true from by rw [HBK.out, HBM.out]; rfl)
          have R1 := Lib.hid (row_one wv 4 y w2 64)
          have BA := Lib.hid ((Below.refl (w2).heap.size w2).alloc (Nat.le_refl _) (.cells (wv y).toArray 64))
          have K3 := Lib.hid (K2'.out.below BA.out)
          have HB := Lib.hid (show W.heap.size ≤ ((w2).alloc (.cells (wv y).toArray 64)).heap.size from K3.out.bel.size)
          have LL := Lib.hid (show L.length + 1 ≤ 1000000 from by have := K2'.out.ll; omega)
          go_wp2_with (first
            | ((with_reducible refine load_blk 64 (.tmp 10) wr.heap.size 64 (wv y) _ rfl rfl ?_ Tryz.underlying64 ?_ ?_ ?_ ?_); exact A2.out; exact rfl; exact FS.out; exact rfl)
            | ((with_reducible refine at_op (.buildSlice 23 1 #[(0, .tmp 29)]) rfl ?_); go_must (refine build1 23 64 (.tmp 29) rfl rfl (wv y) rfl (build_wv y _) ?_))
            | ((with_reducible refine at_op (.call { callee := .builtin .append, args := #[.tmp 28, .tmp 30], argTypes := #[23, 23] }) rfl ?_); go_must (refine append_rows (.tmp 28) (.tmp 30) 23 rfl rfl 64 Tryz.underlying23 infoW rfl (by decide) (by decide) wv_len wv_one W.heap.size u6 L.length (L.flatMap wv) rfl K3.out.lo (some ⟨(w2).heap.size, 0, none⟩) 1 1 rfl [y] rfl R1.out LL.out HB.out ?_); intro v1 w5 h2 h3 h5 h6))
          have K4 := Lib.hid (K3.out.left HY.out HC.out h2.out h3.out)
          clear h2 h3 h5 h6 K3 R1 BA K2' A2
          go_roundw
          case rel => exact ⟨j + 1, HLT.out, by go_num, congrArg Value.bool (by rw [wake_tk HY.out, HC.out, if_pos rfl, HBK.out]), L ++ [y], R, K4.out⟩
          case measure => have := HLT.out; simp [intOf]; omega
        | true =>
          have HC := Lib.hid (show ((wakeP t ((x.wts.take j).map (·.x))).2.2 || !mT y.x.p t) = false from by rw [HBK.out, HBM.out]; rfl)
          have KD := Lib.hid (show WK W w2.drew t x j L R u6 u7 from K2'.out.below (Below.refl _ _).drew)
          have G1 : Blk w2.drew wr.heap.size 64 (wv y) := A2.out.below (Below.refl _ _).drew A2.out.lt
          have CF := Lib.hid (cloneF_t t tp t.length tc w2.drew rfl (rw_row.1 ((HT.out.below KD.out.bel).t)) (by have := HL.out; omega))
          have hX : wr.heap.size < w2.heap.size := HX.out
          clear K2' A2 HX
          go_upto_region 9 with (fail)
          refine wp_region_held (S := fun X => Blk X wr.heap.size 64 (wv y)) (by kernel_rfl) ?_
          change wpAnyH _ _ _ _ _ _ _ _ w2.drew
          refine wpAnyH_take (i := 0) (v := ?_) rfl (by kernel_rfl) (by kernel_rfl) (by kernel_rfl) (fun _ _ _ h => h) (Or.inl ⟨by kernel_rfl, ?_⟩) G1 ?_
          rotate_left 1
          · (intro w hS; clear hS; go_simp; try (with_reducible rfl))
          refine wpAnyH_take (i := 1) (v := ?_) rfl (by kernel_rfl) (by kernel_rfl) (by kernel_rfl) (fun _ _ _ h => h) (Or.inl ⟨by kernel_rfl, ?_⟩) G1 ?_
          rotate_left 1
          · (intro w hS; clear hS; go_simp; try (with_reducible rfl))
          refine wpAnyH_take (i := 2) (v := ?_) rfl (by kernel_rfl) (by kernel_rfl) (by kernel_rfl) (fun _ _ _ h => h) (Or.inl ⟨by kernel_rfl, ?_⟩) G1 ?_
          rotate_left 1
          · (intro w hS; have hs := (wv_cells hS).1; clear hS; go_simp; try (with_reducible rfl))
          refine wpAnyH_take (i := 3) (v := ?_) rfl (by kernel_rfl) (by kernel_rfl) (by kernel_rfl) (fun _ _ _ h => h) (Or.inl ⟨by kernel_rfl, ?_⟩) G1 ?_
          rotate_left 1
          · (intro w hS; clear hS; go_simp; try (with_reducible rfl))
          refine wpAnyH_take (i := 4) (v := ?_) rfl (by kernel_rfl) (by kernel_rfl) (by kernel_rfl) (fun _ _ _ h => h) (Or.inl ⟨by kernel_rfl, ?_⟩) G1 ?_
          rotate_left 1
          · (intro w hS; have hs := (wv_cells hS).2.1; clear hS; go_simp; try (with_reducible rfl))
          refine wpAnyH_take (i := 5) (v := ?_) rfl (by kernel_rfl) (by kernel_rfl) (by kernel_rfl) (fun _ _ _ h => h) (Or.inl ⟨by kernel_rfl, ?_⟩) G1 ?_
          rotate_left 1
          · (intro w hS; clear hS; go_simp; try (with_reducible rfl))
          refine wpAnyH_ready (rs := [6]) (by kernel_rfl) (by simp) ?_
          refine AllReadyH.cons rfl (fun K hK => ?_) AllReadyH.nil
          go_simp
          refine CF.out.mono ?_
          rintro e w3 ⟨q, d, rfl, o3, b3⟩
          have K3 := Lib.hid (KD.out.below b3)
          have G3 : Blk w3 wr.heap.size 64 (wv y) := G1.below b3 G1.lt
          have FQ := Lib.hid (show FT w3 W.heap.size q d t from FT.low o3 KD.out.bel.size)
          have HS3 := Lib.hid (Nat.lt_of_lt_of_le G1.lt b3.size)
          refine hK.out _ _ G3 (fun _ => ?_)
          clear hK K b3 o3 CF KD G1
          have BL := built_late y.x.cl y.x.sq t q d
          refine wpAnyH_take (i := 7) (v := ?_) rfl (by kernel_rfl) (by kernel_rfl) (by kernel_rfl) (fun _ _ _ h => h) (Or.inl ⟨by kernel_rfl, ?_⟩) G3 ?_
          rotate_left 1
          · (intro w hS; clear hS; go_simp; try (with_reducible rfl))
          have G4 : Blk (w3.alloc (.cells (pv (⟨lateP t y.x, q, d⟩ : Rpv)).toArray 26)) wr.heap.size 64 (wv y) := G3.alloc _
          have K4 := Lib.hid (K3.out.below ((Below.refl w3.heap.size w3).alloc (Nat.le_refl _) (.cells (pv (⟨lateP t y.x, q, d⟩ : Rpv)).toArray 26)))
          have FQ4 := Lib.hid (FQ.out.below ((Below.refl w3.heap.size w3).alloc (Nat.le_refl _) (.cells (pv (⟨lateP t y.x, q, d⟩ : Rpv)).toArray 26)))
          have R1 := Lib.hid (row_one pv 5 (⟨lateP t y.x, q, d⟩ : Rpv) w3 26)
          have HB := Lib.hid (show W.heap.size ≤ (w3.alloc (.cells (pv (⟨lateP t y.x, q, d⟩ : Rpv)).toArray 26)).heap.size from K4.out.bel.size)
          refine wpAnyH_ready (rs := [8]) (by kernel_rfl) (by simp) ?_
          refine AllReadyH.cons rfl (fun K hK => ?_) AllReadyH.nil
          rw [if_pos (by kernel_rfl)]
          refine wp_build1 54 26 (.tmp 39) rfl (pv (⟨lateP t y.x, q, d⟩ : Rpv)) rfl (build_pv _ _) ?_
          refine hK.out _ _ G4 (fun _ => ?_)
          clear hK K BL G3
          refine wpAnyH_ready (rs := [9]) (by kernel_rfl) (by simp) ?_
          refine AllReadyH.cons rfl (fun K hK => ?_) AllReadyH.nil
          rw [if_pos (by kernel_rfl)]
          refine wp_append_rows (.tmp 32) (.tmp 40) 54 ?_ 26 Tryz.underlying54 infoP rfl (by decide) (by decide) pv_len pv_one W.heap.size u7 R.length (R.flatMap pv) ?_ K4.out.ro (some ⟨w3.heap.size, 0, none⟩) 1 1 ?_ [(⟨lateP t y.x, q, d⟩ : Rpv)] rfl R1.out (by have := K4.out.rl; omega) HB.out ?_
          · rfl
          · go_simp
          · go_simp
          intro v1 w5 h2 h3 h5 h6
          have K5 := Lib.hid (K4.out.late HY.out HC.out FQ4.out h2.out h3.out)
          have G5 : Blk w5 wr.heap.size 64 (wv y) := own_grown_blk K4.out.ro h3.out G4 (by decide)
          refine hK.out _ _ G5 (fun _ => ?_)
          clear hK K h2 h3 h5 h6 K4 K3 FQ FQ4 G4 R1 HB
          refine wpAnyH_take (i := 10) (v := ?_) rfl (by kernel_rfl) (by kernel_rfl) (by kernel_rfl) (fun _ _ _ h => h) (Or.inl ⟨by kernel_rfl, ?_⟩) G5 ?_
          rotate_left 1
          · (intro w hS; clear hS; go_simp; try (with_reducible rfl))
          refine wpAnyH_done (by kernel_rfl) ?_ _
          go_simp
          have c2 := (wv_cells G5).2.2.1
          go_wp2_with fail
          go_roundw
          case rel => exact ⟨j + 1, HLT.out, by go_num, congrArg Value.bool (by rw [wake_tk HY.out, HC.out]; rfl), L, _, K5.out⟩
          case measure => have := HLT.out; simp [intOf]; omega
    · obtain rfl : j = x.wts.length := by omega
      obtain ⟨q6, c6, h6, _⟩ := own_form K1.out.lo
      obtain ⟨q7, c7, h7, _⟩ := own_form K1.out.ro
      subst h6
      subst h7
      have HE := K1.out.le; have HF := K1.out.re
      rw [List.take_length] at HE HF ⊢
      obtain ⟨M2, V2⟩ := H.out.waiters L q6 c6 K1.out.bel K1.out.lo K1.out.lm
      have hb := H.out.below K1.out.bel
      have hr : ∀ {B sz n : Nat} {e : TypeId} {v : Value} {xs : List Value}, wr.ownsRow B e sz v n xs → e ≠ 29 → (wr.setCell ⟨g, 2, none⟩ (.slice q6 L.length c6)).ownsRow B e sz v n xs := fun ho hne =>
        own_kept ho ((Kept.refl (fun k => k = g) wr).setCell (p := ⟨g, 2, none⟩) (.inl rfl) _) (fun k hk e => own_apart ho hb.box hne (by rw [hk, e]))
      have OR := Lib.hid (hr K1.out.ro (by decide))
      have OT := Lib.hid (fun (y : Rpv) (hy : y ∈ R) => show FT _ _ _ _ _ from hr (K1.out.rt y hy) (by decide))
      have M2H := Lib.hid M2; have V2H := Lib.hid V2; have HEH := Lib.hid HE; have HFH := Lib.hid HF
      have ct : wr.cell? ⟨g, 2, none⟩ = some (.slice wp x.wts.length x.wc) := (K1.out.bel.cell (p := ⟨g, 2, none⟩) H.out.box.lt).trans c1
      have fg := hb.box.frozen 2
      clear M2 V2 HE HF hr hb K1 hlt hj
      go_wp2_with fail
      go_ret2
      exact ⟨_, R, q7, c7, rfl, M2H.out, V2H.out, by unfold Spv.sp; dsimp only; rw [HEH.out], OR.out, OT.out, HFH.out⟩
end Go.Proofs.YtojianpbjckipaaGreatDoor
