/-
  THE REFERENCE: put.
-/
import Derived.Test.YtojianpbjckipaaDoorSrE
import Derived.Test.YtojianpbjckipaaDoorSpN
import Derived.BigQuiet
namespace Go.Proofs.YtojianpbjckipaaDoor
open Go Go.RowKit Sh
variable {E : Nat → Prop}

section
variable {P : Program} {ops : Array Oper} {Q : Exit → Act → World → Prop} {md : Region.Mode} {S : World → Prop} {last : Nat → Bool}
/-- Two may come up now. -/
theorem wpAnyE_two {i j : Nat} {o p : Oper} {fuel : Nat} {listed : Array Bool} {a : Act} {w : World} (hr : Region.ready md ops listed = [i, j]) (hi : ops[i]? = some o) (hwd : Region.wanted o (yielded ops a.tmps) = true) (hj : ops[j]? = some p) (hwj : Region.wanted p (yielded ops a.tmps) = true)
    (h : ∀ K : Act → World → Prop, Hid (∀ a' w', (last i = true ∨ S w') → wpAnyE P md ops Q S last fuel (listed.setIfInBounds i true) a' w' → K a' w') → o.wp P a w K Q)
    (g : ∀ K : Act → World → Prop, Hid (∀ a' w', (last j = true ∨ S w') → wpAnyE P md ops Q S last fuel (listed.setIfInBounds j true) a' w' → K a' w') → p.wp P a w K Q) : wpAnyE P md ops Q S last (fuel + 1) listed a w := by
  refine ⟨fun h0 => (by rw [hr] at h0; cases h0), fun k hk => ?_⟩
  rw [hr] at hk
  have hk' : k = i ∨ k = j := by simpa using hk
  rcases hk' with rfl | rfl
  · unfold wpOp
    rw [hi]
    simp only [hwd, if_true]
    exact Or.inl (h _ (fun a' w' h1 h2 => ⟨h1, h2⟩))
  · unfold wpOp
    rw [hj]
    simp only [hwj, if_true]
    exact Or.inl (g _ (fun a' w' h1 h2 => ⟨h1, h2⟩))
end
theorem lateS_wts (s : Sp) (v : List Wt) (x : Rp) : lateS { s with wts := v } x = { lateS s x with wts := v } := by
  unfold lateS
  show (if (lastOf s x.cl).sq = x.sq then _ else _) = _
  split <;> rfl
theorem late_wts (v : List Wt) : ∀ (l : List Rp) (s : Sp), l.foldl lateS { s with wts := v } = { l.foldl lateS s with wts := v }
  | [], _ => rfl
  | x :: l, s => by rw [List.foldl_cons, List.foldl_cons, lateS_wts]; exact late_wts v l (lateS s x)
theorem late_its : ∀ (l : List Rp) (s : Sp), (l.foldl lateS s).its = s.its ∧ (l.foldl lateS s).now = s.now := fun l s => ⟨(late_kept l s).2.2.2.2.1, (late_kept l s).2.2.2.1⟩
theorem GW.blkOff {w0 W : World} {gg c b : Nat} {x : Spv} {q : Option Addr} {R : List Rpv} {T : TypeId} {cs : List Value} (h : GW E w0 W gg x q c R) (hb : Blk W b T cs) (h1 : 28 ≠ T) (h2 : b ≠ gg) : ¬ GF gg q b := fun e => by
  rcases e with e | e
  · exact h2 e
  · exact own_apart h.ro hb h1 e.own
theorem gB_sq {x : Spv} {k n c : Nat} {lz : Rpv} {q : Option Addr} (h : x.last[k]? = some lz) : (gB x q n c)[5 + k * 5 + 1]? = some (.int .i64 lz.r.sq) := by
  have hk := (List.getElem?_eq_some_iff.1 h).1
  have hl := svL_len x k (by omega)
  rw [gB_at x k lz q n c h, List.getElem?_append_right (by omega), hl, Nat.add_sub_cancel_left]
  rfl
theorem GW.notq {w0 W : World} {gg c : Nat} {x : Spv} {q : Option Addr} {R : List Rpv} (h : GW E w0 W gg x q c R) {b : Nat} (hb : W.heap.size ≤ b) : ¬ GF gg q b := fun e => by
  rcases e with e | e
  · have := h.box.lt; omega
  · have := (h.ro.lt b e.own).2; omega
theorem off_q {W1 : World} {gg : Nat} {q1 q p : Option Addr} {t : List Fld} (ht : TR W1 p t) (ho : OffT (GF gg q1) p t) (hq : ∀ k, OB q k → OB q1 k ∨ W1.heap.size ≤ k) : OffT (GF gg q) p t := fun hne k hk hf => by
  rcases hf with e | e
  · exact ho hne k hk (.inl e)
  · rcases hq k e with e | e
    · exact ho hne k hk (.inr e)
    · have := (rw_row.1 ht.t).lt hne hk
      omega
/-- Another row is written. -/
theorem GW.other {w0 W1 W W' : World} {gg c : Nat} {x : Spv} {q : Option Addr} {R : List Rpv} {F : Nat → Prop} (h : GW E w0 W gg x q c R) (hs : SpW W1 x) (hr : ∀ y ∈ R, TR W1 y.p y.r.t) (hk : Kept F W W') (hF : ∀ k, F k → W1.heap.size ≤ k) (hw : w0.heap.size ≤ W1.heap.size) (hg : ¬ F gg) (hq : ∀ k, OB q k → ¬ F k) : GW E w0 W' gg x q c R :=
  ⟨h.box.kept hk hg, h.sp.keptF hk (hs.offNew hF), h.off, own_kept h.ro hk (fun k hk' e => hq k (ob_own' hk') e), fun y hy => (h.rt y hy).keptF hk ((hr y hy).offNew hF), h.rof, h.ge,
    h.bel.trans ⟨hk.os, hk.tape, hk.output, hk.size, fun b hb => hk.block b (Nat.lt_of_lt_of_le hb h.bel.size) (fun e => by have := hF b e; omega)⟩, h.oe, h.eo⟩
theorem Kept.more {F G : Nat → Prop} {a b w : World} (h : Kept F a b) (k : Kept G b w) (hG : ∀ i, G i → F i ∨ a.heap.size ≤ i) : Kept F a w :=
  ⟨k.os.trans h.os, k.tape.trans h.tape, k.output.trans h.output, Nat.le_trans h.size k.size, fun i hi hf => (k.block i (Nat.lt_of_lt_of_le hi h.size) (fun g => (hG i g).elim hf (fun e => by omega))).trans (h.block i hi hf)⟩
/-- Where put stands. -/
structure GP (E : Nat → Prop) (w0 W1 W : World) (gg : Nat) (q1 : Option Addr) (x : Spv) (t : List Fld) (R0 : List Rpv) (j : Nat) (L : List Wtv) (lv : Value) (las : List Rpv) (q : Option Addr) (c : Nat) (R : List Rpv) : Prop where
  gw : GW E w0 W gg { x with last := las } q c (R0 ++ R)
  lo : W.ownsRow W1.heap.size 75 4 lv L.length (L.flatMap wv)
  s1 : SpW W1 { x with last := las }
  r1 : ∀ y ∈ R0 ++ R, TR W1 y.p y.r.t
  lm : ∀ y ∈ L, y ∈ x.wts
  ll : L.length ≤ j
  rl : R.length ≤ j
  le : L.map (·.x) = (wakeP t ((x.wts.take j).map (·.x))).1
  re : R.map (·.r) = (wakeP t ((x.wts.take j).map (·.x))).2.1
  ls : ({ x with last := las } : Spv).sp = (R.map (·.r)).foldl lateS x.sp
  kp : Kept (GF gg q1) W1 W
  qq : ∀ k, OB q k → OB q1 k ∨ W1.heap.size ≤ k
section
variable {w0 W1 W W' : World} {gg : Nat} {q1 : Option Addr} {x : Spv} {t : List Fld} {R0 : List Rpv} {j : Nat} {L : List Wtv} {lv lv' : Value} {las : List Rpv} {q : Option Addr} {c : Nat} {R : List Rpv}
theorem GP.below (h : GP E w0 W1 W gg q1 x t R0 j L lv las q c R) (hb : Below W.heap.size W W') : GP E w0 W1 W' gg q1 x t R0 j L lv las q c R :=
  ⟨h.gw.below hb, own_below h.lo hb, h.s1, h.r1, h.lm, h.ll, h.rl, h.le, h.re, h.ls, h.kp.trans (Kept.of_below hb), h.qq⟩
theorem GP.left {y : Wtv} (h : GP E w0 W1 W gg q1 x t R0 j L lv las q c R) (hw : w0.heap.size ≤ W1.heap.size) (hy : x.wts[j]? = some y) (hc : ((wakeP t ((x.wts.take j).map (·.x))).2.2 || !mT y.x.p t) = true)
    (ho : W'.ownsRow W1.heap.size 75 4 lv' (L.length + 1) (L.flatMap wv ++ [y].flatMap wv)) (hg : W.grownBy W' lv.ownBlock) : GP E w0 W1 W' gg q1 x t R0 (j + 1) (L ++ [y]) lv' las q c R := by
  have e := wake_take (t := t) hy
  rw [if_pos hc] at e
  have hk : Kept (fun k => lv.ownBlock = some k) W W' := (Kept.refl _ W).grown hg (fun k e => .inl e)
  refine ⟨h.gw.other h.s1 h.r1 hk (fun k e => (h.lo.lt k e).1) hw (own_apart h.lo h.gw.box (by decide)) (fun k hk e => own_two h.gw.ro h.lo (by decide) hk.own e), ?_, h.s1, h.r1, fun z hz => ?_, ?_, Nat.le_succ_of_le h.rl, ?_, ?_, h.ls, h.kp.more hk (fun k e => .inr (h.lo.lt k e).1), h.qq⟩
  · rw [List.length_append, List.flatMap_append]
    exact ho
  · rcases List.mem_append.1 hz with hz | hz
    · exact h.lm z hz
    · rw [List.mem_singleton.1 hz]; exact List.mem_of_getElem? hy
  · rw [List.length_append]; exact Nat.succ_le_succ h.ll
  · rw [e, List.map_append, h.le]; rfl
  · rw [e, h.re]
theorem GP.late {y : Wtv} {k : Nat} {lz : Rpv} {rt : Option Addr} {rd : Nat} {las' : List Rpv} {q' : Option Addr} {c' : Nat} (h : GP E w0 W1 W gg q1 x t R0 j L lv las q c R) (hy : x.wts[j]? = some y) (hc : ((wakeP t ((x.wts.take j).map (·.x))).2.2 || !mT y.x.p t) = false)
    (hk : y.x.cl = (k : Int)) (hz : las[k]? = some lz) (hl : las' = if lz.r.sq = y.x.sq then las.set k ⟨lateP t y.x, rt, rd⟩ else las) (ht : TR W1 rt t)
    (g : GW E w0 W' gg { x with last := las' } q' c' (R0 ++ (R ++ [⟨lateP t y.x, rt, rd⟩]))) (hlo : W'.ownsRow W1.heap.size 75 4 lv L.length (L.flatMap wv)) (kp : Kept (GF gg q) W W') (qq : ∀ b, OB q' b → OB q b ∨ W1.heap.size ≤ b) :
    GP E w0 W1 W' gg q1 x t R0 (j + 1) L lv las' q' c' (R ++ [⟨lateP t y.x, rt, rd⟩]) := by
  have e := wake_take (t := t) hy
  rw [hc, if_neg (by decide)] at e
  have hsl : SpW W1 { x with last := las' } := by
    rw [hl]
    split
    · exact h.s1.setLast (z := ⟨lateP t y.x, rt, rd⟩) ht
    · exact h.s1
  refine ⟨g, hlo, hsl, fun z hz => ?_, h.lm, Nat.le_succ_of_le h.ll, ?_, ?_, ?_, ?_, ?_, fun b hb => ?_⟩
  · rcases List.mem_append.1 hz with hz | hz
    · exact h.r1 z (List.mem_append_left _ hz)
    · rcases List.mem_append.1 hz with hz | hz
      · exact h.r1 z (List.mem_append_right _ hz)
      · rw [List.mem_singleton.1 hz]; exact ht
  · rw [List.length_append]; exact Nat.succ_le_succ h.rl
  · rw [e, h.le]
  · rw [e, List.map_append, h.re]; rfl
  · rw [List.map_append, List.foldl_append, ← h.ls]
    show _ = lateS _ (lateP t y.x)
    have hla : lastOf ({ x with last := las } : Spv).sp (lateP t y.x).cl = lz.r := by
      show lastOf _ y.x.cl = _
      rw [hk]
      exact lastOf_at (x := { x with last := las }) hz
    unfold lateS
    rw [hla, hl]
    by_cases hs : lz.r.sq = y.x.sq
    · rw [if_pos hs, if_pos (show lz.r.sq = (lateP t y.x).sq from hs)]
      unfold Spv.sp noteP
      dsimp only
      rw [map_set_to, show (lateP t y.x).cl = (k : Int) from hk, Int.toNat_natCast]
    · rw [if_neg hs, if_neg (show ¬ lz.r.sq = (lateP t y.x).sq from hs)]
  · exact h.kp.more kp (fun b e => e.elim (fun e => .inl (.inl e)) (fun e => (h.qq b e).imp .inr id))
  · rcases qq b hb with e | e
    · exact h.qq b e
    · exact .inr e
end
theorem GP.loKept {w0 W1 W W' : World} {gg : Nat} {q1 : Option Addr} {x : Spv} {t : List Fld} {R0 : List Rpv} {j : Nat} {L : List Wtv} {lv : Value} {las : List Rpv} {q : Option Addr} {c : Nat} {R : List Rpv} (h : GP E w0 W1 W gg q1 x t R0 j L lv las q c R) (hk : Kept (GF gg q) W W') : W'.ownsRow W1.heap.size 75 4 lv L.length (L.flatMap wv) :=
  own_kept h.lo hk (fun k hk' e => by
    rcases e with e | e
    · exact own_apart h.lo h.gw.box (by decide) (by rw [hk', e])
    · exact own_two h.gw.ro h.lo (by decide) e.own hk')
/-- Those who are left are put in their place. -/
theorem GP.fin {w0 W1 W : World} {gg : Nat} {q1 : Option Addr} {x : Spv} {t : List Fld} {R0 : List Rpv} {j : Nat} {L : List Wtv} {lq : Option Addr} {lc : Nat} {las : List Rpv} {q : Option Addr} {c : Nat} {R : List Rpv} (h : GP E w0 W1 W gg q1 x t R0 j L (.slice lq L.length lc) las q c R) (hl : L.length ≤ 16) (hw : w0.heap.size ≤ W1.heap.size) :
    GW E w0 (W.setCell ⟨gg, 2, none⟩ (.slice lq L.length lc)) gg { x with last := las, wts := L, wp := lq, wc := lc } q c (R0 ++ R) ∧ Kept (GF gg q1) W1 (W.setCell ⟨gg, 2, none⟩ (.slice lq L.length lc)) := by
  have hk : Kept (fun b => b = gg) W (W.setCell ⟨gg, 2, none⟩ (.slice lq L.length lc)) := (Kept.refl (fun b => b = gg) W).setCell (p := ⟨gg, 2, none⟩) (.inl rfl) _
  have f : ∀ k, k = gg → GF gg q k := fun k e => .inl e
  have hlo := own_kept h.lo hk (fun b hb e => own_apart h.lo h.gw.box (by decide) (by rw [hb, e]))
  have s := h.gw.sp.keptF hk (h.gw.off.mono f)
  refine ⟨⟨?_, ⟨s.its, s.it, RowL.of_own wv_len rfl hlo, fun y hy => s.wt y (h.lm y hy), s.l4, s.la, s.n, by show L.length ≤ _; omega⟩, ⟨h.gw.off.its, h.gw.off.it, fun _ k hk' e => ?_, fun y hy => h.gw.off.wt y (h.lm y hy), h.gw.off.la⟩, own_kept h.gw.ro hk (fun b hb e => own_apart h.gw.ro h.gw.box (by decide) (by rw [hb, e])), fun y hy => (h.gw.rt y hy).keptF hk ((h.gw.rof y hy).mono f), h.gw.rof, h.gw.ge, ?_, ⟨h.gw.oe.its, h.gw.oe.it, fun _ k hk' e => by have h1 := (h.lo.lt k hk'.own).1; have h2 := h.gw.eo k e; omega, fun y hy => h.gw.oe.wt y (h.lm y hy), h.gw.oe.la⟩, h.gw.eo⟩, h.kp.trans (hk.mono fun k e => .inl e)⟩
  · exact h.gw.box.store 2 (.slice lq L.length lc)
  · rcases e with e | e
    · exact own_apart h.lo h.gw.box (by decide) (by rw [← e]; exact hk'.own)
    · exact own_two h.gw.ro h.lo (by decide) e.own hk'.own
  · exact h.gw.bel.trans ⟨hk.os, hk.tape, hk.output, hk.size, fun b hb => hk.block b (Nat.lt_of_lt_of_le hb h.gw.bel.size) (fun e => by have := h.gw.ge; omega)⟩
/-- The items are put in their place. -/
theorem GW.items {w0 W W' : World} {gg c : Nat} {x : Spv} {q : Option Addr} {R : List Rpv} {l : List Itv} {lq : Option Addr} {lc : Nat} (h : GW E w0 W gg x q c R) (hb : Below W.heap.size W W') (ho : W'.ownsRow W.heap.size 65 3 (.slice lq l.length lc) l.length (l.flatMap iv)) (ht : ∀ y ∈ l, TR W' y.p y.i.t) (hto : ∀ y ∈ l, OffT (GF gg q) y.p y.i.t) (hte : ∀ y ∈ l, OffT E y.p y.i.t) (hn : l.length ≤ 1000) :
    GW E w0 (W'.setCell ⟨gg, 1, none⟩ (.slice lq l.length lc)) gg { x with its := l, ip := lq, ic := lc } q c R ∧ Kept (GF gg q) W (W'.setCell ⟨gg, 1, none⟩ (.slice lq l.length lc)) := by
  have g := h.below hb
  have hk : Kept (fun b => b = gg) W' (W'.setCell ⟨gg, 1, none⟩ (.slice lq l.length lc)) := (Kept.refl (fun b => b = gg) W').setCell (p := ⟨gg, 1, none⟩) (.inl rfl) _
  have f : ∀ k, k = gg → GF gg q k := fun k e => .inl e
  have hlo := own_kept ho hk (fun b hb' e => own_apart ho g.box (by decide) (by rw [hb', e]))
  have s := g.sp.keptF hk (g.off.mono f)
  refine ⟨⟨?_, ⟨RowL.of_own iv_len rfl hlo, fun y hy => (ht y hy).keptF hk ((hto y hy).mono f), s.wts, s.wt, s.l4, s.la, by show l.length ≤ _; omega, s.m⟩, ⟨fun _ k hk' e => ?_, hto, g.off.wts, g.off.wt, g.off.la⟩, own_kept g.ro hk (fun b hb e => own_apart g.ro g.box (by decide) (by rw [hb, e])), fun y hy => (g.rt y hy).keptF hk ((g.rof y hy).mono f), g.rof, g.ge, ?_, ⟨fun _ k hk' e => by have h1 := (ho.lt k hk'.own).1; have h2 := g.eo k e; have h3 := h.bel.size; omega, hte, g.oe.wts, g.oe.wt, g.oe.la⟩, g.eo⟩, (Kept.of_below hb).trans (hk.mono f)⟩
  · exact g.box.store 1 (.slice lq l.length lc)
  · have := (ho.lt k hk'.own).1
    exact h.notq this e
  · exact g.bel.trans ⟨hk.os, hk.tape, hk.output, hk.size, fun b hb => hk.block b (Nat.lt_of_lt_of_le hb g.bel.size) (fun e => by have := g.ge; omega)⟩
end Go.Proofs.YtojianpbjckipaaDoor
