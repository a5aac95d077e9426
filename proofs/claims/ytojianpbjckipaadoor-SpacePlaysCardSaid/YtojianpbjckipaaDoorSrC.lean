/-
  THE REFERENCE: a space that is worked on; tell.
-/
import Derived.Test.YtojianpbjckipaaDoorSrB
namespace Go.Proofs.YtojianpbjckipaaDoor
open Go Go.RowKit Sh

/-- A row that isn't empty lies in no block of F. -/
def OffT (F : Nat → Prop) (p : Option Addr) (t : List Fld) : Prop := t ≠ [] → ∀ k, OB p k → ¬ F k
structure OffS (F : Nat → Prop) (x : Spv) : Prop where
  its : x.its ≠ [] → ∀ k, OB x.ip k → ¬ F k
  it : ∀ y ∈ x.its, OffT F y.p y.i.t
  wts : x.wts ≠ [] → ∀ k, OB x.wp k → ¬ F k
  wt : ∀ y ∈ x.wts, OffT F y.p y.x.p
  la : ∀ y ∈ x.last, OffT F y.p y.r.t
theorem RowL.keptF {α : Type} {w w' : World} {p : Option Addr} {sz : Nat} {f : α → List Value} {l : List α} {F : Nat → Prop} (h : RowL w p sz f l) (hk : Kept F w w') (ho : l ≠ [] → ∀ k, OB p k → ¬ F k) : RowL w' p sz f l := by
  by_cases hl : l = []
  · subst hl; exact RowL.nil
  · exact h.kept hk (fun a e => ho hl a.block ⟨a, e, rfl⟩)
theorem RowL.lt {α : Type} {w : World} {p : Option Addr} {sz : Nat} {f : α → List Value} {l : List α} (h : RowL w p sz f l) (hl : l ≠ []) {k : Nat} (hk : OB p k) : k < w.heap.size := by
  obtain ⟨b, o, e, hb, _⟩ := h.at (List.length_pos_iff.2 hl)
  obtain ⟨a, e2, rfl⟩ := hk
  rw [e] at e2
  injection e2 with e2
  rw [← e2]; exact hb
theorem TR.keptF {w w' : World} {p : Option Addr} {t : List Fld} {F : Nat → Prop} (h : TR w p t) (hk : Kept F w w') (ho : OffT F p t) : TR w' p t := ⟨rw_row.2 ((rw_row.1 h.t).keptF hk ho), h.n⟩
theorem TR.offNew {w : World} {p : Option Addr} {t : List Fld} {F : Nat → Prop} (h : TR w p t) (hF : ∀ k, F k → w.heap.size ≤ k) : OffT F p t := fun ht k hk hf => by
  have := (rw_row.1 h.t).lt ht hk
  have := hF k hf
  omega
theorem OffT.mono {F G : Nat → Prop} {p : Option Addr} {t : List Fld} (h : OffT F p t) (hg : ∀ k, G k → F k) : OffT G p t := fun ht k hk hf => h ht k hk (hg k hf)
theorem OffT.or {F G : Nat → Prop} {p : Option Addr} {t : List Fld} (h : OffT F p t) (h2 : OffT G p t) : OffT (fun k => F k ∨ G k) p t := fun ht k hk hf => hf.elim (h ht k hk) (h2 ht k hk)
theorem OffS.mono {F G : Nat → Prop} {x : Spv} (h : OffS F x) (hg : ∀ k, G k → F k) : OffS G x :=
  ⟨fun a k b c => h.its a k b (hg k c), fun y hy => (h.it y hy).mono hg, fun a k b c => h.wts a k b (hg k c), fun y hy => (h.wt y hy).mono hg, fun y hy => (h.la y hy).mono hg⟩
theorem OffS.or {F G : Nat → Prop} {x : Spv} (h : OffS F x) (g : OffS G x) : OffS (fun k => F k ∨ G k) x :=
  ⟨fun a k b c => c.elim (h.its a k b) (g.its a k b), fun y hy => (h.it y hy).or (g.it y hy), fun a k b c => c.elim (h.wts a k b) (g.wts a k b), fun y hy => (h.wt y hy).or (g.wt y hy), fun y hy => (h.la y hy).or (g.la y hy)⟩
theorem SpW.keptF {w w' : World} {x : Spv} {F : Nat → Prop} (h : SpW w x) (hk : Kept F w w') (ho : OffS F x) : SpW w' x :=
  ⟨h.its.keptF hk ho.its, fun y hy => (h.it y hy).keptF hk (ho.it y hy), h.wts.keptF hk ho.wts, fun y hy => (h.wt y hy).keptF hk (ho.wt y hy), h.l4, fun y hy => (h.la y hy).keptF hk (ho.la y hy), h.n, h.m⟩
theorem SpW.offNew {w : World} {x : Spv} {F : Nat → Prop} (h : SpW w x) (hF : ∀ k, F k → w.heap.size ≤ k) : OffS F x :=
  ⟨fun a k b c => (by have := h.its.lt a b; have := hF k c; omega), fun y hy => (h.it y hy).offNew hF, fun a k b c => (by have := h.wts.lt a b; have := hF k c; omega), fun y hy => (h.wt y hy).offNew hF, fun y hy => (h.la y hy).offNew hF⟩
/-- The blocks that are written. -/
def GF (gg : Nat) (q : Option Addr) : Nat → Prop := fun k => k = gg ∨ OB q k
def gB (x : Spv) (q : Option Addr) (n c : Nat) : List Value := sv x ++ [.slice q n c]
/-- A space that is worked on, and its replies. -/
structure GW (E : Nat → Prop) (w0 W : World) (gg : Nat) (x : Spv) (q : Option Addr) (c : Nat) (R : List Rpv) : Prop where
  box : Blk W gg 68 (gB x q R.length c)
  sp : SpW W x
  off : OffS (GF gg q) x
  ro : W.ownsRow w0.heap.size 28 5 (.slice q R.length c) R.length (R.flatMap pv)
  rt : ∀ y ∈ R, TR W y.p y.r.t
  rof : ∀ y ∈ R, OffT (GF gg q) y.p y.r.t
  ge : w0.heap.size ≤ gg
  bel : Below w0.heap.size w0 W
  oe : OffS E x
  eo : ∀ k, E k → k < w0.heap.size
section
variable {E : Nat → Prop}
theorem GW.below {w0 W W' : World} {gg c : Nat} {x : Spv} {q : Option Addr} {R : List Rpv} (h : GW E w0 W gg x q c R) (hb : Below W.heap.size W W') : GW E w0 W' gg x q c R :=
  ⟨h.box.below hb h.box.lt, h.sp.below hb, h.off, own_below h.ro hb, fun y hy => (h.rt y hy).below hb, h.rof, h.ge, h.bel.trans (hb.mono h.bel.size), h.oe, h.eo⟩
theorem gB_25 {x : Spv} {q : Option Addr} {n c : Nat} (h : x.last.length = 4) : (gB x q n c)[25]? = some (.slice q n c) := by
  have := sv_len x h
  unfold gB
  rw [List.getElem?_append_right (by omega), this]
  rfl
theorem gB_lo {x : Spv} {q : Option Addr} {n c i : Nat} (h : x.last.length = 4) (hi : i < 25) : (gB x q n c)[i]? = (sv x)[i]? := by
  unfold gB
  rw [List.getElem?_append_left (by rw [sv_len x h]; exact hi)]
theorem GW.out {w0 W : World} {gg c : Nat} {x : Spv} {q : Option Addr} {R : List Rpv} (h : GW E w0 W gg x q c R) : W.cell? ⟨gg, 25, none⟩ = some (.slice q R.length c) := (h.box.cell 25).trans (gB_25 h.sp.l4)
theorem GW.cells {w0 W : World} {gg c : Nat} {x : Spv} {q : Option Addr} {R : List Rpv} (h : GW E w0 W gg x q c R) :
    W.cell? ⟨gg, 0, none⟩ = some (.int .i64 x.now) ∧ W.cell? ⟨gg, 1, none⟩ = some (.slice x.ip x.its.length x.ic) ∧ W.cell? ⟨gg, 2, none⟩ = some (.slice x.wp x.wts.length x.wc) :=
  ⟨(h.box.cell 0).trans (gB_lo h.sp.l4 (by decide)), (h.box.cell 1).trans (gB_lo h.sp.l4 (by decide)), (h.box.cell 2).trans (gB_lo h.sp.l4 (by decide))⟩
theorem set_len4 {x : Spv} {k : Nat} {z : Rpv} (h : x.last.length = 4) : ({ x with last := x.last.set k z } : Spv).last.length = 4 := by
  show (x.last.set k z).length = 4
  rw [List.length_set, h]
theorem SpW.setLast {w : World} {x : Spv} {k : Nat} {z : Rpv} (h : SpW w x) (hz : TR w z.p z.r.t) : SpW w { x with last := x.last.set k z } :=
  ⟨h.its, h.it, h.wts, h.wt, set_len4 h.l4, fun y hy => by
    rcases List.mem_or_eq_of_mem_set hy with hy | rfl
    · exact h.la y hy
    · exact hz, h.n, h.m⟩
theorem OffS.setLast {F : Nat → Prop} {x : Spv} {k : Nat} {z : Rpv} (h : OffS F x) (hz : OffT F z.p z.r.t) : OffS F { x with last := x.last.set k z } :=
  ⟨h.its, h.it, h.wts, h.wt, fun y hy => by
    rcases List.mem_or_eq_of_mem_set hy with hy | rfl
    · exact h.la y hy
    · exact hz⟩
theorem gB_at (x : Spv) (j : Nat) (y : Rpv) (q : Option Addr) (n c : Nat) (hy : x.last[j]? = some y) : gB x q n c = svL x j ++ (pv y ++ (svR x j ++ [.slice q n c])) := by
  unfold gB
  rw [sv_at x j y hy, List.append_assoc, List.append_assoc]
theorem gB_put (x : Spv) (j : Nat) (y y' : Rpv) (q : Option Addr) (n c : Nat) (hy : x.last[j]? = some y) : svL x j ++ (pv y' ++ (svR x j ++ [.slice q n c])) = gB { x with last := x.last.set j y' } q n c := by
  unfold gB
  rw [← List.append_assoc, ← List.append_assoc, List.append_assoc (svL x j), sv_put x j y y' hy]
/-- The last reply is written. -/
theorem GW.last {w0 W W' : World} {gg c k : Nat} {x : Spv} {q : Option Addr} {R : List Rpv} {z : Rpv} (h : GW E w0 W gg x q c R) (hz : TR W z.p z.r.t) (ho : OffT (GF gg q) z.p z.r.t) (hz2 : OffT E z.p z.r.t) (hk : Kept (fun b => b = gg) W W') (hb : Blk W' gg 68 (gB { x with last := x.last.set k z } q R.length c)) :
    GW E w0 W' gg { x with last := x.last.set k z } q c R := by
  have f : ∀ k, k = gg → GF gg q k := fun k e => .inl e
  refine ⟨hb, (h.sp.setLast hz).keptF hk ((h.off.setLast ho).mono f), h.off.setLast ho, own_kept h.ro hk (fun b hb' e => own_apart h.ro h.box (by decide) (by rw [hb', e])), fun y hy => (h.rt y hy).keptF hk ((h.rof y hy).mono f), h.rof, h.ge, ?_, h.oe.setLast hz2, h.eo⟩
  exact h.bel.trans ⟨hk.os, hk.tape, hk.output, hk.size, fun b hb => hk.block b (Nat.lt_of_lt_of_le hb h.bel.size) (fun e => by have := h.ge; omega)⟩
/-- A reply more. -/
theorem GW.more {w0 W W1 : World} {gg c c' : Nat} {x : Spv} {q q' : Option Addr} {R : List Rpv} {z : Rpv} (h : GW E w0 W gg x q c R) (hz : TR W z.p z.r.t) (ho : OffT (GF gg q) z.p z.r.t)
    (hr : W1.ownsRow w0.heap.size 28 5 (.slice q' (R.length + 1) c') (R.length + 1) (R.flatMap pv ++ [z].flatMap pv)) (hg : W.grownBy W1 (Value.ownBlock (.slice q R.length c))) (hn : Value.ownBlock (.slice q' (R.length + 1) c') = Value.ownBlock (.slice q R.length c) ∨ Value.ownBlock (.slice q' (R.length + 1) c') = some W.heap.size) :
    GW E w0 (W1.setCell ⟨gg, 25, none⟩ (.slice q' (R.length + 1) c')) gg x q' c' (R ++ [z]) ∧ Kept (GF gg q) W (W1.setCell ⟨gg, 25, none⟩ (.slice q' (R.length + 1) c')) ∧ ∀ k, OB q' k → OB q k ∨ W.heap.size ≤ k := by
  have hq : ∀ k, OB q' k → OB q k ∨ W.heap.size ≤ k := fun k hk => by
    have e := hk.own (n := R.length + 1) (c := c')
    rcases hn with hn | hn
    · rw [hn] at e; exact .inl (ob_own' e)
    · rw [hn] at e
      injection e with e
      exact .inr (by omega)
  have hb1 : Blk W1 gg 68 (gB x q R.length c) := own_grown_blk h.ro hg h.box (by decide)
  have hk1 : Kept (GF gg q) W W1 := (Kept.refl (GF gg q) W).grown hg (fun k e => .inl (.inr (ob_own' e)))
  have hk2 : Kept (fun b => b = gg) W1 (W1.setCell ⟨gg, 25, none⟩ (.slice q' (R.length + 1) c')) := (Kept.refl (fun b => b = gg) W1).setCell (p := ⟨gg, 25, none⟩) (.inl rfl) _
  have hk : Kept (GF gg q) W (W1.setCell ⟨gg, 25, none⟩ (.slice q' (R.length + 1) c')) := hk1.trans (hk2.mono fun k e => .inl e)
  have hof : ∀ {p : Option Addr} {t : List Fld}, TR W p t → OffT (GF gg q) p t → OffT (GF gg q') p t := fun ht ho hne k hk hf => by
    rcases hf with e | e
    · exact ho hne k hk (.inl e)
    · rcases hq k e with e | e
      · exact ho hne k hk (.inr e)
      · have := (rw_row.1 ht.t).lt hne hk
        omega
  have hos : OffS (GF gg q') x := ⟨fun hne k hk hf => by
      rcases hf with e | e
      · exact h.off.its hne k hk (.inl e)
      · rcases hq k e with e | e
        · exact h.off.its hne k hk (.inr e)
        · have := h.sp.its.lt hne hk
          omega, fun y hy => hof (h.sp.it y hy) (h.off.it y hy), fun hne k hk hf => by
      rcases hf with e | e
      · exact h.off.wts hne k hk (.inl e)
      · rcases hq k e with e | e
        · exact h.off.wts hne k hk (.inr e)
        · have := h.sp.wts.lt hne hk
          omega, fun y hy => hof (h.sp.wt y hy) (h.off.wt y hy), fun y hy => hof (h.sp.la y hy) (h.off.la y hy)⟩
  refine ⟨⟨?_, h.sp.keptF hk h.off, hos, ?_, fun y hy => ?_, fun y hy => ?_, h.ge, ?_, h.oe, h.eo⟩, hk, hq⟩
  · have e := hb1.store 25 (.slice q' (R.length + 1) c')
    have e2 : (gB x q R.length c).set 25 (.slice q' (R.length + 1) c') = gB x q' (R ++ [z]).length c' := by
      unfold gB
      rw [List.set_append_right _ _ (by rw [sv_len x h.sp.l4]; exact Nat.le_refl _), sv_len x h.sp.l4, List.length_append]
      rfl
    rw [← e2]
    exact e
  · rw [List.length_append, List.flatMap_append]
    exact own_kept hr hk2 (fun b hb' e => own_apart hr hb1 (by decide) (by have := hb'; rw [e] at this; exact this))
  · rcases List.mem_append.1 hy with hy | hy
    · exact (h.rt y hy).keptF hk (h.rof y hy)
    · rw [List.mem_singleton.1 hy]; exact hz.keptF hk ho
  · rcases List.mem_append.1 hy with hy | hy
    · exact hof (h.rt y hy) (h.rof y hy)
    · rw [List.mem_singleton.1 hy]; exact hof hz ho
  · refine h.bel.trans ⟨hk.os, hk.tape, hk.output, hk.size, fun b hb => hk.block b (Nat.lt_of_lt_of_le hb h.bel.size) (fun e => ?_)⟩
    rcases e with e | e
    · have := h.ge; omega
    · have := (h.ro.lt b e.own).1; omega
end
end Go.Proofs.YtojianpbjckipaaDoor
