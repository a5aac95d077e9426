/-
  PACKAGE space: wake.
-/
import Derived.Test.YtphgognhjdbdjaaDoorSpLk
namespace Go.Proofs.YtphgognhjdbdjaaDoor
open Go Go.RowKit Sh

theorem wake_snoc (t : List Fld) (x : Wt) : ∀ l : List Wt, wakeP t (l ++ [x]) = (if ((wakeP t l).2.2 || !mT x.p t) = true then ((wakeP t l).1 ++ [x], (wakeP t l).2.1, (wakeP t l).2.2) else ((wakeP t l).1, (wakeP t l).2.1 ++ [lateP t x], x.tk))
  | [] => by
    cases hm : mT x.p t <;> cases hk : x.tk <;> simp [wakeP, hm, hk]
  | y :: l => by
    have ih := wake_snoc t x l
    cases hm : mT y.p t with
    | true =>
      cases hk : y.tk with
      | true => simp [wakeP, hm, hk]
      | false =>
        simp only [List.cons_append, wakeP, hm, hk, if_true]
        rw [ih]
        by_cases hc : ((wakeP t l).2.2 || !mT x.p t) = true
        · simp [hc]
        · simp [hc]
    | false =>
      simp only [List.cons_append, wakeP, hm]
      rw [ih]
      by_cases hc : ((wakeP t l).2.2 || !mT x.p t) = true
      · simp [hc]
      · simp [hc]
/-- A row of another kind grows: this one stays. -/
theorem own_grown_blk {w w' : World} {base : Nat} {e t : TypeId} {size n g : Nat} {v : Value} {xs cs : List Value} (h : w.ownsRow base e size v n xs) (hg : w.grownBy w' v.ownBlock) (hb : Blk w g t cs) (hne : e ≠ t) : Blk w' g t cs :=
  (hg.block g hb.lt (fun e' => own_apart h hb hne e'.symm)).trans hb
theorem own_grown {w w' : World} {B B' : Nat} {e e' : TypeId} {sz sz' n n' : Nat} {v v' : Value} {xs xs' : List Value} (h : w.ownsRow B e sz v n xs) (ho : w.ownsRow B' e' sz' v' n' xs') (hg : w.grownBy w' v'.ownBlock) (hne : e' ≠ e) : w'.ownsRow B e sz v n xs :=
  own_kept (F := fun k => v'.ownBlock = some k) h ((Kept.refl (fun k => v'.ownBlock = some k) w).grown hg (fun _ hk => .inl hk)) (fun _ hk e' => own_two ho h hne e' hk)
/-- Where wake stands. -/
structure WK (w0 W : World) (t : List Fld) (x : Spv) (j : Nat) (L : List Wtv) (R : List Rpv) (lv rw : Value) : Prop where
  lo : W.ownsRow w0.heap.size 94 4 lv L.length (L.flatMap wv)
  ro : W.ownsRow w0.heap.size 43 5 rw R.length (R.flatMap pv)
  rt : ∀ y ∈ R, FT W w0.heap.size y.p y.c y.r.t
  lm : ∀ y ∈ L, y ∈ x.wts
  ll : L.length ≤ j
  rl : R.length ≤ j
  le : L.map (·.x) = (wakeP t ((x.wts.take j).map (·.x))).1
  re : R.map (·.r) = (wakeP t ((x.wts.take j).map (·.x))).2.1
  bel : Below w0.heap.size w0 W
theorem WK.below {w0 W W' : World} {t : List Fld} {x : Spv} {j : Nat} {L : List Wtv} {R : List Rpv} {lv rw : Value} (h : WK w0 W t x j L R lv rw) (hb : Below W.heap.size W W') : WK w0 W' t x j L R lv rw :=
  ⟨own_below h.lo hb, own_below h.ro hb, fun y hy => (h.rt y hy).below hb, h.lm, h.ll, h.rl, h.le, h.re, h.bel.trans (hb.mono h.bel.size)⟩
theorem wake_take {t : List Fld} {x : Spv} {j : Nat} {y : Wtv} (hy : x.wts[j]? = some y) : wakeP t ((x.wts.take (j + 1)).map (·.x)) = (if ((wakeP t ((x.wts.take j).map (·.x))).2.2 || !mT y.x.p t) = true then ((wakeP t ((x.wts.take j).map (·.x))).1 ++ [y.x], (wakeP t ((x.wts.take j).map (·.x))).2.1, (wakeP t ((x.wts.take j).map (·.x))).2.2) else ((wakeP t ((x.wts.take j).map (·.x))).1, (wakeP t ((x.wts.take j).map (·.x))).2.1 ++ [lateP t y.x], y.x.tk)) := by
  rw [take_snoc hy, List.map_append]
  exact wake_snoc t y.x _
theorem WK.left {w0 W W' : World} {t : List Fld} {x : Spv} {j : Nat} {L : List Wtv} {R : List Rpv} {lv rw lv' : Value} {y : Wtv} (h : WK w0 W t x j L R lv rw) (hy : x.wts[j]? = some y) (hc : ((wakeP t ((x.wts.take j).map (·.x))).2.2 || !mT y.x.p t) = true)
    (ho : W'.ownsRow w0.heap.size 94 4 lv' (L.length + 1) (L.flatMap wv ++ [y].flatMap wv)) (hg : W.grownBy W' lv.ownBlock) : WK w0 W' t x (j + 1) (L ++ [y]) R lv' rw := by
  have e := wake_take (t := t) hy
  rw [if_pos hc] at e
  refine ⟨?_, own_grown h.ro h.lo hg (by decide), fun z hz => own_grown (h.rt z hz) h.lo hg (by decide), fun z hz => ?_, ?_, Nat.le_succ_of_le h.rl, ?_, ?_, h.bel.grown hg h.bel.size (fun k e => (h.lo.lt k e).1)⟩
  · rw [List.length_append, List.flatMap_append]
    exact ho
  · rcases List.mem_append.1 hz with hz | hz
    · exact h.lm z hz
    · rw [List.mem_singleton.1 hz]; exact List.mem_of_getElem? hy
  · rw [List.length_append]; exact Nat.succ_le_succ h.ll
  · rw [e, List.map_append, h.le]; rfl
  · rw [e, h.re]
theorem row_one {α : Type} (f : α → List Value) (sz : Nat) (x : α) (w : World) (e : TypeId) : RowL (w.alloc (.cells (f x).toArray e)) (some ⟨w.heap.size, 0, none⟩) sz f [x] := fun j y hy => by
  cases j with
  | zero =>
    obtain rfl : x = y := by simpa using hy
    exact ⟨w.heap.size, 0, rfl, by simp, by simpa using rows_of_blk (Blk.new w e (f x))⟩
  | succ j => simp at hy
section
variable {P : Program} {ops : Array Oper} {rest : List Oper} {o : Oper} {a : Act} {w : World} {Q : Exit → Act → World → Prop}
/-- A literal row of one. -/
theorem wp_build1 {K : Act → World → Prop} (t e : TypeId) (x : Operand) (ho : o.op = .buildSlice t 1 #[(0, x)]) (cs : List Value) (hx : a.eval x = .agg cs.toArray)
    (hb : (Instr.buildSlice t 1 #[(0, .agg cs.toArray)]).run P w = .ok (.slice (some ⟨w.heap.size, 0, none⟩) 1 1) (w.alloc (.cells cs.toArray e)))
    (h : K (a.put o.dst (.slice (some ⟨w.heap.size, 0, none⟩) 1 1)) (w.alloc (.cells cs.toArray e))) : o.wp P a w K Q := by
  have e : ((#[(0, x)] : Array (Nat × Operand)).map fun (i, x) => (i, a.eval x)) = #[(0, .agg cs.toArray)] := by simp [hx]
  unfold Oper.wp execOp
  simp only [ho, e, Sem.run_bind, hb, Result.andThen_ok]
  exact h
theorem build1 (t e : TypeId) (x : Operand) (hgd : o.guard = none) (ho : o.op = .buildSlice t 1 #[(0, x)]) (cs : List Value) (hx : a.eval x = .agg cs.toArray)
    (hb : (Instr.buildSlice t 1 #[(0, .agg cs.toArray)]).run P w = .ok (.slice (some ⟨w.heap.size, 0, none⟩) 1 1) (w.alloc (.cells cs.toArray e)))
    (h : wpList P ops Q rest (a.put o.dst (.slice (some ⟨w.heap.size, 0, none⟩) 1 1)) (w.alloc (.cells cs.toArray e))) : wpList P ops Q (o :: rest) a w :=
  wpList_plain hgd fun _ hK => wp_build1 t e x ho cs hx hb (hK _ _ h)
end
theorem build_wv (y : Wtv) (W : World) : (Instr.buildSlice 40 1 #[(0, .agg (wv y).toArray)]).run Tryd.prog W = .ok (.slice (some ⟨W.heap.size, 0, none⟩) 1 1) (W.alloc (.cells (wv y).toArray 94)) := by
  kernel_rfl
theorem build_iv (y : Itv) (W : World) : (Instr.buildSlice 39 1 #[(0, .agg (iv y).toArray)]).run Tryd.prog W = .ok (.slice (some ⟨W.heap.size, 0, none⟩) 1 1) (W.alloc (.cells (iv y).toArray 89)) := by
  kernel_rfl
end Go.Proofs.YtphgognhjdbdjaaDoor
