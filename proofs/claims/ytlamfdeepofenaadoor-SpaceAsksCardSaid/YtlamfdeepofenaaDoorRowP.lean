/-
  LAYER 8's ROWS: a space that came in.
-/
import Derived.Test.YtlamfdeepofenaaDoorRowK
import Derived.Test.YtlamfdeepofenaaDoorSpN
namespace Go.Proofs.YtlamfdeepofenaaDoor
open Go.ChangeShapes Go.WideShapes Go.ChangeAt Go.RowKit Go.Deep Sh

theorem cellsItem : Tryd.prog.cellsOf 64 = 3 := by kernel_rfl
theorem cellsWaiter : Tryd.prog.cellsOf 67 = 4 := by kernel_rfl
theorem cellsReply : Tryd.prog.cellsOf 30 = 5 := by kernel_rfl
theorem cellsSpace : Tryd.prog.cellsOf 33 = 25 := by kernel_rfl
theorem cellsItems : Tryd.prog.cellsOf 27 = 1 := by kernel_rfl
theorem cellsWaiters : Tryd.prog.cellsOf 28 = 1 := by kernel_rfl
theorem cellsLast : Tryd.prog.cellsOf 31 = 20 := by kernel_rfl
theorem tr_of {W : World} {q : Option Addr} {k : Nat} {G : Nat → Fld} (h : Rw W q k G) (hk : k ≤ maxLen) : TR W q (fl k G) := tr_fl h (by unfold maxLen at hk; omega)
set_option maxRecDepth 100000 in
theorem open_itc {H : Type} {enc : TypeId × Value → H} {W : World} {l : List Value} {fuel : Nat} {y : DataW H × List MemPlace} (hf : DataW.trod enc Tryd.prog W 0 (fun _ => true) true fuel 64 l = some y) :
    ∃ x : Itv, l = iv x ∧ TR W x.p x.i.t := by
  obtain ⟨xs, n, _, _, hl, hlen, hff⟩ := DataW.trod_struct Tryd.underlying64 hf
  have h0 := hff 0 _ rfl
  have h1 := hff 1 _ rfl
  have h2 := hff 2 _ rfl
  rw [cellsItem] at hl
  match xs, hlen with
  | [x0, x1, x2], _ =>
    obtain ⟨n0, c0, _, _⟩ := DataW.trod_int Tryd.underlying3 h0
    obtain ⟨n1, c1, _, _⟩ := DataW.trod_int Tryd.underlying3 h1
    change List.take (Tryd.prog.cellsOf 3) (List.drop 0 l) = _ at c0
    change List.take (Tryd.prog.cellsOf 3) (List.drop 1 l) = _ at c1
    change DataW.trod enc Tryd.prog W 0 (fun _ => true) true n 23 (List.take (Tryd.prog.cellsOf 23) (List.drop 2 l)) = some x2 at h2
    rw [cellsIntF] at c0 c1
    rw [cellsRowF] at h2
    match l, hl with
    | [l0, l1, l2], _ =>
      simp at c0 c1
      obtain ⟨q, k, c, G, rfl, r1, i1, m1⟩ := open_fldc (v := l2) h2
      subst c0; subst c1
      exact ⟨⟨⟨n0, n1, fl k G⟩, q, c⟩, by unfold iv; rw [fl_length], tr_of r1 m1⟩
set_option maxRecDepth 100000 in
theorem open_wtc {H : Type} {enc : TypeId × Value → H} {W : World} {l : List Value} {fuel : Nat} {y : DataW H × List MemPlace} (hf : DataW.trod enc Tryd.prog W 0 (fun _ => true) true fuel 67 l = some y) :
    ∃ x : Wtv, l = wv x ∧ TR W x.p x.x.p := by
  obtain ⟨xs, n, _, _, hl, hlen, hff⟩ := DataW.trod_struct Tryd.underlying67 hf
  have h0 := hff 0 _ rfl
  have h1 := hff 1 _ rfl
  have h2 := hff 2 _ rfl
  have h3 := hff 3 _ rfl
  rw [cellsWaiter] at hl
  match xs, hlen with
  | [x0, x1, x2, x3], _ =>
    obtain ⟨n0, c0, _, _⟩ := DataW.trod_int Tryd.underlying3 h0
    obtain ⟨n1, c1, _, _⟩ := DataW.trod_int Tryd.underlying3 h1
    obtain ⟨b2, c2, _⟩ := DataW.trod_bool Tryd.underlying4 h2
    change List.take (Tryd.prog.cellsOf 3) (List.drop 0 l) = _ at c0
    change List.take (Tryd.prog.cellsOf 3) (List.drop 1 l) = _ at c1
    change List.take (Tryd.prog.cellsOf 4) (List.drop 2 l) = _ at c2
    change DataW.trod enc Tryd.prog W 0 (fun _ => true) true n 23 (List.take (Tryd.prog.cellsOf 23) (List.drop 3 l)) = some x3 at h3
    rw [cellsIntF] at c0 c1
    rw [cellsBoolF] at c2
    rw [cellsRowF] at h3
    match l, hl with
    | [l0, l1, l2, l3], _ =>
      simp at c0 c1 c2
      obtain ⟨q, k, c, G, rfl, r1, i1, m1⟩ := open_fldc (v := l3) h3
      subst c0; subst c1; subst c2
      exact ⟨⟨⟨n0, n1, b2, fl k G⟩, q, c⟩, by unfold wv; rw [fl_length], tr_of r1 m1⟩
set_option maxRecDepth 100000 in
theorem open_rpc {H : Type} {enc : TypeId × Value → H} {W : World} {l : List Value} {fuel : Nat} {y : DataW H × List MemPlace} (hf : DataW.trod enc Tryd.prog W 0 (fun _ => true) true fuel 30 l = some y) :
    ∃ x : Rpv, l = pv x ∧ TR W x.p x.r.t := by
  obtain ⟨xs, n, _, _, hl, hlen, hff⟩ := DataW.trod_struct Tryd.underlying30 hf
  have h0 := hff 0 _ rfl
  have h1 := hff 1 _ rfl
  have h2 := hff 2 _ rfl
  have h3 := hff 3 _ rfl
  have h4 := hff 4 _ rfl
  rw [cellsReply] at hl
  match xs, hlen with
  | [x0, x1, x2, x3, x4], _ =>
    obtain ⟨n0, c0, _, _⟩ := DataW.trod_int Tryd.underlying3 h0
    obtain ⟨n1, c1, _, _⟩ := DataW.trod_int Tryd.underlying3 h1
    obtain ⟨n2, c2, _, _⟩ := DataW.trod_int Tryd.underlying3 h2
    obtain ⟨b4, c4, _⟩ := DataW.trod_bool Tryd.underlying4 h4
    change List.take (Tryd.prog.cellsOf 3) (List.drop 0 l) = _ at c0
    change List.take (Tryd.prog.cellsOf 3) (List.drop 1 l) = _ at c1
    change List.take (Tryd.prog.cellsOf 3) (List.drop 2 l) = _ at c2
    change List.take (Tryd.prog.cellsOf 4) (List.drop 4 l) = _ at c4
    change DataW.trod enc Tryd.prog W 0 (fun _ => true) true n 23 (List.take (Tryd.prog.cellsOf 23) (List.drop 3 l)) = some x3 at h3
    rw [cellsIntF] at c0 c1 c2
    rw [cellsBoolF] at c4
    rw [cellsRowF] at h3
    match l, hl with
    | [l0, l1, l2, l3, l4], _ =>
      simp at c0 c1 c2 c4
      obtain ⟨q, k, c, G, rfl, r1, i1, m1⟩ := open_fldc (v := l3) h3
      subst c0; subst c1; subst c2; subst c4
      exact ⟨⟨⟨n0, n1, n2, fl k G, b4⟩, q, c⟩, by unfold pv; rw [fl_length], tr_of r1 m1⟩
/-- A row of things in a cell of what came in. -/
theorem open_rowc {H : Type} {enc : TypeId × Value → H} {W : World} {α : Type} {T e : TypeId} {sz : Nat} (f : α → List Value) (Q : α → Prop) (z : α) (hT : Tryd.prog.underlying T = some (.slice e)) (hsz : Tryd.prog.cellsOf e = sz) (hpos : 0 < sz) (hlen : ∀ x, (f x).length = sz)
    (opn : ∀ {l : List Value} {fuel : Nat} {y : DataW H × List MemPlace}, DataW.trod enc Tryd.prog W 0 (fun _ => true) true fuel e l = some y → ∃ x : α, l = f x ∧ Q x)
    {v : Value} {fuel : Nat} {x : DataW H × List MemPlace} (hf : DataW.trod enc Tryd.prog W 0 (fun _ => true) true fuel T [v] = some x) :
    ∃ (q : Option Addr) (c : Nat) (l : List α), v = .slice q l.length c ∧ RowL W q sz f l ∧ (∀ y ∈ l, Q y) ∧ l.length ≤ maxLen := by
  rcases open_slice hT hf with ⟨hcs, _⟩ | ⟨a, len, cap, m, k, D, Pl, hcs, _, hl, hm, hmm, _, hx⟩
  · obtain rfl := List.cons.inj hcs |>.1
    exact ⟨none, 0, [], rfl, RowL.nil, fun y hy => by simp at hy, Nat.zero_le _⟩
  · obtain rfl := List.cons.inj hcs |>.1
    have hlm : len ≤ m := by rw [hmm]; simp; omega
    obtain ⟨b, o, spot⟩ := a
    have key : ∀ i, ∃ x : α, i < len → spot = none ∧ Q x ∧ b < W.heap.size ∧ W.rangeAt b (o + i * sz) (f x) := fun i => by
      by_cases hi : i < len
      · obtain ⟨cs', hc, ht⟩ := hx i (by omega)
        rw [hsz] at hc
        obtain ⟨x, rfl, hq⟩ := opn ht
        obtain ⟨_, _, hcell⟩ := World.cells?_some hc
        have hsp : spot = none := by
          obtain ⟨cs0, hc0, ht0⟩ := hx 0 (by omega)
          rw [hsz] at hc0
          obtain ⟨x00, rfl, _⟩ := opn ht0
          have h00 := (World.cells?_some hc0).2.2 0 hpos
          rw [List.getElem?_eq_getElem (by rw [hlen]; exact hpos)] at h00
          have hs0 := World.cell?_spot h00
          simpa [Addr.add] using hs0
        subst hsp
        have e2 : ∀ (o c : Nat), (⟨b, o, none⟩ : Addr).add c = ⟨b, o + c, none⟩ := fun o c => by unfold Addr.add; split <;> simp_all
        have hr : W.rangeAt b (o + i * sz) (f x) := fun j v hv => by
          have hj : j < sz := by have := (List.getElem?_eq_some_iff.1 hv).1; rwa [hlen] at this
          have h := hcell j hj
          rw [e2, e2] at h
          exact h.trans hv
        have h0 : 0 < (f x).length := by rw [hlen]; exact hpos
        exact ⟨x, fun _ => ⟨rfl, hq, World.block_lt_of_cell? W _ (hr 0 _ (List.getElem?_eq_getElem h0)), hr⟩⟩
      · exact ⟨z, fun h => absurd h hi⟩
    obtain ⟨G, hG⟩ := Classical.axiomOfChoice key
    have hlen2 : ((List.range len).map G).length = len := by simp
    refine ⟨some ⟨b, o, spot⟩, cap, (List.range len).map G, by rw [hlen2], fun j x hx => ?_, fun y hy => ?_, by rw [hlen2]; omega⟩
    · rw [List.getElem?_map] at hx
      by_cases hj : j < len
      · rw [List.getElem?_range hj] at hx
        obtain rfl : G j = x := by simpa using hx
        obtain ⟨e, _, h1, h2⟩ := hG j hj
        subst e
        exact ⟨b, o, rfl, h1, h2⟩
      · rw [List.getElem?_eq_none (by simpa using hj)] at hx
        cases hx
    · obtain ⟨i, hi, rfl⟩ := List.mem_map.1 hy
      exact (hG i (List.mem_range.1 hi)).2.1
set_option maxRecDepth 100000 in
/-- A space that came in by value. -/
theorem open_space {H : Type} {enc : TypeId × Value → H} {W : World} {base : Nat} {v : Value} {d : DataW H} {p : List MemPlace} (hval : Value.okWide Tryd.prog W .any base 33 v) (h : DataW.Trod enc Tryd.prog W 0 (fun _ => true) true 33 v d p) :
    ∃ x : Spv, v = .agg (sv x).toArray ∧ SpW W x := by
  obtain ⟨cs, rfl, hsz, _⟩ : ∃ cs, v = .agg cs ∧ cs.size = Tryd.prog.cellsOf 33 ∧ Row.okWide Tryd.prog W .any base 33 cs := by
    simpa [Value.okWide, Tryd.underlying33] using hval
  obtain ⟨fuel, hf⟩ := h
  obtain ⟨xs, n, _, _, hl, hlen, hff⟩ := DataW.trod_struct Tryd.underlying33 hf
  have h0 := hff 0 _ rfl
  have h1 := hff 1 _ rfl
  have h2 := hff 2 _ rfl
  have h3 := hff 3 _ rfl
  have h4 := hff 4 _ rfl
  have h5 := hff 5 _ rfl
  rw [cellsSpace] at hl
  match xs, hlen with
  | [x0, x1, x2, x3, x4, x5], _ =>
    obtain ⟨n0, c0, _, _⟩ := DataW.trod_int Tryd.underlying3 h0
    obtain ⟨n3, c3, _, _⟩ := DataW.trod_int Tryd.underlying3 h3
    obtain ⟨n4, c4, _, _⟩ := DataW.trod_int Tryd.underlying3 h4
    obtain ⟨l⟩ := cs
    change List.take (Tryd.prog.cellsOf 3) (List.drop 0 l) = _ at c0
    change List.take (Tryd.prog.cellsOf 3) (List.drop 3 l) = _ at c3
    change List.take (Tryd.prog.cellsOf 3) (List.drop 4 l) = _ at c4
    change DataW.trod enc Tryd.prog W 0 (fun _ => true) true n 27 (List.take (Tryd.prog.cellsOf 27) (List.drop 1 l)) = some x1 at h1
    change DataW.trod enc Tryd.prog W 0 (fun _ => true) true n 28 (List.take (Tryd.prog.cellsOf 28) (List.drop 2 l)) = some x2 at h2
    change DataW.trod enc Tryd.prog W 0 (fun _ => true) true n 31 (List.take (Tryd.prog.cellsOf 31) (List.drop 5 l)) = some x5 at h5
    rw [cellsIntF] at c0 c3 c4
    rw [cellsItems] at h1
    rw [cellsWaiters] at h2
    rw [cellsLast] at h5
    obtain ⟨ys, k5, _, _, _, hyl, hel⟩ := DataW.trod_array Tryd.underlying31 h5
    have e0 := hel 0 (by decide); have e1 := hel 1 (by decide); have e2 := hel 2 (by decide); have e3 := hel 3 (by decide)
    rw [cellsReply] at e0 e1 e2 e3
    change l.length = 25 at hl
    match ys, hyl with
    | [y0, y1, y2, y3], _ =>
      obtain ⟨z0, g0, t0⟩ := open_rpc e0
      obtain ⟨z1, g1, t1⟩ := open_rpc e1
      obtain ⟨z2, g2, t2⟩ := open_rpc e2
      obtain ⟨z3, g3, t3⟩ := open_rpc e3
      match l, hl with
      | [l0, l1, l2, l3, l4, l5, l6, l7, l8, l9, l10, l11, l12, l13, l14, l15, l16, l17, l18, l19, l20, l21, l22, l23, l24], _ =>
        simp at c0 c3 c4
        obtain ⟨q1, d1, its, rfl, r1, i1, m1⟩ := open_rowc iv (fun y => TR W y.p y.i.t) ⟨⟨0, 0, []⟩, none, 0⟩ Tryd.underlying27 cellsItem (by decide) iv_len (fun hq => open_itc hq) (v := l1) h1
        obtain ⟨q2, d2, wts, rfl, r2, i2, m2⟩ := open_rowc wv (fun y => TR W y.p y.x.p) ⟨⟨0, 0, false, []⟩, none, 0⟩ Tryd.underlying28 cellsWaiter (by decide) wv_len (fun hq => open_wtc hq) (v := l2) h2
        subst c0; subst c3; subst c4
        change [l5, l6, l7, l8, l9] = pv z0 at g0
        change [l10, l11, l12, l13, l14] = pv z1 at g1
        change [l15, l16, l17, l18, l19] = pv z2 at g2
        change [l20, l21, l22, l23, l24] = pv z3 at g3
        refine ⟨⟨n0, its, q1, d1, wts, q2, d2, n3, n4, [z0, z1, z2, z3]⟩, ?_, ⟨r1, i1, r2, i2, rfl, ?_, by show its.length ≤ _; unfold maxLen at m1; omega, by show wts.length ≤ _; unfold maxLen at m2; omega⟩⟩
        · refine congrArg (fun l : List Value => Value.agg l.toArray) ?_
          show [_, _, _, _, _] ++ ([l5, l6, l7, l8, l9] ++ ([l10, l11, l12, l13, l14] ++ ([l15, l16, l17, l18, l19] ++ ([l20, l21, l22, l23, l24] ++ [])))) = _
          rw [g0, g1, g2, g3]
          rfl
        · intro y hy
          simp only [List.mem_cons, List.not_mem_nil, or_false] at hy
          rcases hy with rfl | rfl | rfl | rfl
          · exact t0
          · exact t1
          · exact t2
          · exact t3
end Go.Proofs.YtlamfdeepofenaaDoor
