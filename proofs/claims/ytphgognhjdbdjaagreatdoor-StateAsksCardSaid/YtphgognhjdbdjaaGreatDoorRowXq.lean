/-
  THE ROWS' ENDS, for any seat: what a law that answers true and turns nothing old owes; arguments opened.
  LAYER 8's ROWS: a []api.Field, a request, a row of numbers, of bools that came in; what the laid array gives; the world of the witness.
  LAYER 8's ROWS: a space that came in.
-/
import Derived.Test.YtphgognhjdbdjaaGreatDoorBaseMq
import Derived.Test.YtphgognhjdbdjaaGreatDoorRows
import Derived.WalkKit
import Derived.ProofKit
import Derived.OpenShut
import Derived.Carry
import Derived.JoinedCond
import Derived.Deep.Matrix
import Derived.Test.YtphgognhjdbdjaaGreatDoorSpAq
import Derived.Test.YtphgognhjdbdjaaGreatDoorCards
import Derived.Test.YtphgognhjdbdjaaGreatDoorTie
import Derived.Deep.Strs
import Derived.Deep.DeepHandedRow
import Derived.Lib.LaidTab
import Derived.LaidSub
import Derived.Test.YtphgognhjdbdjaaGreatDoorSpNq
namespace Go.Proofs.YtphgognhjdbdjaaGreatDoor
open Go.ChangeShapes Go.WideShapes Go.ChangeAt Go.RowKit Go.Deep Sh

theorem ownG : ownKnob Tryz.prog.godebug = none := by kernel_rfl
theorem laidOutG : laidOutB Tryz.prog = true := by kernel_rfl
section
variable {H : Type} {enc : TypeId × Value → H}
/-- Arguments read behind the call as they did, where nothing below the heap's old size has turned. -/
theorem stayG : ∀ (ts : List TypeId) (vs : List Value) (ds : List (DataW H)) (ps : List MemPlace) (W W' : World), (∀ t ∈ ts, Tryz.prog.readableRec t = true ∧ t < Tryz.prog.types.size) → Below W.heap.size W W' → (∀ x ∈ ps, x.block < W.heap.size) →
    DataW.TrodAll enc Tryz.prog W 0 (fun _ => true) true ts vs ds ps → DataW.TrodAll enc Tryz.prog W' 0 (fun b => decide (b < W.heap.size)) true ts vs ds ps
  | [], vs, ds, ps, W, W', _, _, _, h => by
    obtain ⟨rfl, rfl, rfl⟩ := trodAll_nil h
    exact trodAll_mk0
  | t :: ts, vs, ds, ps, W, W', hr, hb, hlt, h => by
    obtain ⟨v, vs, d, ds, p, q, rfl, rfl, rfl, h1, h2⟩ := trodAll_cons h
    exact trodAll_cons_mk (Below.trod laidOutG (hr t (List.mem_cons_self)).1 (hr t (List.mem_cons_self)).2 h1 hb (fun x hx => hlt x (List.mem_append_left _ hx)))
      (stayG ts vs ds q W W' (fun u hu => hr u (List.mem_cons_of_mem _ hu)) hb (fun x hx => hlt x (List.mem_append_right _ hx)) h2)
/-- THE END OF EACH LAW: it answered true, and nothing that was there has turned. -/
theorem law_postG {f : Func} {s : ChangeSpec} {W W' : World} {args : Array Value} {ds gs : List (DataW H)} {before : List MemPlace} (hW : DataW.Whole enc Tryz.prog f.params.toList s.vars false W args.toList ds gs before)
    (hr : f.resultTypes = #[4]) (hv : s.vars = []) (hfn : s.fn H (ds ++ gs) = { results := [.lit (.bool true)], args := ds }) (hp : ∀ t ∈ f.params.toList, Tryz.prog.readableRec t = true ∧ t < Tryz.prog.types.size) (hb : Below W.heap.size W W') :
    s.post enc Tryz.prog f false true false false W args (.bool true) W' := by
  have hlt := hW.lt
  obtain ⟨p, q, hA, hV, hpq, hz, hnd⟩ := id hW
  rw [hv] at hV
  obtain ⟨rfl, rfl⟩ := trodVars_none hV
  rw [List.append_nil] at hpq
  subst hpq
  refine ⟨ds, [], before, [], before, [], hW, ?_, ?_, ?_, World.keptBut_mono (fun x hx => ⟨hx, Or.inr (Or.inl hx)⟩) (hb.frame (· ∈ before)), fun h => by cases h⟩
  · rw [hfn, hr]
    exact trodAll_mk1 (shut_bool Tryz.underlying4 _)
  · rw [hfn]
    exact stayG _ _ _ _ W W' hp hb hlt hA
  · rw [hfn, hv]
    rfl
theorem cellsU8 : Tryz.prog.cellsOf 5 = 1 := by kernel_rfl
theorem nats_of (zs : List Int) (hz : ∀ n ∈ zs, (Lit.int .u8 n).wf = true) (len : Nat) (hl : len ≤ zs.length) : ((zs.take len).map Int.toNat).length = len ∧ Bytes ((zs.take len).map Int.toNat) ∧ ∀ j, j < len → ((gt ((zs.take len).map Int.toNat) j : Nat) : Int) = zs.getD j 0 := by
  have each : ∀ j, j < len → ((gt ((zs.take len).map Int.toNat) j : Nat) : Int) = zs.getD j 0 ∧ gt ((zs.take len).map Int.toNat) j < 256 := fun j hj => by
    have hjz : j < zs.length := by omega
    have hb := bounds_u8 (hz zs[j] (List.getElem_mem _))
    simp [gt, List.getD_eq_getElem?_getD, hj, hjz]
    omega
  refine ⟨by simp; omega, fun i => ?_, fun j hj => (each j hj).1⟩
  rcases Nat.lt_or_ge i len with h | h
  · exact (each i h).2
  · rw [gt_out (by simp; omega)]; decide
set_option maxRecDepth 100000 in
/-- A []byte that came in. -/
theorem open_u8s {W : World} {base : Nat} {v : Value} {d : DataW H} {p : List MemPlace} (hval : Value.okWide Tryz.prog W .any base 30 v) (h : DataW.Trod enc Tryz.prog W 0 (fun _ => true) true 30 v d p) :
    ∃ (A : Option Addr) (n c : Nat) (xs : List Nat), v = .slice A n c ∧ xs.length = n ∧ Sr W A xs ∧ Bytes xs ∧ n ≤ c ∧ c ≤ maxLen := by
  obtain ⟨A, n, c, rfl⟩ : ∃ A n c, v = .slice A n c := by
    cases v <;> simp [Value.okWide, Cell.okWide, Cell.ok, Tryz.underlying30] at hval ⊢
  obtain ⟨fuel, hf⟩ := h
  rcases open_ints Tryz.underlying30 Tryz.underlying5 cellsU8 hf with ⟨hcs, _⟩ | ⟨a, len, cap, zs, hcs, _, hl, hm, hz, _, hcell, hwz⟩
  · simp [Value.cells] at hcs
    obtain ⟨rfl, rfl, rfl⟩ := hcs
    exact ⟨none, 0, 0, [], rfl, rfl, Sr.nil, fun i => by simp [gt], Nat.le_refl _, Nat.zero_le _⟩
  · simp [Value.cells] at hcs
    obtain ⟨rfl, rfl, rfl⟩ := hcs
    simp only [if_true] at hz
    obtain ⟨h1, h2, h3⟩ := nats_of zs hwz n (by omega)
    refine ⟨some a, n, c, (zs.take n).map Int.toNat, rfl, h1, fun hx => ?_, h2, hl, hm⟩
    rw [h1] at hx
    have hs := World.cell?_spot (hcell 0 (by omega))
    obtain ⟨b, o, sp⟩ := a
    have hsp : sp = none := by simpa [Addr.add] using hs
    subst hsp
    refine ⟨b, o, rfl, World.block_lt_of_cell? W _ (hcell 0 (by omega)), fun j hj => ?_⟩
    rw [h1] at hj
    have := hcell j (by omega)
    rw [Addr.add_mid] at this
    rw [this, h3 j hj]
end
end Go.Proofs.YtphgognhjdbdjaaGreatDoor
namespace Go.Proofs.YtphgognhjdbdjaaGreatDoor
open Go.ChangeShapes Go.WideShapes Go.ChangeAt Go.RowKit Go.Deep Sh

def zF : Fld := f0
theorem cellsFld : Tryz.prog.cellsOf 172 = 3 := by kernel_rfl
theorem cellsIntF : Tryz.prog.cellsOf 3 = 1 := by kernel_rfl
theorem cellsI64F : Tryz.prog.cellsOf 2 = 1 := by kernel_rfl
theorem cellsStrF : Tryz.prog.cellsOf 9 = 1 := by kernel_rfl
theorem lit_i64 {n : Int} (h : (Lit.int .i64 n).wf = true) : -9223372036854775808 ≤ n ∧ n ≤ 9223372036854775807 := bounds_i64 h
theorem cell_lt {W : World} {b o : Nat} {v : Value} (h : W.cell? ⟨b, o, none⟩ = some v) : b < W.heap.size := by
  refine Classical.byContradiction fun hn => ?_
  have : W.heap[b]? = none := Array.getElem?_eq_none (by omega)
  simp [World.cell?, this] at h
set_option maxRecDepth 100000 in
/-- A field's cells, read. -/
theorem open_fld {H : Type} {enc : TypeId × Value → H} {W : World} {base n : Nat} {sp : Nat → Bool} {hd : Bool} {a : Addr} {cs : List Value} {x : DataW H × List MemPlace} (hc : W.cells? base a 3 = some cs) (h : DataW.trod enc Tryz.prog W base sp hd n 172 cs = some x) :
    ∃ f : Fld, InR f ∧ a.spot = none ∧ a.block < W.heap.size ∧ W.rangeAt a.block a.off (fv f) := by
  obtain ⟨hb, hlen, hcell⟩ := World.cells?_some hc
  obtain ⟨y0, y1, y2, m, _, _, h0, h1, h2⟩ := trod_struct3 Tryz.underlying172 h
  match cs, hlen with
  | [c0, c1, c2], _ =>
    have e0 : DataW.trod enc Tryz.prog W base sp hd m 3 [c0] = some y0 := by simpa [cellsIntF] using h0
    have e1 : DataW.trod enc Tryz.prog W base sp hd m 2 [c1] = some y1 := by simpa [cellsI64F] using h1
    have e2 : DataW.trod enc Tryz.prog W base sp hd m 9 [c2] = some y2 := by simpa [cellsStrF] using h2
    obtain ⟨k, k0, _, _⟩ := DataW.trod_int Tryz.underlying3 e0
    obtain ⟨nn, k1, _, wf⟩ := DataW.trod_int Tryz.underlying2 e1
    obtain ⟨s, k2, _, _⟩ := DataW.trod_string Tryz.underlying9 e2
    obtain rfl : c0 = .int .i64 k := by simpa using k0
    obtain rfl : c1 = .int .i64 nn := by simpa using k1
    obtain rfl : c2 = .string s := by simpa using k2
    obtain ⟨b, o, spot⟩ := a
    have q0 := hcell 0 (by decide)
    have q1 := hcell 1 (by decide)
    have q2 := hcell 2 (by decide)
    have hspot : spot = none := by simpa [Addr.add] using World.cell?_spot q0
    subst hspot
    refine ⟨⟨k, nn, s⟩, lit_i64 wf, rfl, ?_, ?_⟩
    · have hq : W.cell? ⟨b, o + 0, none⟩ = some (.int .i64 k) := q0
      exact cell_lt hq
    · intro j v hv
      match j, hv with
      | 0, hv => exact q0.trans hv
      | 1, hv => exact q1.trans hv
      | 2, hv => exact q2.trans hv
theorem cellsRowF : Tryz.prog.cellsOf 24 = 1 := by kernel_rfl
set_option maxRecDepth 100000 in
/-- A []api.Field in a cell of what came in. -/
theorem open_fldc {H : Type} {enc : TypeId × Value → H} {W : World} {v : Value} {fuel : Nat} {x : DataW H × List MemPlace} (hf : DataW.trod enc Tryz.prog W 0 (fun _ => true) true fuel 24 [v] = some x) :
    ∃ (q : Option Addr) (n c : Nat) (G : Nat → Fld), v = .slice q n c ∧ Rw W q n G ∧ (∀ j, j < n → InR (G j)) ∧ n ≤ maxLen := by
  rcases open_slice Tryz.underlying24 hf with ⟨hcs, _⟩ | ⟨a, len, cap, m, k, D, Pl, hcs, _, hl, hm, hmm, _, hx⟩
  · obtain rfl := List.cons.inj hcs |>.1
    exact ⟨none, 0, 0, fun _ => zF, rfl, fun j hj => absurd hj (by omega), fun j hj => absurd hj (by omega), Nat.zero_le _⟩
  · obtain rfl := List.cons.inj hcs |>.1
    have hlm : len ≤ m := by rw [hmm]; simp; omega
    obtain ⟨b, o, spot⟩ := a
    by_cases h0 : len = 0
    · subst h0
      exact ⟨_, 0, cap, fun _ => zF, rfl, fun j hj => absurd hj (by omega), fun j hj => absurd hj (by omega), by omega⟩
    have hsp : spot = none := by
      obtain ⟨cs', hc, ht⟩ := hx 0 (by omega)
      rw [cellsFld] at hc
      obtain ⟨f, _, h2, _⟩ := open_fld hc ht
      simpa [Addr.add] using h2
    subst hsp
    have key : ∀ i, ∃ f : Fld, i < len → (InR f ∧ b < W.heap.size ∧ W.rangeAt b (o + i * 3) (fv f)) := fun i => by
      by_cases hi : i < len
      · obtain ⟨cs', hc, ht⟩ := hx i (by omega)
        rw [cellsFld, add_plain] at hc
        obtain ⟨f, h1, _, h3, h4⟩ := open_fld hc ht
        exact ⟨f, fun _ => ⟨h1, h3, h4⟩⟩
      · exact ⟨zF, fun h => absurd h hi⟩
    obtain ⟨G, hG⟩ := Classical.axiomOfChoice key
    exact ⟨some ⟨b, o, none⟩, len, cap, G, rfl, fun j hj => ⟨b, o, rfl, (hG j hj).2.1, (hG j hj).2.2⟩, fun j hj => (hG j hj).1, by omega⟩
theorem cellsBoolF : Tryz.prog.cellsOf 4 = 1 := by kernel_rfl
end Go.Proofs.YtphgognhjdbdjaaGreatDoor
namespace Go.Proofs.YtphgognhjdbdjaaGreatDoor
open Go.ChangeShapes Go.WideShapes Go.ChangeAt Go.RowKit Go.Deep Sh

theorem cellsItem : Tryz.prog.cellsOf 91 = 3 := by kernel_rfl
theorem cellsWaiter : Tryz.prog.cellsOf 93 = 4 := by kernel_rfl
theorem cellsReply : Tryz.prog.cellsOf 26 = 5 := by kernel_rfl
theorem cellsSpace : Tryz.prog.cellsOf 29 = 25 := by kernel_rfl
theorem cellsItems : Tryz.prog.cellsOf 22 = 1 := by kernel_rfl
theorem cellsWaiters : Tryz.prog.cellsOf 23 = 1 := by kernel_rfl
theorem cellsLast : Tryz.prog.cellsOf 27 = 20 := by kernel_rfl
theorem tr_of {W : World} {q : Option Addr} {k : Nat} {G : Nat → Fld} (h : Rw W q k G) (hk : k ≤ maxLen) : TR W q (fl k G) := tr_fl h (by unfold maxLen at hk; omega)
theorem fl_in {k : Nat} {G : Nat → Fld} (h : ∀ j, j < k → InR (G j)) : ∀ f ∈ fl k G, InR f := fun f hf => by
  obtain ⟨j, hj, rfl⟩ := List.mem_map.1 hf
  exact h j (List.mem_range.1 hj)
set_option maxRecDepth 100000 in
theorem open_itc {H : Type} {enc : TypeId × Value → H} {W : World} {l : List Value} {fuel : Nat} {y : DataW H × List MemPlace} (hf : DataW.trod enc Tryz.prog W 0 (fun _ => true) true fuel 91 l = some y) :
    ∃ x : Itv, l = iv x ∧ TR W x.p x.i.t ∧ ∀ f ∈ x.i.t, InR f := by
  obtain ⟨xs, n, _, _, hl, hlen, hff⟩ := DataW.trod_struct Tryz.underlying91 hf
  have h0 := hff 0 _ rfl
  have h1 := hff 1 _ rfl
  have h2 := hff 2 _ rfl
  rw [cellsItem] at hl
  match xs, hlen with
  | [x0, x1, x2], _ =>
    obtain ⟨n0, c0, _, _⟩ := DataW.trod_int Tryz.underlying3 h0
    obtain ⟨n1, c1, _, _⟩ := DataW.trod_int Tryz.underlying3 h1
    change List.take (Tryz.prog.cellsOf 3) (List.drop 0 l) = _ at c0
    change List.take (Tryz.prog.cellsOf 3) (List.drop 1 l) = _ at c1
    change DataW.trod enc Tryz.prog W 0 (fun _ => true) true n 24 (List.take (Tryz.prog.cellsOf 24) (List.drop 2 l)) = some x2 at h2
    rw [cellsIntF] at c0 c1
    rw [cellsRowF] at h2
    match l, hl with
    | [l0, l1, l2], _ =>
      simp at c0 c1
      obtain ⟨q, k, c, G, rfl, r1, i1, m1⟩ := open_fldc (v := l2) h2
      subst c0; subst c1
      exact ⟨⟨⟨n0, n1, fl k G⟩, q, c⟩, by unfold iv; rw [fl_length], tr_of r1 m1, fl_in i1⟩
set_option maxRecDepth 100000 in
theorem open_wtc {H : Type} {enc : TypeId × Value → H} {W : World} {l : List Value} {fuel : Nat} {y : DataW H × List MemPlace} (hf : DataW.trod enc Tryz.prog W 0 (fun _ => true) true fuel 93 l = some y) :
    ∃ x : Wtv, l = wv x ∧ TR W x.p x.x.p ∧ ∀ f ∈ x.x.p, InR f := by
  obtain ⟨xs, n, _, _, hl, hlen, hff⟩ := DataW.trod_struct Tryz.underlying93 hf
  have h0 := hff 0 _ rfl
  have h1 := hff 1 _ rfl
  have h2 := hff 2 _ rfl
  have h3 := hff 3 _ rfl
  rw [cellsWaiter] at hl
  match xs, hlen with
  | [x0, x1, x2, x3], _ =>
    obtain ⟨n0, c0, _, _⟩ := DataW.trod_int Tryz.underlying3 h0
    obtain ⟨n1, c1, _, _⟩ := DataW.trod_int Tryz.underlying3 h1
    obtain ⟨b2, c2, _⟩ := DataW.trod_bool Tryz.underlying4 h2
    change List.take (Tryz.prog.cellsOf 3) (List.drop 0 l) = _ at c0
    change List.take (Tryz.prog.cellsOf 3) (List.drop 1 l) = _ at c1
    change List.take (Tryz.prog.cellsOf 4) (List.drop 2 l) = _ at c2
    change DataW.trod enc Tryz.prog W 0 (fun _ => true) true n 24 (List.take (Tryz.prog.cellsOf 24) (List.drop 3 l)) = some x3 at h3
    rw [cellsIntF] at c0 c1
    rw [cellsBoolF] at c2
    rw [cellsRowF] at h3
    match l, hl with
    | [l0, l1, l2, l3], _ =>
      simp at c0 c1 c2
      obtain ⟨q, k, c, G, rfl, r1, i1, m1⟩ := open_fldc (v := l3) h3
      subst c0; subst c1; subst c2
      exact ⟨⟨⟨n0, n1, b2, fl k G⟩, q, c⟩, by unfold wv; rw [fl_length], tr_of r1 m1, fl_in i1⟩
set_option maxRecDepth 100000 in
theorem open_rpc {H : Type} {enc : TypeId × Value → H} {W : World} {l : List Value} {fuel : Nat} {y : DataW H × List MemPlace} (hf : DataW.trod enc Tryz.prog W 0 (fun _ => true) true fuel 26 l = some y) :
    ∃ x : Rpv, l = pv x ∧ TR W x.p x.r.t ∧ ∀ f ∈ x.r.t, InR f := by
  obtain ⟨xs, n, _, _, hl, hlen, hff⟩ := DataW.trod_struct Tryz.underlying26 hf
  have h0 := hff 0 _ rfl
  have h1 := hff 1 _ rfl
  have h2 := hff 2 _ rfl
  have h3 := hff 3 _ rfl
  have h4 := hff 4 _ rfl
  rw [cellsReply] at hl
  match xs, hlen with
  | [x0, x1, x2, x3, x4], _ =>
    obtain ⟨n0, c0, _, _⟩ := DataW.trod_int Tryz.underlying3 h0
    obtain ⟨n1, c1, _, _⟩ := DataW.trod_int Tryz.underlying3 h1
    obtain ⟨n2, c2, _, _⟩ := DataW.trod_int Tryz.underlying3 h2
    obtain ⟨b4, c4, _⟩ := DataW.trod_bool Tryz.underlying4 h4
    change List.take (Tryz.prog.cellsOf 3) (List.drop 0 l) = _ at c0
    change List.take (Tryz.prog.cellsOf 3) (List.drop 1 l) = _ at c1
    change List.take (Tryz.prog.cellsOf 3) (List.drop 2 l) = _ at c2
    change List.take (Tryz.prog.cellsOf 4) (List.drop 4 l) = _ at c4
    change DataW.trod enc Tryz.prog W 0 (fun _ => true) true n 24 (List.take (Tryz.prog.cellsOf 24) (List.drop 3 l)) = some x3 at h3
    rw [cellsIntF] at c0 c1 c2
    rw [cellsBoolF] at c4
    rw [cellsRowF] at h3
    match l, hl with
    | [l0, l1, l2, l3, l4], _ =>
      simp at c0 c1 c2 c4
      obtain ⟨q, k, c, G, rfl, r1, i1, m1⟩ := open_fldc (v := l3) h3
      subst c0; subst c1; subst c2; subst c4
      exact ⟨⟨⟨n0, n1, n2, fl k G, b4⟩, q, c⟩, by unfold pv; rw [fl_length], tr_of r1 m1, fl_in i1⟩
def zSpP : List Value := [.int .i64 0, .slice none 0 0, .slice none 0 0, .int .i64 0, .int .i64 0, .int .i64 0, .int .i64 0, .int .i64 0, .slice none 0 0, .bool false, .int .i64 0, .int .i64 0, .int .i64 0, .slice none 0 0, .bool false, .int .i64 0, .int .i64 0, .int .i64 0, .slice none 0 0, .bool false, .int .i64 0, .int .i64 0, .int .i64 0, .slice none 0 0, .bool false]
/-- A row of things in a cell of what came in. -/
theorem open_rowc {H : Type} {enc : TypeId × Value → H} {W : World} {α : Type} {T e : TypeId} {sz : Nat} (f : α → List Value) (Q : α → Prop) (z : α) (hT : Tryz.prog.underlying T = some (.slice e)) (hsz : Tryz.prog.cellsOf e = sz) (hpos : 0 < sz) (hlen : ∀ x, (f x).length = sz)
    (opn : ∀ {l : List Value} {fuel : Nat} {y : DataW H × List MemPlace}, DataW.trod enc Tryz.prog W 0 (fun _ => true) true fuel e l = some y → ∃ x : α, l = f x ∧ Q x)
    {v : Value} {fuel : Nat} {x : DataW H × List MemPlace} (hf : DataW.trod enc Tryz.prog W 0 (fun _ => true) true fuel T [v] = some x) :
    ∃ (q : Option Addr) (c : Nat) (l : List α), v = .slice q l.length c ∧ RowL W q sz f l ∧ (∀ y ∈ l, Q y) ∧ l.length ≤ maxLen := by
  rcases open_slice hT hf with ⟨hcs, _⟩ | ⟨a, len, cap, m, k, D, Pl, hcs, _, hl, hm, hmm, _, hx⟩
  · obtain rfl := List.cons.inj hcs |>.1
    exact ⟨none, 0, [], rfl, RowL.nil, fun y hy => by simp at hy, Nat.zero_le _⟩
  · obtain rfl := List.cons.inj hcs |>.1
    have hlm : len ≤ m := by rw [hmm]; simp; omega
    obtain ⟨b, o, spot⟩ := a
    have key : ∀ i, ∃ x : α, i < len → spot = none ∧ Q x ∧ b < W.heap.size ∧ W.rangeAt b (o + i * sz) (f x) := fun i => by
      by_cases hi : i < len
      · obtain ⟨cs', hc, ht⟩ := hx i (by omega)
        rw [hsz] at hc
        obtain ⟨x, rfl, hq⟩ := opn ht
        obtain ⟨_, _, hcell⟩ := World.cells?_some hc
        have hsp : spot = none := by
          obtain ⟨cs0, hc0, ht0⟩ := hx 0 (by omega)
          rw [hsz] at hc0
          obtain ⟨x00, rfl, _⟩ := opn ht0
          have h00 := (World.cells?_some hc0).2.2 0 hpos
          rw [List.getElem?_eq_getElem (by rw [hlen]; exact hpos)] at h00
          have hs0 := World.cell?_spot h00
          simpa [Addr.add] using hs0
        subst hsp
        have e2 : ∀ (o c : Nat), (⟨b, o, none⟩ : Addr).add c = ⟨b, o + c, none⟩ := fun o c => by unfold Addr.add; split <;> simp_all
        have hr : W.rangeAt b (o + i * sz) (f x) := fun j v hv => by
          have hj : j < sz := by have := (List.getElem?_eq_some_iff.1 hv).1; rwa [hlen] at this
          have h := hcell j hj
          rw [e2, e2] at h
          exact h.trans hv
        have h0 : 0 < (f x).length := by rw [hlen]; exact hpos
        exact ⟨x, fun _ => ⟨rfl, hq, World.block_lt_of_cell? W _ (hr 0 _ (List.getElem?_eq_getElem h0)), hr⟩⟩
      · exact ⟨z, fun h => absurd h hi⟩
    obtain ⟨G, hG⟩ := Classical.axiomOfChoice key
    have hlen2 : ((List.range len).map G).length = len := by simp
    refine ⟨some ⟨b, o, spot⟩, cap, (List.range len).map G, by rw [hlen2], fun j x hx => ?_, fun y hy => ?_, by rw [hlen2]; omega⟩
    · rw [List.getElem?_map] at hx
      by_cases hj : j < len
      · rw [List.getElem?_range hj] at hx
        obtain rfl : G j = x := by simpa using hx
        obtain ⟨e, _, h1, h2⟩ := hG j hj
        subst e
        exact ⟨b, o, rfl, h1, h2⟩
      · rw [List.getElem?_eq_none (by simpa using hj)] at hx
        cases hx
    · obtain ⟨i, hi, rfl⟩ := List.mem_map.1 hy
      exact (hG i (List.mem_range.1 hi)).2.1
set_option maxRecDepth 100000 in
/-- A space that came in by value. -/
theorem open_spaceI {H : Type} {enc : TypeId × Value → H} {W : World} {base : Nat} {v : Value} {d : DataW H} {p : List MemPlace} (hval : Value.okWide Tryz.prog W .any base 29 v) (h : DataW.Trod enc Tryz.prog W 0 (fun _ => true) true 29 v d p) :
    ∃ x : Spv, v = .agg (sv x).toArray ∧ SpW W x ∧ (∀ y ∈ x.its, ∀ f ∈ y.i.t, InR f) ∧ (∀ y ∈ x.wts, ∀ f ∈ y.x.p, InR f) ∧ ∀ y ∈ x.last, ∀ f ∈ y.r.t, InR f := by
  obtain ⟨cs, rfl, hsz, _⟩ : ∃ cs, v = .agg cs ∧ cs.size = Tryz.prog.cellsOf 29 ∧ Row.okWide Tryz.prog W .any base 29 cs := by
    simpa [Value.okWide, Tryz.underlying29] using hval
  obtain ⟨fuel, hf⟩ := h
  obtain ⟨xs, n, _, _, hl, hlen, hff⟩ := DataW.trod_struct Tryz.underlying29 hf
  have h0 := hff 0 _ rfl
  have h1 := hff 1 _ rfl
  have h2 := hff 2 _ rfl
  have h3 := hff 3 _ rfl
  have h4 := hff 4 _ rfl
  have h5 := hff 5 _ rfl
  rw [cellsSpace] at hl
  match xs, hlen with
  | [x0, x1, x2, x3, x4, x5], _ =>
    obtain ⟨n0, c0, _, _⟩ := DataW.trod_int Tryz.underlying3 h0
    obtain ⟨n3, c3, _, _⟩ := DataW.trod_int Tryz.underlying3 h3
    obtain ⟨n4, c4, _, _⟩ := DataW.trod_int Tryz.underlying3 h4
    obtain ⟨l⟩ := cs
    change List.take (Tryz.prog.cellsOf 3) (List.drop 0 l) = _ at c0
    change List.take (Tryz.prog.cellsOf 3) (List.drop 3 l) = _ at c3
    change List.take (Tryz.prog.cellsOf 3) (List.drop 4 l) = _ at c4
    change DataW.trod enc Tryz.prog W 0 (fun _ => true) true n 22 (List.take (Tryz.prog.cellsOf 22) (List.drop 1 l)) = some x1 at h1
    change DataW.trod enc Tryz.prog W 0 (fun _ => true) true n 23 (List.take (Tryz.prog.cellsOf 23) (List.drop 2 l)) = some x2 at h2
    change DataW.trod enc Tryz.prog W 0 (fun _ => true) true n 27 (List.take (Tryz.prog.cellsOf 27) (List.drop 5 l)) = some x5 at h5
    rw [cellsIntF] at c0 c3 c4
    rw [cellsItems] at h1
    rw [cellsWaiters] at h2
    rw [cellsLast] at h5
    obtain ⟨ys, k5, _, _, _, hyl, hel⟩ := DataW.trod_array Tryz.underlying27 h5
    have e0 := hel 0 (by decide); have e1 := hel 1 (by decide); have e2 := hel 2 (by decide); have e3 := hel 3 (by decide)
    rw [cellsReply] at e0 e1 e2 e3
    change l.length = 25 at hl
    match ys, hyl with
    | [y0, y1, y2, y3], _ =>
      obtain ⟨z0, g0, t0⟩ := open_rpc e0
      obtain ⟨z1, g1, t1⟩ := open_rpc e1
      obtain ⟨z2, g2, t2⟩ := open_rpc e2
      obtain ⟨z3, g3, t3⟩ := open_rpc e3
      match l, hl with
      | [l0, l1, l2, l3, l4, l5, l6, l7, l8, l9, l10, l11, l12, l13, l14, l15, l16, l17, l18, l19, l20, l21, l22, l23, l24], _ =>
        simp at c0 c3 c4
        obtain ⟨q1, d1, its, rfl, r1, i1, m1⟩ := open_rowc iv (fun y => TR W y.p y.i.t ∧ ∀ f ∈ y.i.t, InR f) ⟨⟨0, 0, []⟩, none, 0⟩ Tryz.underlying22 cellsItem (by decide) iv_len (fun hq => open_itc hq) (v := l1) h1
        obtain ⟨q2, d2, wts, rfl, r2, i2, m2⟩ := open_rowc wv (fun y => TR W y.p y.x.p ∧ ∀ f ∈ y.x.p, InR f) ⟨⟨0, 0, false, []⟩, none, 0⟩ Tryz.underlying23 cellsWaiter (by decide) wv_len (fun hq => open_wtc hq) (v := l2) h2
        subst c0; subst c3; subst c4
        change [l5, l6, l7, l8, l9] = pv z0 at g0
        change [l10, l11, l12, l13, l14] = pv z1 at g1
        change [l15, l16, l17, l18, l19] = pv z2 at g2
        change [l20, l21, l22, l23, l24] = pv z3 at g3
        refine ⟨⟨n0, its, q1, d1, wts, q2, d2, n3, n4, [z0, z1, z2, z3]⟩, ?_, ⟨r1, fun y hy => (i1 y hy).1, r2, fun y hy => (i2 y hy).1, rfl, ?_, by show its.length ≤ _; unfold maxLen at m1; omega, by show wts.length ≤ _; unfold maxLen at m2; omega⟩, fun y hy => (i1 y hy).2, fun y hy => (i2 y hy).2, ?_⟩
        · refine congrArg (fun l : List Value => Value.agg l.toArray) ?_
          show [_, _, _, _, _] ++ ([l5, l6, l7, l8, l9] ++ ([l10, l11, l12, l13, l14] ++ ([l15, l16, l17, l18, l19] ++ ([l20, l21, l22, l23, l24] ++ [])))) = _
          rw [g0, g1, g2, g3]
          rfl
        · intro y hy
          simp only [List.mem_cons, List.not_mem_nil, or_false] at hy
          rcases hy with rfl | rfl | rfl | rfl
          · exact t0.1
          · exact t1.1
          · exact t2.1
          · exact t3.1
        · intro y hy
          simp only [List.mem_cons, List.not_mem_nil, or_false] at hy
          rcases hy with rfl | rfl | rfl | rfl
          · exact t0.2
          · exact t1.2
          · exact t2.2
          · exact t3.2
end Go.Proofs.YtphgognhjdbdjaaGreatDoor
namespace Go.Proofs.YtphgognhjdbdjaaGreatDoor
open Go.ChangeShapes Go.WideShapes Go.ChangeAt Go.RowKit Sh

theorem own : ownKnob Tryz.prog.godebug = none := by kernel_rfl
theorem laidOut : laidOutB Tryz.prog = true := by kernel_rfl
theorem gTab : Tryz.prog.globalNamed "chirograph/sha.rounds" = some 0 := by kernel_rfl
theorem gTabType : (Tryz.prog.globals[0]?).map (·.type) = some 208 := by kernel_rfl
theorem cells51 : Tryz.prog.cellsOf 208 = 64 := by kernel_rfl
theorem cells41 : Tryz.prog.cellsOf 177 = 1 := by kernel_rfl
/-- What the row's list gives: the table K. -/
theorem kat_of {W : World} (h : laidMetH Tryz.prog [("chirograph/sha.rounds", Rows.laid_chirograph_sha_rounds)] W) : KAt W := by
  have ht : Lib.TabIs Tryz.prog W "chirograph/sha.rounds" .u32 (ks.map fun (n : Nat) => (n : Int)) :=
    Lib.tabIs_of_head (rest := []) gTab gTabType Tryz.underlying208 Tryz.underlying177 cells41 cells51 h
  have hc : ∀ j, j < 64 → W.cell? ⟨0, j, none⟩ = some (.int .u32 ((gt ks j : Nat) : Int)) := fun j hj => by
    have hl : j < ks.length := hj
    rw [ht.cell gTab j (by rw [List.length_map]; exact hl)]
    congr 2
    simp [gt, List.getD_eq_getElem?_getD, List.getElem?_eq_getElem hl]
  exact ⟨World.block_lt_of_cell? W _ (hc 0 (by decide)), hc⟩

section
variable {H : Type} {enc : TypeId × Value → H}
/-- Arguments read behind the call as they did, where nothing below the heap's old size has turned. -/
theorem stay : ∀ (ts : List TypeId) (vs : List Value) (ds : List (DataW H)) (ps : List MemPlace) (W W' : World), (∀ t ∈ ts, Tryz.prog.readableRec t = true ∧ t < Tryz.prog.types.size) → Below W.heap.size W W' → (∀ x ∈ ps, x.block < W.heap.size) →
    DataW.TrodAll enc Tryz.prog W 0 (fun _ => true) true ts vs ds ps → DataW.TrodAll enc Tryz.prog W' 0 (fun b => decide (b < W.heap.size)) true ts vs ds ps
  | [], vs, ds, ps, W, W', _, _, _, h => by
    obtain ⟨rfl, rfl, rfl⟩ := trodAll_nil h
    exact trodAll_mk0
  | t :: ts, vs, ds, ps, W, W', hr, hb, hlt, h => by
    obtain ⟨v, vs, d, ds, p, q, rfl, rfl, rfl, h1, h2⟩ := trodAll_cons h
    exact trodAll_cons_mk (Below.trod laidOut (hr t (List.mem_cons_self)).1 (hr t (List.mem_cons_self)).2 h1 hb (fun x hx => hlt x (List.mem_append_left _ hx)))
      (stay ts vs ds q W W' (fun u hu => hr u (List.mem_cons_of_mem _ hu)) hb (fun x hx => hlt x (List.mem_append_right _ hx)) h2)

end
end Go.Proofs.YtphgognhjdbdjaaGreatDoor
namespace Go.Proofs.YtphgognhjdbdjaaGreatDoor
open Go.ChangeShapes Go.WideShapes Go.ChangeAt Go.RowKit Sh

/-- A world for the witness: the settled one, the table K laid as its initialiser lays it. -/
noncomputable def laidWorld (os : Os) : World :=
  { World.holding Tryz.prog os ⟨#[], #[], []⟩ with heap := (World.holding Tryz.prog os ⟨#[], #[], []⟩).heap.modify 0 fun
      | .cells _ t frozen => .cells (u32s ks).toArray t frozen
      | o => o }
end Go.Proofs.YtphgognhjdbdjaaGreatDoor
