/-
  LAYER 16's ROWS: a []Op that came in.
-/
import Derived.Test.YtgaiheaibejloaaRowN
import Derived.Test.YtgaiheaibejloaaDkS
import Derived.ChangeSame
namespace Go.Proofs.Ytgaiheaibejloaa
open Go.ChangeShapes Go.WideShapes Go.ChangeAt Go.RowKit Go.Deep Sh

def RowLD {α : Type} (w : World) (p : Option Addr) (sz : Nat) (f : α → List Value) (l : List α) : Prop :=
  ∀ j x, l[j]? = some x → ∃ b o, p = some ⟨b, o, none⟩ ∧ b < w.heap.size ∧ w.rangeAt b (o + j * sz) (f x)
theorem RowLD.nil {α : Type} {w : World} {p : Option Addr} {sz : Nat} {f : α → List Value} : RowLD w p sz f ([] : List α) := fun j x hx => by simp at hx
theorem RowLD.below {α : Type} {w w' : World} {p : Option Addr} {sz : Nat} {f : α → List Value} {l : List α} (h : RowLD w p sz f l) (hb : Below w.heap.size w w') : RowLD w' p sz f l := fun j x hx => by
  obtain ⟨b, o, e, hl, r⟩ := h j x hx
  exact ⟨b, o, e, Nat.lt_of_lt_of_le hl hb.size, fun i v hv => (hb.cell (p := ⟨b, o + j * sz + i, none⟩) hl).trans (r i v hv)⟩
theorem open_rowD {H : Type} {enc : TypeId × Value → H} {W : World} {α : Type} {T e : TypeId} {sz : Nat} (f : α → List Value) (Q : α → Prop) (z : α) (hT : Try.prog.underlying T = some (.slice e)) (hsz : Try.prog.cellsOf e = sz) (hpos : 0 < sz) (hlen : ∀ x, (f x).length = sz)
    (opn : ∀ {l : List Value} {fuel : Nat} {y : DataW H × List MemPlace}, DataW.trod enc Try.prog W 0 (fun _ => true) true fuel e l = some y → ∃ x : α, l = f x ∧ Q x)
    {v : Value} {fuel : Nat} {x : DataW H × List MemPlace} (hf : DataW.trod enc Try.prog W 0 (fun _ => true) true fuel T [v] = some x) :
    ∃ (q : Option Addr) (c : Nat) (l : List α), v = .slice q l.length c ∧ RowLD W q sz f l ∧ (∀ y ∈ l, Q y) ∧ l.length ≤ maxLen := by
  rcases open_slice hT hf with ⟨hcs, _⟩ | ⟨a, len, cap, m, k, D, Pl, hcs, _, hl, hm, hmm, _, hx⟩
  · obtain rfl := List.cons.inj hcs |>.1
    exact ⟨none, 0, [], rfl, RowLD.nil, fun y hy => by simp at hy, Nat.zero_le _⟩
  · obtain rfl := List.cons.inj hcs |>.1
    have hlm : len ≤ m := by rw [hmm]; simp; omega
    obtain ⟨b, o, spot⟩ := a
    have key : ∀ i, ∃ x : α, i < len → spot = none ∧ Q x ∧ b < W.heap.size ∧ W.rangeAt b (o + i * sz) (f x) := fun i => by
      by_cases hi : i < len
      · obtain ⟨cs', hc, ht⟩ := hx i (by omega)
        rw [hsz] at hc
        obtain ⟨x, rfl, hq⟩ := opn ht
        obtain ⟨_, _, hcell⟩ := World.cells?_some hc
        have hsp : spot = none := by
          obtain ⟨cs0, hc0, ht0⟩ := hx 0 (by omega)
          rw [hsz] at hc0
          obtain ⟨x00, rfl, _⟩ := opn ht0
          have h00 := (World.cells?_some hc0).2.2 0 hpos
          rw [List.getElem?_eq_getElem (by rw [hlen]; exact hpos)] at h00
          have hs0 := World.cell?_spot h00
          simpa [Addr.add] using hs0
        subst hsp
        have e2 : ∀ (o c : Nat), (⟨b, o, none⟩ : Addr).add c = ⟨b, o + c, none⟩ := fun o c => by unfold Addr.add; split <;> simp_all
        have hr : W.rangeAt b (o + i * sz) (f x) := fun j v hv => by
          have hj : j < sz := by have := (List.getElem?_eq_some_iff.1 hv).1; rwa [hlen] at this
          have h := hcell j hj
          rw [e2, e2] at h
          exact h.trans hv
        have h0 : 0 < (f x).length := by rw [hlen]; exact hpos
        exact ⟨x, fun _ => ⟨rfl, hq, World.block_lt_of_cell? W _ (hr 0 _ (List.getElem?_eq_getElem h0)), hr⟩⟩
      · exact ⟨z, fun h => absurd h hi⟩
    obtain ⟨G, hG⟩ := Classical.axiomOfChoice key
    have hlen2 : ((List.range len).map G).length = len := by simp
    refine ⟨some ⟨b, o, spot⟩, cap, (List.range len).map G, by rw [hlen2], fun j x hx => ?_, fun y hy => ?_, by rw [hlen2]; omega⟩
    · rw [List.getElem?_map] at hx
      by_cases hj : j < len
      · rw [List.getElem?_range hj] at hx
        obtain rfl : G j = x := by simpa using hx
        obtain ⟨e, _, h1, h2⟩ := hG j hj
        subst e
        exact ⟨b, o, rfl, h1, h2⟩
      · rw [List.getElem?_eq_none (by simpa using hj)] at hx
        cases hx
    · obtain ⟨i, hi, rfl⟩ := List.mem_map.1 hy
      exact (hG i (List.mem_range.1 hi)).2.1
set_option maxRecDepth 100000 in
theorem open_u8cD {H : Type} {enc : TypeId × Value → H} {W : World} {l : List Value} {fuel : Nat} {x : DataW H × List MemPlace} (hf : DataW.trod enc Try.prog W 0 (fun _ => true) true fuel 26 l = some x) :
    ∃ (A : Option Addr) (c : Nat) (X : List Nat), l = [.slice A X.length c] ∧ Sr W A X ∧ Bytes X ∧ X.length ≤ c ∧ c ≤ maxLen := by
  rcases open_ints Try.underlying26 Try.underlying5 cellsU8 hf with ⟨hcs, _⟩ | ⟨a, len, cap, zs, hcs, _, hl, hm, hz, _, hcell, hwz⟩
  · exact ⟨none, 0, [], hcs, Sr.nil, fun i => by simp [gt], Nat.le_refl _, Nat.zero_le _⟩
  · simp only [if_true] at hz
    obtain ⟨h1, h2, h3⟩ := nats_of zs hwz len (by omega)
    refine ⟨some a, cap, (zs.take len).map Int.toNat, by rw [h1]; exact hcs, fun hx => ?_, h2, by rw [h1]; exact hl, hm⟩
    rw [h1] at hx
    have hs := World.cell?_spot (hcell 0 (by omega))
    obtain ⟨b, o, sp⟩ := a
    have hsp : sp = none := by simpa [Addr.add] using hs
    subst hsp
    refine ⟨b, o, rfl, World.block_lt_of_cell? W _ (hcell 0 (by omega)), fun j hj => ?_⟩
    rw [h1] at hj
    have := hcell j (by omega)
    rw [Addr.add_mid] at this
    rw [this, h3 j hj]
set_option maxRecDepth 100000 in
/-- A []int in a cell of what came in. -/
theorem open_nsc {H : Type} {enc : TypeId × Value → H} {W : World} {l : List Value} {fuel : Nat} {x : DataW H × List MemPlace} (hf : DataW.trod enc Try.prog W 0 (fun _ => true) true fuel 28 l = some x) :
    ∃ (A : Option Addr) (n c : Nat) (L : Nat → Int), l = [.slice A n c] ∧ n ≤ c ∧ c ≤ maxLen ∧ ∀ j, j < n → ∃ b o, A = some ⟨b, o, none⟩ ∧ b < W.heap.size ∧ W.cell? ⟨b, o + j, none⟩ = some (.int .i64 (L j)) ∧ InI (L j) := by
  rcases open_ints Try.underlying28 Try.underlying3 cellsIntN hf with ⟨hcs, _⟩ | ⟨a, len, cap, zs, hcs, _, hl, hm, hz, _, hcell, hwz⟩
  · exact ⟨none, 0, 0, fun _ => 0, hcs, Nat.le_refl _, Nat.zero_le _, fun j hj => absurd hj (by omega)⟩
  · simp only [if_true] at hz
    refine ⟨some a, len, cap, fun j => zs.getD j 0, hcs, hl, hm, fun j hj => ?_⟩
    have hjz : j < zs.length := by omega
    have hc := hcell j hjz
    have hs := World.cell?_spot (hcell 0 (by omega))
    obtain ⟨b, o, sp⟩ := a
    have hsp : sp = none := by simpa [Addr.add] using hs
    subst hsp
    have he : zs.getD j 0 = zs[j] := by simp [List.getD_eq_getElem?_getD, hjz]
    have hb := bounds_i64 (hwz zs[j] (List.getElem_mem _))
    rw [← he] at hb
    have e2 : (⟨b, o, none⟩ : Addr).add j = ⟨b, o + j, none⟩ := by unfold Addr.add; split <;> simp_all
    rw [e2] at hc
    exact ⟨b, o, rfl, World.block_lt_of_cell? W _ (hcell 0 (by omega)), hc, hb.1, hb.2⟩
/-- A step of DiskPlays. -/
structure Ov where
  kd : Int
  at_ : Int
  n : Int
  A : Option Addr
  c : Nat
  xs : List Nat
  B : Option Addr
  m : Nat
  d : Nat
  L : Nat → Int
def ov (x : Ov) : List Value := [.int .i64 x.kd, .int .i64 x.at_, .int .i64 x.n, .slice x.A x.xs.length x.c, .slice x.B x.m x.d]
structure OvW (W : World) (x : Ov) : Prop where
  k : InI x.kd
  a : InI x.at_
  s : Sr W x.A x.xs
  b : Bytes x.xs
  l : x.xs.length ≤ maxLen
  ml : x.m ≤ maxLen
  i : ∀ j, j < x.m → ∃ b o, x.B = some ⟨b, o, none⟩ ∧ b < W.heap.size ∧ W.cell? ⟨b, o + j, none⟩ = some (.int .i64 (x.L j)) ∧ InI (x.L j)
theorem OvW.below {W W' : World} {x : Ov} (h : OvW W x) (hb : Below W.heap.size W W') : OvW W' x :=
  ⟨h.k, h.a, h.s.below hb, h.b, h.l, h.ml, fun j hj => by
    obtain ⟨b, o, h1, h2, h3, h4⟩ := h.i j hj
    exact ⟨b, o, h1, Nat.lt_of_lt_of_le h2 hb.size, (hb.cell (p := ⟨b, o + j, none⟩) h2).trans h3, h4⟩⟩
theorem cellsOp : Try.prog.cellsOf 39 = 5 := by kernel_rfl
theorem cellsRowD : Try.prog.cellsOf 26 = 1 := by kernel_rfl
theorem cellsRowI : Try.prog.cellsOf 28 = 1 := by kernel_rfl
set_option maxRecDepth 100000 in
theorem open_opc {H : Type} {enc : TypeId × Value → H} {W : World} {l : List Value} {fuel : Nat} {y : DataW H × List MemPlace} (hf : DataW.trod enc Try.prog W 0 (fun _ => true) true fuel 39 l = some y) :
    ∃ x : Ov, l = ov x ∧ OvW W x := by
  obtain ⟨xs, n, _, _, hl, hlen, hff⟩ := DataW.trod_struct Try.underlying39 hf
  have h0 := hff 0 _ rfl
  have h1 := hff 1 _ rfl
  have h2 := hff 2 _ rfl
  have h3 := hff 3 _ rfl
  have h4 := hff 4 _ rfl
  rw [cellsOp] at hl
  match xs, hlen with
  | [x0, x1, x2, x3, x4], _ =>
    obtain ⟨n0, c0, _, w0⟩ := DataW.trod_int Try.underlying3 h0
    obtain ⟨n1, c1, _, w1⟩ := DataW.trod_int Try.underlying3 h1
    obtain ⟨n2, c2, _, _⟩ := DataW.trod_int Try.underlying3 h2
    change List.take (Try.prog.cellsOf 3) (List.drop 0 l) = _ at c0
    change List.take (Try.prog.cellsOf 3) (List.drop 1 l) = _ at c1
    change List.take (Try.prog.cellsOf 3) (List.drop 2 l) = _ at c2
    change DataW.trod enc Try.prog W 0 (fun _ => true) true n 26 (List.take (Try.prog.cellsOf 26) (List.drop 3 l)) = some x3 at h3
    change DataW.trod enc Try.prog W 0 (fun _ => true) true n 28 (List.take (Try.prog.cellsOf 28) (List.drop 4 l)) = some x4 at h4
    rw [cellsIntN] at c0 c1 c2
    rw [cellsRowD] at h3
    rw [cellsRowI] at h4
    match l, hl with
    | [l0, l1, l2, l3, l4], _ =>
      simp at c0 c1 c2
      obtain ⟨A, c, X, e3, s1, s2, s3, s4⟩ := open_u8cD h3
      obtain ⟨B, m, d, L, e4, t1, t2, t3⟩ := open_nsc h4
      simp at e3 e4
      subst c0; subst c1; subst c2; subst e3; subst e4
      exact ⟨⟨n0, n1, n2, A, c, X, B, m, d, L⟩, rfl, ⟨bounds_i64 w0, bounds_i64 w1, s1, s2, Nat.le_trans s3 s4, Nat.le_trans t1 t2, t3⟩⟩
set_option maxRecDepth 100000 in
/-- A []Op that came in. -/
theorem open_ops {H : Type} {enc : TypeId × Value → H} {W : World} {base : Nat} {v : Value} {d : DataW H} {p : List MemPlace} (hval : Value.okWide Try.prog W .any base 35 v) (h : DataW.Trod enc Try.prog W 0 (fun _ => true) true 35 v d p) :
    ∃ (A : Option Addr) (c : Nat) (l : List Ov), v = .slice A l.length c ∧ RowLD W A 5 ov l ∧ (∀ y ∈ l, OvW W y) ∧ l.length ≤ maxLen := by
  obtain ⟨q, n, c, rfl⟩ : ∃ A n c, v = .slice A n c := by
    cases v <;> simp [Value.okWide, Cell.okWide, Cell.ok, Try.underlying35] at hval ⊢
  obtain ⟨fuel, hf⟩ := h
  exact open_rowD ov (OvW W) ⟨0, 0, 0, none, 0, [], none, 0, 0, fun _ => 0⟩ Try.underlying35 cellsOp (by decide) (fun _ => rfl) (fun hq => open_opc hq) hf
end Go.Proofs.Ytgaiheaibejloaa
