/-
  LAYER 8's ROWS: a []bool, a []Ask that came in.
-/
import Derived.Test.YtojianpbjckipaaDoorRowS
import Derived.Test.YtojianpbjckipaaDoorSpZ
import Derived.ChangeSame
namespace Go.Proofs.YtojianpbjckipaaDoor
open Go.ChangeShapes Go.WideShapes Go.ChangeAt Go.RowKit Go.Deep Sh

theorem cellsAsk : Tryd.prog.cellsOf 37 = 7 := by kernel_rfl
set_option maxRecDepth 100000 in
/-- A request's cells. -/
theorem open_reqc {H : Type} {enc : TypeId × Value → H} {W : World} {l : List Value} {fuel : Nat} {y : DataW H × List MemPlace} (hf : DataW.trod enc Tryd.prog W 0 (fun _ => true) true fuel 35 l = some y) :
    ∃ x : Rv, l = rv x ∧ RvW W x ∧ InRq x.r := by
  obtain ⟨xs, n, _, _, hl, hlen, hff⟩ := DataW.trod_struct Tryd.underlying35 hf
  have h0 := hff 0 _ rfl
  have h1 := hff 1 _ rfl
  have h2 := hff 2 _ rfl
  have h3 := hff 3 _ rfl
  have h4 := hff 4 _ rfl
  have h5 := hff 5 _ rfl
  rw [cellsReq] at hl
  match xs, hlen with
  | [x0, x1, x2, x3, x4, x5], _ =>
    obtain ⟨n0, c0, _, _⟩ := DataW.trod_int Tryd.underlying3 h0
    obtain ⟨n1, c1, _, _⟩ := DataW.trod_int Tryd.underlying3 h1
    obtain ⟨n2, c2, _, _⟩ := DataW.trod_int Tryd.underlying3 h2
    obtain ⟨n5, c5, _, _⟩ := DataW.trod_int Tryd.underlying3 h5
    change List.take (Tryd.prog.cellsOf 3) (List.drop 0 l) = _ at c0
    change List.take (Tryd.prog.cellsOf 3) (List.drop 1 l) = _ at c1
    change List.take (Tryd.prog.cellsOf 3) (List.drop 2 l) = _ at c2
    change List.take (Tryd.prog.cellsOf 3) (List.drop 5 l) = _ at c5
    change DataW.trod enc Tryd.prog W 0 (fun _ => true) true n 26 (List.take (Tryd.prog.cellsOf 26) (List.drop 3 l)) = some x3 at h3
    change DataW.trod enc Tryd.prog W 0 (fun _ => true) true n 26 (List.take (Tryd.prog.cellsOf 26) (List.drop 4 l)) = some x4 at h4
    rw [cellsIntF] at c0 c1 c2 c5
    rw [cellsRowF] at h3 h4
    match l, hl with
    | [l0, l1, l2, l3, l4, l5], _ =>
      simp at c0 c1 c2 c5
      obtain ⟨q, k, c, G, rfl, r1, i1, m1⟩ := open_fldc (v := l3) h3
      obtain ⟨q', k', c', G', rfl, r2, i2, m2⟩ := open_fldc (v := l4) h4
      subst c0; subst c1; subst c2; subst c5
      exact ⟨⟨⟨n0, n1, n2, n5, k, G, k', G'⟩, q, c, q', c'⟩, rfl, ⟨r1, r2, by show k ≤ _; unfold maxLen at m1; omega, by show k' ≤ _; unfold maxLen at m2; omega⟩, ⟨i1, i2⟩⟩
set_option maxRecDepth 100000 in
/-- An Ask's cells. -/
theorem open_askc {H : Type} {enc : TypeId × Value → H} {W : World} {l : List Value} {fuel : Nat} {y : DataW H × List MemPlace} (hf : DataW.trod enc Tryd.prog W 0 (fun _ => true) true fuel 37 l = some y) :
    ∃ x : Av, l = al x ∧ RvW W x.r ∧ InRq x.r.r := by
  obtain ⟨y0, y1, n, _, hl, h0, h1⟩ := trod_struct2 Tryd.underlying37 hf
  rw [cellsAsk] at hl
  change DataW.trod enc Tryd.prog W 0 (fun _ => true) true n 35 (List.take (Tryd.prog.cellsOf 35) (List.drop 0 l)) = some y0 at h0
  change DataW.trod enc Tryd.prog W 0 (fun _ => true) true n 3 (List.take (Tryd.prog.cellsOf 3) (List.drop 6 l)) = some y1 at h1
  rw [cellsReq] at h0
  rw [cellsIntF] at h1
  obtain ⟨r, hr, rw_, ir⟩ := open_reqc h0
  obtain ⟨d, hd, _, _⟩ := DataW.trod_int Tryd.underlying3 h1
  refine ⟨⟨r, d⟩, ?_, rw_, ir⟩
  unfold al
  rw [← hr, ← hd, List.drop_zero]
  have := List.take_append_drop 6 l
  rw [List.take_of_length_le (l := List.drop 6 l) (by rw [List.length_drop]; omega)]
  exact this.symm
set_option maxRecDepth 100000 in
/-- A []Ask that came in. -/
theorem open_asks {H : Type} {enc : TypeId × Value → H} {W : World} {base : Nat} {v : Value} {d : DataW H} {p : List MemPlace} (hval : Value.okWide Tryd.prog W .any base 22 v) (h : DataW.Trod enc Tryd.prog W 0 (fun _ => true) true 22 v d p) :
    ∃ (A : Option Addr) (n c : Nat) (F : Nat → Av), v = .slice A n c ∧ n ≤ c ∧ c ≤ maxLen ∧ AW W A n F := by
  obtain ⟨q, n, c, rfl⟩ : ∃ A n c, v = .slice A n c := by
    cases v <;> simp [Value.okWide, Cell.okWide, Cell.ok, Tryd.underlying22] at hval ⊢
  obtain ⟨fuel, hf⟩ := h
  rcases open_slice Tryd.underlying22 hf with ⟨hcs, _⟩ | ⟨a, len, cap, m, k, D, Pl, hcs, _, hl, hm, hmm, _, hx⟩
  · simp [Value.cells] at hcs
    obtain ⟨rfl, rfl, rfl⟩ := hcs
    exact ⟨none, 0, 0, fun _ => ⟨zRv, 0⟩, rfl, Nat.le_refl _, Nat.zero_le _, ⟨fun j hj => absurd hj (by omega), fun j hj => absurd hj (by omega)⟩⟩
  · simp [Value.cells] at hcs
    obtain ⟨rfl, rfl, rfl⟩ := hcs
    have hlm : n ≤ m := by rw [hmm]; simp; omega
    obtain ⟨b, o, spot⟩ := a
    have opn : ∀ i, i < n → ∃ x : Av, (⟨b, o, spot⟩ : Addr).spot = none ∧ RvW W x.r ∧ ∀ j v, (al x)[j]? = some v → W.cell? ((⟨b, o, spot⟩ : Addr).add (i * 7 + j)) = some v := fun i hi => by
      obtain ⟨cs', hc, ht⟩ := hx i (by omega)
      rw [cellsAsk] at hc
      obtain ⟨x, rfl, h1, _⟩ := open_askc ht
      obtain ⟨_, _, hcell⟩ := World.cells?_some hc
      have hs := World.cell?_spot (hcell 0 (by decide))
      have hsp : spot = none := by
        have : i = 0 ∨ 0 < i := by omega
        obtain ⟨cs0, hc0, ht0⟩ := hx 0 (by omega)
        rw [cellsAsk] at hc0
        obtain ⟨x0, rfl, _, _⟩ := open_askc ht0
        have hs0 := World.cell?_spot ((World.cells?_some hc0).2.2 0 (by decide))
        simpa [Addr.add] using hs0
      refine ⟨x, hsp, h1, fun j v hv => ?_⟩
      have hj : j < 7 := by have := (List.getElem?_eq_some_iff.1 hv).1; simpa [al, rv] using this
      have := hcell j hj
      subst hsp
      rw [show (⟨b, o, none⟩ : Addr).add (i * 7 + j) = ((⟨b, o, none⟩ : Addr).add (i * 7)).add j by
        rw [show ∀ (c : Nat), (⟨b, o, none⟩ : Addr).add c = ⟨b, o + c, none⟩ from fun c => by unfold Addr.add; split <;> simp_all, show ∀ (o c : Nat), (⟨b, o, none⟩ : Addr).add c = ⟨b, o + c, none⟩ from fun o c => by unfold Addr.add; split <;> simp_all, show ∀ (o c : Nat), (⟨b, o, none⟩ : Addr).add c = ⟨b, o + c, none⟩ from fun o c => by unfold Addr.add; split <;> simp_all, Nat.add_assoc]]
      rw [this]
      exact hv
    have key : ∀ i, ∃ x : Av, i < n → (⟨b, o, spot⟩ : Addr).spot = none ∧ RvW W x.r ∧ ∀ j v, (al x)[j]? = some v → W.cell? ((⟨b, o, spot⟩ : Addr).add (i * 7 + j)) = some v := fun i => by
      by_cases hi : i < n
      · obtain ⟨x, hx⟩ := opn i hi
        exact ⟨x, fun _ => hx⟩
      · exact ⟨⟨zRv, 0⟩, fun h => absurd h hi⟩
    obtain ⟨F, hF⟩ := Classical.axiomOfChoice key
    refine ⟨some ⟨b, o, spot⟩, n, c, F, rfl, hl, hm, ⟨fun j hj => ?_, fun j hj => (hF j hj).2.1⟩⟩
    obtain ⟨e, _, h2⟩ := hF j hj
    obtain rfl : spot = none := e
    have e2 : ∀ (c : Nat), (⟨b, o, none⟩ : Addr).add c = ⟨b, o + c, none⟩ := fun c => by unfold Addr.add; split <;> simp_all
    refine ⟨b, o, rfl, ?_, fun i v hv => ?_⟩
    · have := h2 0 _ rfl
      rw [e2] at this
      exact World.block_lt_of_cell? W _ this
    · have := h2 i v hv
      rw [e2] at this
      rw [Nat.add_assoc]
      exact this
end Go.Proofs.YtojianpbjckipaaDoor
