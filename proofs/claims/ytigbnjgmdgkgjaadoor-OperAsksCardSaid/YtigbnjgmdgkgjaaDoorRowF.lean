/-
  A []api.Field that came in, opened.
-/
import Derived.Test.YtigbnjgmdgkgjaaDoorRowG
import Derived.Test.YtigbnjgmdgkgjaaDoorTpN
import Derived.Deep.Strs
namespace Go.Proofs.YtigbnjgmdgkgjaaDoor
open Go.ChangeShapes Go.WideShapes Go.ChangeAt Go.RowKit Go.Deep Sh

theorem cellsFld : Tryd.prog.cellsOf 40 = 3 := by kernel_rfl
theorem cellsIntF : Tryd.prog.cellsOf 3 = 1 := by kernel_rfl
theorem cellsI64F : Tryd.prog.cellsOf 2 = 1 := by kernel_rfl
theorem cellsStrF : Tryd.prog.cellsOf 9 = 1 := by kernel_rfl
theorem lit_i64 {n : Int} (h : (Lit.int .i64 n).wf = true) : -9223372036854775808 ≤ n ∧ n ≤ 9223372036854775807 := bounds_i64 h
theorem cell_lt {W : World} {b o : Nat} {v : Value} (h : W.cell? ⟨b, o, none⟩ = some v) : b < W.heap.size := by
  refine Classical.byContradiction fun hn => ?_
  have : W.heap[b]? = none := Array.getElem?_eq_none (by omega)
  simp [World.cell?, this] at h
/-- A field's cells, read. -/
theorem open_fld {H : Type} {enc : TypeId × Value → H} {W : World} {base n : Nat} {sp : Nat → Bool} {hd : Bool} {a : Addr} {cs : List Value} {x : DataW H × List MemPlace} (hc : W.cells? base a 3 = some cs) (h : DataW.trod enc Tryd.prog W base sp hd n 40 cs = some x) :
    ∃ f : Fld, InR f ∧ a.spot = none ∧ a.block < W.heap.size ∧ W.rangeAt a.block a.off (fv f) := by
  obtain ⟨hb, hlen, hcell⟩ := World.cells?_some hc
  obtain ⟨y0, y1, y2, m, _, _, h0, h1, h2⟩ := trod_struct3 Tryd.underlying40 h
  match cs, hlen with
  | [c0, c1, c2], _ =>
    have e0 : DataW.trod enc Tryd.prog W base sp hd m 3 [c0] = some y0 := by simpa [cellsIntF] using h0
    have e1 : DataW.trod enc Tryd.prog W base sp hd m 2 [c1] = some y1 := by simpa [cellsI64F] using h1
    have e2 : DataW.trod enc Tryd.prog W base sp hd m 9 [c2] = some y2 := by simpa [cellsStrF] using h2
    obtain ⟨k, k0, _, _⟩ := DataW.trod_int Tryd.underlying3 e0
    obtain ⟨nn, k1, _, wf⟩ := DataW.trod_int Tryd.underlying2 e1
    obtain ⟨s, k2, _, _⟩ := DataW.trod_string Tryd.underlying9 e2
    obtain rfl : c0 = .int .i64 k := by simpa using k0
    obtain rfl : c1 = .int .i64 nn := by simpa using k1
    obtain rfl : c2 = .string s := by simpa using k2
    obtain ⟨b, o, spot⟩ := a
    have q0 := hcell 0 (by decide)
    have q1 := hcell 1 (by decide)
    have q2 := hcell 2 (by decide)
    have hspot : spot = none := by simpa [Addr.add] using World.cell?_spot q0
    subst hspot
    refine ⟨⟨k, nn, s⟩, lit_i64 wf, rfl, ?_, ?_⟩
    · have hq : W.cell? ⟨b, o + 0, none⟩ = some (.int .i64 k) := q0
      exact cell_lt hq
    · intro j v hv
      match j, hv with
      | 0, hv => exact q0.trans hv
      | 1, hv => exact q1.trans hv
      | 2, hv => exact q2.trans hv
/-- A []api.Field that came in. -/
theorem open_flds {H : Type} {enc : TypeId × Value → H} {W : World} {base : Nat} {v : Value} {d : DataW H} {p : List MemPlace} (hval : Value.okWide Tryd.prog W .any base 22 v) (h : DataW.Trod enc Tryd.prog W 0 (fun _ => true) true 22 v d p) :
    ∃ (q : Option Addr) (n c : Nat) (G : Nat → Fld), v = .slice q n c ∧ Rw W q n G ∧ (∀ j, j < n → InR (G j)) ∧ n ≤ maxLen ∧ n ≤ c := by
  obtain ⟨q, n, c, rfl⟩ : ∃ A n c, v = .slice A n c := by
    cases v <;> simp [Value.okWide, Cell.okWide, Cell.ok, Tryd.underlying22] at hval ⊢
  obtain ⟨fuel, hf⟩ := h
  rcases open_slice Tryd.underlying22 hf with ⟨hcs, _⟩ | ⟨a, len, cap, m, k, D, Pl, hcs, _, hl, hm, hmm, _, hx⟩
  · simp [Value.cells] at hcs
    obtain ⟨rfl, rfl, rfl⟩ := hcs
    exact ⟨none, 0, 0, fun _ => zF, rfl, fun j hj => absurd hj (by omega), fun j hj => absurd hj (by omega), Nat.zero_le _, Nat.le_refl _⟩
  · simp [Value.cells] at hcs
    obtain ⟨rfl, rfl, rfl⟩ := hcs
    have hlm : n ≤ m := by rw [hmm]; simp; omega
    obtain ⟨b, o, spot⟩ := a
    by_cases h0 : n = 0
    · subst h0
      exact ⟨_, 0, c, fun _ => zF, rfl, fun j hj => absurd hj (by omega), fun j hj => absurd hj (by omega), by omega, hl⟩
    have hsp : spot = none := by
      obtain ⟨cs', hc, ht⟩ := hx 0 (by omega)
      rw [cellsFld] at hc
      obtain ⟨f, _, h2, _⟩ := open_fld hc ht
      simpa [Addr.add] using h2
    subst hsp
    have key : ∀ i, ∃ f : Fld, i < n → (InR f ∧ b < W.heap.size ∧ W.rangeAt b (o + i * 3) (fv f)) := fun i => by
      by_cases hi : i < n
      · obtain ⟨cs', hc, ht⟩ := hx i (by omega)
        rw [cellsFld, add_plain] at hc
        obtain ⟨f, h1, _, h3, h4⟩ := open_fld hc ht
        exact ⟨f, fun _ => ⟨h1, h3, h4⟩⟩
      · exact ⟨zF, fun h => absurd h hi⟩
    obtain ⟨G, hG⟩ := Classical.axiomOfChoice key
    exact ⟨some ⟨b, o, none⟩, n, c, G, rfl, fun j hj => ⟨b, o, rfl, (hG j hj).2.1, (hG j hj).2.2⟩, fun j hj => (hG j hj).1, by omega, hl⟩
end Go.Proofs.YtigbnjgmdgkgjaaDoor
