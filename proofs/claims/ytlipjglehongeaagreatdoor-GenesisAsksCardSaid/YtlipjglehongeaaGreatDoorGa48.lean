/-
  THE ROWS' ENDS, for any seat
  LAYER 8's ROWS
  LAYER 8's ROWS
-/
import Derived.Test.YtlipjglehongeaaGreatDoorGa1
import Derived.Test.YtlipjglehongeaaGreatDoorRows
import Derived.WalkKit
import Derived.ProofKit
import Derived.OpenShut
import Derived.Carry
import Derived.JoinedCond
import Derived.Deep.Matrix
import Derived.Test.YtlipjglehongeaaGreatDoorGa5
import Derived.Test.YtlipjglehongeaaGreatDoorCards
import Derived.Test.YtlipjglehongeaaGreatDoorTie
import Derived.Deep.Strs
import Derived.Deep.DeepHandedRow
import Derived.Lib.LaidTab
import Derived.LaidSub
import Derived.Test.YtlipjglehongeaaGreatDoorGa13
namespace Go.Proofs.YtlipjglehongeaaGreatDoor
open Go.ChangeShapes Go.WideShapes Go.ChangeAt Go.RowKit Go.Deep Sh

theorem ownG : ownKnob Tryz.prog.godebug = none := by kernel_rfl
theorem laidOutG : laidOutB Tryz.prog = true := by kernel_rfl
section
variable {H : Type} {enc : TypeId × Value → H}
theorem stayG : ∀ (ts : List TypeId) (vs : List Value) (ds : List (DataW H)) (ps : List MemPlace) (W W' : World), (∀ t ∈ ts, Tryz.prog.readableRec t = true ∧ t < Tryz.prog.types.size) → Below W.heap.size W W' → (∀ x ∈ ps, x.block < W.heap.size) →
    DataW.TrodAll enc Tryz.prog W 0 (fun _ => true) true ts vs ds ps → DataW.TrodAll enc Tryz.prog W' 0 (fun b => decide (b < W.heap.size)) true ts vs ds ps
  | [], vs, ds, ps, W, W', _, _, _, h => by
    obtain ⟨rfl, rfl, rfl⟩ := trodAll_nil h
    exact trodAll_mk0
  | t :: ts, vs, ds, ps, W, W', hr, hb, hlt, h => by
    obtain ⟨v, vs, d, ds, p, q, rfl, rfl, rfl, h1, h2⟩ := trodAll_cons h
    exact trodAll_cons_mk (Below.trod laidOutG (hr t (List.mem_cons_self)).1 (hr t (List.mem_cons_self)).2 h1 hb (fun x hx => hlt x (List.mem_append_left _ hx)))
      (stayG ts vs ds q W W' (fun u hu => hr u (List.mem_cons_of_mem _ hu)) hb (fun x hx => hlt x (List.mem_append_right _ hx)) h2)
theorem law_postG {f : Func} {s : ChangeSpec} {W W' : World} {args : Array Value} {ds gs : List (DataW H)} {before : List MemPlace} (hW : DataW.Whole enc Tryz.prog f.params.toList s.vars false W args.toList ds gs before)
    (hr : f.resultTypes = #[4]) (hv : s.vars = []) (hfn : s.fn H (ds ++ gs) = { results := [.lit (.bool true)], args := ds }) (hp : ∀ t ∈ f.params.toList, Tryz.prog.readableRec t = true ∧ t < Tryz.prog.types.size) (hb : Below W.heap.size W W') :
    s.post enc Tryz.prog f false true false false W args (.bool true) W' := by
  have hlt := hW.lt
  obtain ⟨p, q, hA, hV, hpq, hz, hnd⟩ := id hW
  rw [hv] at hV
  obtain ⟨rfl, rfl⟩ := trodVars_none hV
  rw [List.append_nil] at hpq
  subst hpq
  refine ⟨ds, [], before, [], before, [], hW, ?_, ?_, ?_, World.keptBut_mono (fun x hx => ⟨hx, Or.inr (Or.inl hx)⟩) (hb.frame (· ∈ before)), fun h => by cases h⟩
  · rw [hfn, hr]
    exact trodAll_mk1 (shut_bool Tryz.underlying4 _)
  · rw [hfn]
    exact stayG _ _ _ _ W W' hp hb hlt hA
  · rw [hfn, hv]
    rfl
theorem cellsU8 : Tryz.prog.cellsOf 5 = 1 := by kernel_rfl
theorem nats_of (zs : List Int) (hz : ∀ n ∈ zs, (Lit.int .u8 n).wf = true) (len : Nat) (hl : len ≤ zs.length) : ((zs.take len).map Int.toNat).length = len ∧ Bytes ((zs.take len).map Int.toNat) ∧ ∀ j, j < len → ((gt ((zs.take len).map Int.toNat) j : Nat) : Int) = zs.getD j 0 := by
  have each : ∀ j, j < len → ((gt ((zs.take len).map Int.toNat) j : Nat) : Int) = zs.getD j 0 ∧ gt ((zs.take len).map Int.toNat) j < 256 := fun j hj => by
    have hjz : j < zs.length := by omega
    have hb := bounds_u8 (hz zs[j] (List.getElem_mem _))
    simp [gt, List.getD_eq_getElem?_getD, hj, hjz]
    omega
  refine ⟨by simp; omega, fun i => ?_, fun j hj => (each j hj).1⟩
  rcases Nat.lt_or_ge i len with h | h
  · exact (each i h).2
  · rw [gt_out (by simp; omega)]; decide
set_option maxRecDepth 100000 in
theorem open_u8s {W : World} {base : Nat} {v : Value} {d : DataW H} {p : List MemPlace} (hval : Value.okWide Tryz.prog W .any base 23 v) (h : DataW.Trod enc Tryz.prog W 0 (fun _ => true) true 23 v d p) :
    ∃ (A : Option Addr) (n c : Nat) (xs : List Nat), v = .slice A n c ∧ xs.length = n ∧ Sr W A xs ∧ Bytes xs ∧ n ≤ c ∧ c ≤ maxLen := by
  obtain ⟨A, n, c, rfl⟩ : ∃ A n c, v = .slice A n c := by
    cases v <;> simp [Value.okWide, Cell.okWide, Cell.ok, Tryz.underlying23] at hval ⊢
  obtain ⟨fuel, hf⟩ := h
  rcases open_ints Tryz.underlying23 Tryz.underlying5 cellsU8 hf with ⟨hcs, _⟩ | ⟨a, len, cap, zs, hcs, _, hl, hm, hz, _, hcell, hwz⟩
  · simp [Value.cells] at hcs
    obtain ⟨rfl, rfl, rfl⟩ := hcs
    exact ⟨none, 0, 0, [], rfl, rfl, Sr.nil, fun i => by simp [gt], Nat.le_refl _, Nat.zero_le _⟩
  · simp [Value.cells] at hcs
    obtain ⟨rfl, rfl, rfl⟩ := hcs
    simp only [if_true] at hz
    obtain ⟨h1, h2, h3⟩ := nats_of zs hwz n (by omega)
    refine ⟨some a, n, c, (zs.take n).map Int.toNat, rfl, h1, fun hx => ?_, h2, hl, hm⟩
    rw [h1] at hx
    have hs := World.cell?_spot (hcell 0 (by omega))
    obtain ⟨b, o, sp⟩ := a
    have hsp : sp = none := by simpa [Addr.add] using hs
    subst hsp
    refine ⟨b, o, rfl, World.block_lt_of_cell? W _ (hcell 0 (by omega)), fun j hj => ?_⟩
    rw [h1] at hj
    have := hcell j (by omega)
    rw [Addr.add_mid] at this
    rw [this, h3 j hj]
end
end Go.Proofs.YtlipjglehongeaaGreatDoor
namespace Go.Proofs.YtlipjglehongeaaGreatDoor
open Go.ChangeShapes Go.WideShapes Go.ChangeAt Go.RowKit Go.Deep Sh

theorem cellsIntF : Tryz.prog.cellsOf 3 = 1 := by kernel_rfl
end Go.Proofs.YtlipjglehongeaaGreatDoor
namespace Go.Proofs.YtlipjglehongeaaGreatDoor
open Go.ChangeShapes Go.WideShapes Go.ChangeAt Go.RowKit Go.Deep Sh

theorem open_rowc {H : Type} {enc : TypeId × Value → H} {W : World} {α : Type} {T e : TypeId} {sz : Nat} (f : α → List Value) (Q : α → Prop) (z : α) (hT : Tryz.prog.underlying T = some (.slice e)) (hsz : Tryz.prog.cellsOf e = sz) (hpos : 0 < sz) (hlen : ∀ x, (f x).length = sz)
    (opn : ∀ {l : List Value} {fuel : Nat} {y : DataW H × List MemPlace}, DataW.trod enc Tryz.prog W 0 (fun _ => true) true fuel e l = some y → ∃ x : α, l = f x ∧ Q x)
    {v : Value} {fuel : Nat} {x : DataW H × List MemPlace} (hf : DataW.trod enc Tryz.prog W 0 (fun _ => true) true fuel T [v] = some x) :
    ∃ (q : Option Addr) (c : Nat) (l : List α), v = .slice q l.length c ∧ RowL W q sz f l ∧ (∀ y ∈ l, Q y) ∧ l.length ≤ maxLen := by
  rcases open_slice hT hf with ⟨hcs, _⟩ | ⟨a, len, cap, m, k, D, Pl, hcs, _, hl, hm, hmm, _, hx⟩
  · obtain rfl := List.cons.inj hcs |>.1
    exact ⟨none, 0, [], rfl, RowL.nil, fun y hy => by simp at hy, Nat.zero_le _⟩
  · obtain rfl := List.cons.inj hcs |>.1
    have hlm : len ≤ m := by rw [hmm]; simp; omega
    obtain ⟨b, o, spot⟩ := a
    have key : ∀ i, ∃ x : α, i < len → spot = none ∧ Q x ∧ b < W.heap.size ∧ W.rangeAt b (o + i * sz) (f x) := fun i => by
      by_cases hi : i < len
      · obtain ⟨cs', hc, ht⟩ := hx i (by omega)
        rw [hsz] at hc
        obtain ⟨x, rfl, hq⟩ := opn ht
        obtain ⟨_, _, hcell⟩ := World.cells?_some hc
        have hsp : spot = none := by
          obtain ⟨cs0, hc0, ht0⟩ := hx 0 (by omega)
          rw [hsz] at hc0
          obtain ⟨x00, rfl, _⟩ := opn ht0
          have h00 := (World.cells?_some hc0).2.2 0 hpos
          rw [List.getElem?_eq_getElem (by rw [hlen]; exact hpos)] at h00
          have hs0 := World.cell?_spot h00
          simpa [Addr.add] using hs0
        subst hsp
        have e2 : ∀ (o c : Nat), (⟨b, o, none⟩ : Addr).add c = ⟨b, o + c, none⟩ := fun o c => by unfold Addr.add; split <;> simp_all
        have hr : W.rangeAt b (o + i * sz) (f x) := fun j v hv => by
          have hj : j < sz := by have := (List.getElem?_eq_some_iff.1 hv).1; rwa [hlen] at this
          have h := hcell j hj
          rw [e2, e2] at h
          exact h.trans hv
        have h0 : 0 < (f x).length := by rw [hlen]; exact hpos
        exact ⟨x, fun _ => ⟨rfl, hq, World.block_lt_of_cell? W _ (hr 0 _ (List.getElem?_eq_getElem h0)), hr⟩⟩
      · exact ⟨z, fun h => absurd h hi⟩
    obtain ⟨G, hG⟩ := Classical.axiomOfChoice key
    have hlen2 : ((List.range len).map G).length = len := by simp
    refine ⟨some ⟨b, o, spot⟩, cap, (List.range len).map G, by rw [hlen2], fun j x hx => ?_, fun y hy => ?_, by rw [hlen2]; omega⟩
    · rw [List.getElem?_map] at hx
      by_cases hj : j < len
      · rw [List.getElem?_range hj] at hx
        obtain rfl : G j = x := by simpa using hx
        obtain ⟨e, _, h1, h2⟩ := hG j hj
        subst e
        exact ⟨b, o, rfl, h1, h2⟩
      · rw [List.getElem?_eq_none (by simpa using hj)] at hx
        cases hx
    · obtain ⟨i, hi, rfl⟩ := List.mem_map.1 hy
      exact (hG i (List.mem_range.1 hi)).2.1
end Go.Proofs.YtlipjglehongeaaGreatDoor
