/-
  THE ROWS' ENDS, for any seat
  LAYER 13's ROWS
-/
import Derived.Test.YtidklgicmhdapaaGreatDoorAv1
import Derived.Test.YtidklgicmhdapaaGreatDoorRows
import Derived.WalkKit
import Derived.ProofKit
import Derived.OpenShut
import Derived.Carry
import Derived.JoinedCond
import Derived.Deep.Matrix
import Derived.Test.YtidklgicmhdapaaGreatDoorCards
import Derived.Test.YtidklgicmhdapaaGreatDoorTie
import Derived.Deep.DeepHandedRow
import Derived.Lib.LaidTab
import Derived.Test.YtidklgicmhdapaaGreatDoorAv9
namespace Go.Proofs.YtidklgicmhdapaaGreatDoor
open Go.ChangeShapes Go.WideShapes Go.ChangeAt Go.RowKit Go.Deep Sh

theorem ownG : ownKnob Tryz.prog.godebug = none := by kernel_rfl
theorem laidOutG : laidOutB Tryz.prog = true := by kernel_rfl
section
variable {H : Type} {enc : TypeId × Value → H}
theorem stayG : ∀ (ts : List TypeId) (vs : List Value) (ds : List (DataW H)) (ps : List MemPlace) (W W' : World), (∀ t ∈ ts, Tryz.prog.readableRec t = true ∧ t < Tryz.prog.types.size) → Below W.heap.size W W' → (∀ x ∈ ps, x.block < W.heap.size) →
    DataW.TrodAll enc Tryz.prog W 0 (fun _ => true) true ts vs ds ps → DataW.TrodAll enc Tryz.prog W' 0 (fun b => decide (b < W.heap.size)) true ts vs ds ps
  | [], vs, ds, ps, W, W', _, _, _, h => by
    obtain ⟨rfl, rfl, rfl⟩ := trodAll_nil h
    exact trodAll_mk0
  | t :: ts, vs, ds, ps, W, W', hr, hb, hlt, h => by
    obtain ⟨v, vs, d, ds, p, q, rfl, rfl, rfl, h1, h2⟩ := trodAll_cons h
    exact trodAll_cons_mk (Below.trod laidOutG (hr t (List.mem_cons_self)).1 (hr t (List.mem_cons_self)).2 h1 hb (fun x hx => hlt x (List.mem_append_left _ hx)))
      (stayG ts vs ds q W W' (fun u hu => hr u (List.mem_cons_of_mem _ hu)) hb (fun x hx => hlt x (List.mem_append_right _ hx)) h2)
theorem law_postG {f : Func} {s : ChangeSpec} {W W' : World} {args : Array Value} {ds gs : List (DataW H)} {before : List MemPlace} (hW : DataW.Whole enc Tryz.prog f.params.toList s.vars false W args.toList ds gs before)
    (hr : f.resultTypes = #[4]) (hv : s.vars = []) (hfn : s.fn H (ds ++ gs) = { results := [.lit (.bool true)], args := ds }) (hp : ∀ t ∈ f.params.toList, Tryz.prog.readableRec t = true ∧ t < Tryz.prog.types.size) (hb : Below W.heap.size W W') :
    s.post enc Tryz.prog f false true false false W args (.bool true) W' := by
  have hlt := hW.lt
  obtain ⟨p, q, hA, hV, hpq, hz, hnd⟩ := id hW
  rw [hv] at hV
  obtain ⟨rfl, rfl⟩ := trodVars_none hV
  rw [List.append_nil] at hpq
  subst hpq
  refine ⟨ds, [], before, [], before, [], hW, ?_, ?_, ?_, World.keptBut_mono (fun x hx => ⟨hx, Or.inr (Or.inl hx)⟩) (hb.frame (· ∈ before)), fun h => by cases h⟩
  · rw [hfn, hr]
    exact trodAll_mk1 (shut_bool Tryz.underlying4 _)
  · rw [hfn]
    exact stayG _ _ _ _ W W' hp hb hlt hA
  · rw [hfn, hv]
    rfl
theorem cellsU8 : Tryz.prog.cellsOf 5 = 1 := by kernel_rfl
theorem nats_of (zs : List Int) (hz : ∀ n ∈ zs, (Lit.int .u8 n).wf = true) (len : Nat) (hl : len ≤ zs.length) : ((zs.take len).map Int.toNat).length = len ∧ Bytes ((zs.take len).map Int.toNat) ∧ ∀ j, j < len → ((gt ((zs.take len).map Int.toNat) j : Nat) : Int) = zs.getD j 0 := by
  have each : ∀ j, j < len → ((gt ((zs.take len).map Int.toNat) j : Nat) : Int) = zs.getD j 0 ∧ gt ((zs.take len).map Int.toNat) j < 256 := fun j hj => by
    have hjz : j < zs.length := by omega
    have hb := bounds_u8 (hz zs[j] (List.getElem_mem _))
    simp [gt, List.getD_eq_getElem?_getD, hj, hjz]
    omega
  refine ⟨by simp; omega, fun i => ?_, fun j hj => (each j hj).1⟩
  rcases Nat.lt_or_ge i len with h | h
  · exact (each i h).2
  · rw [gt_out (by simp; omega)]; decide
set_option maxRecDepth 100000 in
theorem open_u8s {W : World} {base : Nat} {v : Value} {d : DataW H} {p : List MemPlace} (hval : Value.okWide Tryz.prog W .any base 24 v) (h : DataW.Trod enc Tryz.prog W 0 (fun _ => true) true 24 v d p) :
    ∃ (A : Option Addr) (n c : Nat) (xs : List Nat), v = .slice A n c ∧ xs.length = n ∧ Sr W A xs ∧ Bytes xs ∧ n ≤ c ∧ c ≤ maxLen := by
  obtain ⟨A, n, c, rfl⟩ : ∃ A n c, v = .slice A n c := by
    cases v <;> simp [Value.okWide, Cell.okWide, Cell.ok, Tryz.underlying24] at hval ⊢
  obtain ⟨fuel, hf⟩ := h
  rcases open_ints Tryz.underlying24 Tryz.underlying5 cellsU8 hf with ⟨hcs, _⟩ | ⟨a, len, cap, zs, hcs, _, hl, hm, hz, _, hcell, hwz⟩
  · simp [Value.cells] at hcs
    obtain ⟨rfl, rfl, rfl⟩ := hcs
    exact ⟨none, 0, 0, [], rfl, rfl, Sr.nil, fun i => by simp [gt], Nat.le_refl _, Nat.zero_le _⟩
  · simp [Value.cells] at hcs
    obtain ⟨rfl, rfl, rfl⟩ := hcs
    simp only [if_true] at hz
    obtain ⟨h1, h2, h3⟩ := nats_of zs hwz n (by omega)
    refine ⟨some a, n, c, (zs.take n).map Int.toNat, rfl, h1, fun hx => ?_, h2, hl, hm⟩
    rw [h1] at hx
    have hs := World.cell?_spot (hcell 0 (by omega))
    obtain ⟨b, o, sp⟩ := a
    have hsp : sp = none := by simpa [Addr.add] using hs
    subst hsp
    refine ⟨b, o, rfl, World.block_lt_of_cell? W _ (hcell 0 (by omega)), fun j hj => ?_⟩
    rw [h1] at hj
    have := hcell j (by omega)
    rw [Addr.add_mid] at this
    rw [this, h3 j hj]
end
end Go.Proofs.YtidklgicmhdapaaGreatDoor
namespace Go.Proofs.YtidklgicmhdapaaGreatDoor
open Go.ChangeShapes Go.WideShapes Go.ChangeAt Go.RowKit Sh

theorem own : ownKnob Tryz.prog.godebug = none := by kernel_rfl
theorem gTab : Tryz.prog.globalNamed "chirograph/sha.rounds" = some 1 := by kernel_rfl
theorem gTabType : (Tryz.prog.globals[1]?).map (·.type) = some 170 := by kernel_rfl
theorem cells51 : Tryz.prog.cellsOf 170 = 64 := by kernel_rfl
theorem cells41 : Tryz.prog.cellsOf 141 = 1 := by kernel_rfl
theorem cells5 : Tryz.prog.cellsOf 5 = 1 := by kernel_rfl
theorem cells25 : Tryz.prog.cellsOf 23 = 32 := by kernel_rfl

theorem kat_of {W : World} (h : laidMetH Tryz.prog [("chirograph/sha.rounds", Rows.laid_chirograph_sha_rounds)] W) : KAt W := by
  have ht : Lib.TabIs Tryz.prog W "chirograph/sha.rounds" .u32 (ks.map fun (n : Nat) => (n : Int)) :=
    Lib.tabIs_of_head (rest := []) gTab gTabType Tryz.underlying170 Tryz.underlying141 cells41 cells51 h
  have hc : ∀ j, j < 64 → W.cell? ⟨1, j, none⟩ = some (.int .u32 ((gt ks j : Nat) : Int)) := fun j hj => by
    have hl : j < ks.length := hj
    rw [ht.cell gTab j (by rw [List.length_map]; exact hl)]
    congr 2
    simp [gt, List.getD_eq_getElem?_getD, List.getElem?_eq_getElem hl]
  exact ⟨World.block_lt_of_cell? W _ (hc 0 (by decide)), hc⟩

section
variable {H : Type} {enc : TypeId × Value → H}
set_option maxRecDepth 100000 in
theorem open_hash {W : World} {base : Nat} {v : Value} {d : DataW H} {p : List MemPlace} (hval : Value.okWide Tryz.prog W .any base 23 v) (h : DataW.Trod enc Tryz.prog W 0 (fun _ => true) true 23 v d p) :
    ∃ l : List Nat, l.length = 32 ∧ Bytes l ∧ v = .agg (u8s l).toArray := by
  obtain ⟨cs, rfl, hsz, _⟩ : ∃ cs, v = .agg cs ∧ cs.size = Tryz.prog.cellsOf 23 ∧ Row.okWide Tryz.prog W .any base 23 cs := by
    simpa [Value.okWide, Tryz.underlying23] using hval
  rw [cells25] at hsz
  obtain ⟨fuel, hf⟩ := h
  obtain ⟨xs, m, _, _, _, hxl, hel⟩ := DataW.trod_array Tryz.underlying23 hf
  have each : ∀ i, i < 32 → ∃ n : Nat, n < 256 ∧ cs.toList[i]? = some (.int .u8 (n : Int)) := fun i hi => by
    have h1 := hel i hi
    rw [cells5, Nat.mul_one, List.getElem?_eq_getElem (by omega)] at h1
    obtain ⟨n, e1, _, wf⟩ := DataW.trod_int Tryz.underlying5 h1
    have hb := bounds_u8 wf
    refine ⟨n.toNat, by omega, ?_⟩
    have h2 : (cs.toList.drop i)[0]? = some (.int .u8 n) := by
      have := congrArg (fun l => l[0]?) e1
      simpa [Value.cells] using this
    rw [List.getElem?_drop, Nat.add_zero] at h2
    rw [h2, Int.toNat_of_nonneg hb.1]
  have hlen : cs.toList.length = 32 := by simpa using hsz
  refine ⟨cs.toList.map fun v => match v with | .int _ n => n.toNat | _ => 0, by simpa using hsz, ?_, ?_⟩
  · intro i
    rcases Nat.lt_or_ge i 32 with hi | hi
    · obtain ⟨n, hn, e⟩ := each i hi
      simp [gt, List.getD_eq_getElem?_getD, e]
      omega
    · rw [gt_out (by simpa using by omega)]; decide
  · congr 1
    have e : cs.toList = u8s (cs.toList.map fun v => match v with | .int _ n => n.toNat | _ => 0) := by
      apply List.ext_getElem?
      intro i
      rcases Nat.lt_or_ge i 32 with hi | hi
      · obtain ⟨n, hn, e⟩ := each i hi
        simp [u8s, e]
      · rw [List.getElem?_eq_none (by omega), List.getElem?_eq_none (by simp [u8s]; omega)]
    rw [← e]
end
end Go.Proofs.YtidklgicmhdapaaGreatDoor
namespace Go.Proofs.YtidklgicmhdapaaGreatDoor
open Go.ChangeShapes Go.WideShapes Go.ChangeAt Go.RowKit Go.Deep Sh

theorem cellsVote : Tryz.prog.cellsOf 26 = 35 := by kernel_rfl
theorem cellsKbV : Tryz.prog.cellsOf 24 = 1 := by kernel_rfl
theorem cellsIntV : Tryz.prog.cellsOf 3 = 1 := by kernel_rfl
theorem u8_array {H : Type} {enc : TypeId × Value → H} {W : World} {base : Nat} {sp : Nat → Bool} {held : Bool} {fuel : Nat} {t n : Nat} {l : List Value} {x : DataW H × List MemPlace}
    (ht : Tryz.prog.underlying t = some (.array n 5)) (hc : Tryz.prog.cellsOf t = n) (h : DataW.trod enc Tryz.prog W base sp held fuel t l = some x) : ∃ xs : List Nat, xs.length = n ∧ Bytes xs ∧ l = u8s xs := by
  obtain ⟨xs, m, _, _, hl, hxl, hel⟩ := DataW.trod_array ht h
  rw [hc] at hl
  have each : ∀ i, i < n → ∃ k : Nat, k < 256 ∧ l[i]? = some (.int .u8 (k : Int)) := fun i hi => by
    have h1 := hel i hi
    rw [cells5, Nat.mul_one, List.getElem?_eq_getElem (by omega)] at h1
    obtain ⟨z, e1, _, wf⟩ := DataW.trod_int Tryz.underlying5 h1
    have hb := bounds_u8 wf
    refine ⟨z.toNat, by omega, ?_⟩
    have h2 : (l.drop i)[0]? = some (.int .u8 z) := by
      have := congrArg (fun l => l[0]?) e1
      simpa using this
    rw [List.getElem?_drop, Nat.add_zero] at h2
    rw [h2, Int.toNat_of_nonneg hb.1]
  refine ⟨l.map fun v => match v with | .int _ n => n.toNat | _ => 0, by simpa using hl, ?_, ?_⟩
  · intro i
    rcases Nat.lt_or_ge i n with hi | hi
    · obtain ⟨k, hk, e⟩ := each i hi
      simp [gt, List.getD_eq_getElem?_getD, e]
      omega
    · rw [gt_out (by simpa using by omega)]; decide
  · apply List.ext_getElem?
    intro i
    rcases Nat.lt_or_ge i n with hi | hi
    · obtain ⟨k, hk, e⟩ := each i hi
      simp [u8s, e]
    · rw [List.getElem?_eq_none (by omega), List.getElem?_eq_none (by simp [u8s]; omega)]
set_option maxRecDepth 100000 in
theorem open_u8cV {H : Type} {enc : TypeId × Value → H} {W : World} {l : List Value} {fuel : Nat} {x : DataW H × List MemPlace} (hf : DataW.trod enc Tryz.prog W 0 (fun _ => true) true fuel 24 l = some x) :
    ∃ (A : Option Addr) (c : Nat) (X : List Nat), l = [.slice A X.length c] ∧ Sr W A X ∧ Bytes X ∧ X.length ≤ c ∧ c ≤ maxLen := by
  rcases open_ints Tryz.underlying24 Tryz.underlying5 cellsU8 hf with ⟨hcs, _⟩ | ⟨a, len, cap, zs, hcs, _, hl, hm, hz, _, hcell, hwz⟩
  · exact ⟨none, 0, [], hcs, Sr.nil, fun i => by simp [gt], Nat.le_refl _, Nat.zero_le _⟩
  · simp only [if_true] at hz
    obtain ⟨h1, h2, h3⟩ := nats_of zs hwz len (by omega)
    refine ⟨some a, cap, (zs.take len).map Int.toNat, by rw [h1]; exact hcs, fun hx => ?_, h2, by rw [h1]; exact hl, hm⟩
    rw [h1] at hx
    have hs := World.cell?_spot (hcell 0 (by omega))
    obtain ⟨b, o, sp⟩ := a
    have hsp : sp = none := by simpa [Addr.add] using hs
    subst hsp
    refine ⟨b, o, rfl, World.block_lt_of_cell? W _ (hcell 0 (by omega)), fun j hj => ?_⟩
    rw [h1] at hj
    have := hcell j (by omega)
    rw [Addr.add_mid] at this
    rw [this, h3 j hj]
structure VvI (W : World) (x : Vv) : Prop where
  ll : x.l.length = 32
  lb : Bytes x.l
  s : Sr W x.A x.s
  sb : Bytes x.s
theorem VvI.w {W : World} {x : Vv} (h : VvI W x) (hs : x.s.length ≤ 1000000) : VvW W x := ⟨h.ll, h.lb, h.s, h.sb, hs⟩
theorem VvI.below {W W' : World} {x : Vv} (h : VvI W x) (hb : Below W.heap.size W W') : VvI W' x := ⟨h.ll, h.lb, h.s.below hb, h.sb⟩
set_option maxRecDepth 100000 in
theorem open_vote {H : Type} {enc : TypeId × Value → H} {W : World} {base : Nat} {v : Value} {d : DataW H} {p : List MemPlace} (hval : Value.okWide Tryz.prog W .any base 26 v) (h : DataW.Trod enc Tryz.prog W 0 (fun _ => true) true 26 v d p) :
    ∃ x : Vv, v = .agg (vv x).toArray ∧ VvI W x := by
  obtain ⟨cs, rfl, hsz, _⟩ : ∃ cs, v = .agg cs ∧ cs.size = Tryz.prog.cellsOf 26 ∧ Row.okWide Tryz.prog W .any base 26 cs := by
    simpa [Value.okWide, Tryz.underlying26] using hval
  obtain ⟨fuel, hf⟩ := h
  obtain ⟨xs, n, _, _, hl, hlen, hff⟩ := DataW.trod_struct Tryz.underlying26 hf
  have h0 := hff 0 _ rfl
  have h1 := hff 1 _ rfl
  have h2 := hff 2 _ rfl
  have h3 := hff 3 _ rfl
  rw [cellsVote] at hl
  match xs, hlen with
  | [x0, x1, x2, x3], _ =>
    obtain ⟨n0, c0, _, _⟩ := DataW.trod_int Tryz.underlying3 h0
    obtain ⟨n1, c1, _, _⟩ := DataW.trod_int Tryz.underlying3 h1
    obtain ⟨l⟩ := cs
    change List.take (Tryz.prog.cellsOf 3) (List.drop 0 l) = _ at c0
    change List.take (Tryz.prog.cellsOf 3) (List.drop 1 l) = _ at c1
    change DataW.trod enc Tryz.prog W 0 (fun _ => true) true n 23 (List.take (Tryz.prog.cellsOf 23) (List.drop 2 l)) = some x2 at h2
    change DataW.trod enc Tryz.prog W 0 (fun _ => true) true n 24 (List.take (Tryz.prog.cellsOf 24) (List.drop 34 l)) = some x3 at h3
    rw [cellsIntV] at c0 c1
    rw [cells25] at h2
    rw [cellsKbV] at h3
    change l.length = 35 at hl
    obtain ⟨ls, hls, hlb, e2⟩ := u8_array Tryz.underlying23 cells25 h2
    obtain ⟨A, c, X, e3, s1, s2, _, _⟩ := open_u8cV h3
    refine ⟨⟨n0, n1, ls, A, c, X⟩, ?_, ⟨hls, hlb, s1, s2⟩⟩
    refine congrArg (fun l : List Value => Value.agg l.toArray) ?_
    show l = Value.int .i64 n0 :: Value.int .i64 n1 :: (u8s ls ++ [Value.slice A X.length c])
    rw [← e2, ← e3]
    match l, hl with
    | l0 :: l1 :: t, hl =>
      simp at c0 c1
      subst c0; subst c1
      have ht : t.length = 33 := by simpa using hl
      show _ :: _ :: t = _ :: _ :: (List.take 32 t ++ List.take 1 (List.drop 32 t))
      rw [List.take_of_length_le (l := List.drop 32 t) (by rw [List.length_drop]; omega), List.take_append_drop]
end Go.Proofs.YtidklgicmhdapaaGreatDoor
