/-
  LAYER 13's ROWS
-/
import Derived.Test.YtlipjglehongeabGreatDoorVb43
import Derived.Test.YtlipjglehongeabGreatDoorVb11
namespace Go.Proofs.YtlipjglehongeabGreatDoor
open Go.ChangeShapes Go.WideShapes Go.ChangeAt Go.RowKit Go.Deep Sh

theorem cellsVote : Tryz.prog.cellsOf 26 = 35 := by kernel_rfl
theorem cellsKbV : Tryz.prog.cellsOf 24 = 1 := by kernel_rfl
theorem cellsIntV : Tryz.prog.cellsOf 3 = 1 := by kernel_rfl
theorem u8_array {H : Type} {enc : TypeId × Value → H} {W : World} {base : Nat} {sp : Nat → Bool} {held : Bool} {fuel : Nat} {t n : Nat} {l : List Value} {x : DataW H × List MemPlace}
    (ht : Tryz.prog.underlying t = some (.array n 5)) (hc : Tryz.prog.cellsOf t = n) (h : DataW.trod enc Tryz.prog W base sp held fuel t l = some x) : ∃ xs : List Nat, xs.length = n ∧ Bytes xs ∧ l = u8s xs := by
  obtain ⟨xs, m, _, _, hl, hxl, hel⟩ := DataW.trod_array ht h
  rw [hc] at hl
  have each : ∀ i, i < n → ∃ k : Nat, k < 256 ∧ l[i]? = some (.int .u8 (k : Int)) := fun i hi => by
    have h1 := hel i hi
    rw [cells5, Nat.mul_one, List.getElem?_eq_getElem (by omega)] at h1
    obtain ⟨z, e1, _, wf⟩ := DataW.trod_int Tryz.underlying5 h1
    have hb := bounds_u8 wf
    refine ⟨z.toNat, by omega, ?_⟩
    have h2 : (l.drop i)[0]? = some (.int .u8 z) := by
      have := congrArg (fun l => l[0]?) e1
      simpa using this
    rw [List.getElem?_drop, Nat.add_zero] at h2
    rw [h2, Int.toNat_of_nonneg hb.1]
  refine ⟨l.map fun v => match v with | .int _ n => n.toNat | _ => 0, by simpa using hl, ?_, ?_⟩
  · intro i
    rcases Nat.lt_or_ge i n with hi | hi
    · obtain ⟨k, hk, e⟩ := each i hi
      simp [gt, List.getD_eq_getElem?_getD, e]
      omega
    · rw [gt_out (by simpa using by omega)]; decide
  · apply List.ext_getElem?
    intro i
    rcases Nat.lt_or_ge i n with hi | hi
    · obtain ⟨k, hk, e⟩ := each i hi
      simp [u8s, e]
    · rw [List.getElem?_eq_none (by omega), List.getElem?_eq_none (by simp [u8s]; omega)]
set_option maxRecDepth 100000 in
theorem open_u8cV {H : Type} {enc : TypeId × Value → H} {W : World} {l : List Value} {fuel : Nat} {x : DataW H × List MemPlace} (hf : DataW.trod enc Tryz.prog W 0 (fun _ => true) true fuel 24 l = some x) :
    ∃ (A : Option Addr) (c : Nat) (X : List Nat), l = [.slice A X.length c] ∧ Sr W A X ∧ Bytes X ∧ X.length ≤ c ∧ c ≤ maxLen := by
  rcases open_ints Tryz.underlying24 Tryz.underlying5 cellsU8 hf with ⟨hcs, _⟩ | ⟨a, len, cap, zs, hcs, _, hl, hm, hz, _, hcell, hwz⟩
  · exact ⟨none, 0, [], hcs, Sr.nil, fun i => by simp [gt], Nat.le_refl _, Nat.zero_le _⟩
  · simp only [if_true] at hz
    obtain ⟨h1, h2, h3⟩ := nats_of zs hwz len (by omega)
    refine ⟨some a, cap, (zs.take len).map Int.toNat, by rw [h1]; exact hcs, fun hx => ?_, h2, by rw [h1]; exact hl, hm⟩
    rw [h1] at hx
    have hs := World.cell?_spot (hcell 0 (by omega))
    obtain ⟨b, o, sp⟩ := a
    have hsp : sp = none := by simpa [Addr.add] using hs
    subst hsp
    refine ⟨b, o, rfl, World.block_lt_of_cell? W _ (hcell 0 (by omega)), fun j hj => ?_⟩
    rw [h1] at hj
    have := hcell j (by omega)
    rw [Addr.add_mid] at this
    rw [this, h3 j hj]
structure VvI (W : World) (x : Vv) : Prop where
  ll : x.l.length = 32
  lb : Bytes x.l
  s : Sr W x.A x.s
  sb : Bytes x.s
theorem VvI.w {W : World} {x : Vv} (h : VvI W x) (hs : x.s.length ≤ 1000000) : VvW W x := ⟨h.ll, h.lb, h.s, h.sb, hs⟩
theorem VvI.below {W W' : World} {x : Vv} (h : VvI W x) (hb : Below W.heap.size W W') : VvI W' x := ⟨h.ll, h.lb, h.s.below hb, h.sb⟩
set_option maxRecDepth 100000 in
theorem open_vote {H : Type} {enc : TypeId × Value → H} {W : World} {base : Nat} {v : Value} {d : DataW H} {p : List MemPlace} (hval : Value.okWide Tryz.prog W .any base 26 v) (h : DataW.Trod enc Tryz.prog W 0 (fun _ => true) true 26 v d p) :
    ∃ x : Vv, v = .agg (vv x).toArray ∧ VvI W x := by
  obtain ⟨cs, rfl, hsz, _⟩ : ∃ cs, v = .agg cs ∧ cs.size = Tryz.prog.cellsOf 26 ∧ Row.okWide Tryz.prog W .any base 26 cs := by
    simpa [Value.okWide, Tryz.underlying26] using hval
  obtain ⟨fuel, hf⟩ := h
  obtain ⟨xs, n, _, _, hl, hlen, hff⟩ := DataW.trod_struct Tryz.underlying26 hf
  have h0 := hff 0 _ rfl
  have h1 := hff 1 _ rfl
  have h2 := hff 2 _ rfl
  have h3 := hff 3 _ rfl
  rw [cellsVote] at hl
  match xs, hlen with
  | [x0, x1, x2, x3], _ =>
    obtain ⟨n0, c0, _, _⟩ := DataW.trod_int Tryz.underlying3 h0
    obtain ⟨n1, c1, _, _⟩ := DataW.trod_int Tryz.underlying3 h1
    obtain ⟨l⟩ := cs
    change List.take (Tryz.prog.cellsOf 3) (List.drop 0 l) = _ at c0
    change List.take (Tryz.prog.cellsOf 3) (List.drop 1 l) = _ at c1
    change DataW.trod enc Tryz.prog W 0 (fun _ => true) true n 23 (List.take (Tryz.prog.cellsOf 23) (List.drop 2 l)) = some x2 at h2
    change DataW.trod enc Tryz.prog W 0 (fun _ => true) true n 24 (List.take (Tryz.prog.cellsOf 24) (List.drop 34 l)) = some x3 at h3
    rw [cellsIntV] at c0 c1
    rw [cells25] at h2
    rw [cellsKbV] at h3
    change l.length = 35 at hl
    obtain ⟨ls, hls, hlb, e2⟩ := u8_array Tryz.underlying23 cells25 h2
    obtain ⟨A, c, X, e3, s1, s2, _, _⟩ := open_u8cV h3
    refine ⟨⟨n0, n1, ls, A, c, X⟩, ?_, ⟨hls, hlb, s1, s2⟩⟩
    refine congrArg (fun l : List Value => Value.agg l.toArray) ?_
    show l = Value.int .i64 n0 :: Value.int .i64 n1 :: (u8s ls ++ [Value.slice A X.length c])
    rw [← e2, ← e3]
    match l, hl with
    | l0 :: l1 :: t, hl =>
      simp at c0 c1
      subst c0; subst c1
      have ht : t.length = 33 := by simpa using hl
      show _ :: _ :: t = _ :: _ :: (List.take 32 t ++ List.take 1 (List.drop 32 t))
      rw [List.take_of_length_le (l := List.drop 32 t) (by rw [List.length_drop]; omega), List.take_append_drop]
end Go.Proofs.YtlipjglehongeabGreatDoor
