/-
  LAYER 3's ROWS: what the two laid tables give, a secret that came in by value, the world of the witness.
-/
import Derived.Test.YtkcjiidimmefdaaGreatDoorRowW
import Derived.Test.YtkcjiidimmefdaaGreatDoorRowG
import Derived.Test.YtkcjiidimmefdaaGreatDoorOtE
import Derived.LaidSub
namespace Go.Proofs.YtkcjiidimmefdaaGreatDoor
open Go.ChangeShapes Go.WideShapes Go.ChangeAt Go.RowKit Sh

theorem gKin : Tryz.prog.globalNamed "chirograph/ots.kinds" = some 0 := by kernel_rfl
theorem gKinType : (Tryz.prog.globals[0]?).map (·.type) = some 148 := by kernel_rfl
theorem cellsKin : Tryz.prog.cellsOf 125 = 4 := by kernel_rfl
theorem cellsKins : Tryz.prog.cellsOf 148 = 16 := by kernel_rfl
theorem cellsU64 : Tryz.prog.cellsOf 38 = 1 := by kernel_rfl
theorem cellsInt : Tryz.prog.cellsOf 3 = 1 := by kernel_rfl
theorem one_of {l : List Value} {i : Nat} {v : Value} (h : (l.drop i).take 1 = v.cells.toList) (hv : v.cells = #[v]) : l[i]? = some v := by
  rw [hv] at h
  have := congrArg (fun l => l[0]?) h
  simpa [List.getElem?_drop] using this
set_option maxRecDepth 100000 in
theorem kind_cells {H : Type} {enc : TypeId × Value → H} {W : World} {base : Nat} {sp : Nat → Bool} {held : Bool} {fuel : Nat} {l : List Value} {a b c d : Int} {p : List MemPlace}
    (h : DataW.trod enc Tryz.prog W base sp held fuel 125 l = some (.agg [.lit (.int .u64 a), .lit (.int .i64 b), .lit (.int .i64 c), .lit (.int .i64 d)], p)) : l = [.int .u64 a, .int .i64 b, .int .i64 c, .int .i64 d] := by
  obtain ⟨xs, n, _, hx, hl, hlen, hf⟩ := DataW.trod_struct Tryz.underlying125 h
  rw [cellsKin] at hl
  have h0 := hf 0 _ rfl
  have h1 := hf 1 _ rfl
  have h2 := hf 2 _ rfl
  have h3 := hf 3 _ rfl
  match xs, hlen with
  | [x0, x1, x2, x3], _ =>
    injection hx with hx1 _
    injection hx1 with hx1
    simp only [List.map_cons, List.map_nil, List.cons.injEq, and_true] at hx1
    obtain ⟨e0, e1, e2, e3⟩ := hx1
    obtain ⟨n0, c0, y0, _⟩ := DataW.trod_int Tryz.underlying38 h0
    obtain ⟨n1, c1, y1, _⟩ := DataW.trod_int Tryz.underlying3 h1
    obtain ⟨n2, c2, y2, _⟩ := DataW.trod_int Tryz.underlying3 h2
    obtain ⟨n3, c3, y3, _⟩ := DataW.trod_int Tryz.underlying3 h3
    rw [y0] at e0; rw [y1] at e1; rw [y2] at e2; rw [y3] at e3
    injection e0 with e0; injection e0 with _ e0
    injection e1 with e1; injection e1 with _ e1
    injection e2 with e2; injection e2 with _ e2
    injection e3 with e3; injection e3 with _ e3
    subst e0; subst e1; subst e2; subst e3
    change List.take (Tryz.prog.cellsOf 38) (List.drop 0 l) = _ at c0
    change List.take (Tryz.prog.cellsOf 3) (List.drop 1 l) = _ at c1
    change List.take (Tryz.prog.cellsOf 3) (List.drop 2 l) = _ at c2
    change List.take (Tryz.prog.cellsOf 3) (List.drop 3 l) = _ at c3
    rw [cellsU64] at c0
    rw [cellsInt] at c1 c2 c3
    match l, hl with
    | [l0, l1, l2, l3], _ =>
      simp at c0 c1 c2 c3
      rw [c0, c1, c2, c3]
set_option maxRecDepth 100000 in
theorem ki_of {W : World} (h : laidMetH Tryz.prog [("chirograph/sha.rounds", Rows.laid_chirograph_sha_rounds), ("chirograph/ots.kinds", Rows.laid_chirograph_ots_kinds)] W) : KI W := by
  have h1 := h.filter (fun x => x.1 == "chirograph/ots.kinds")
  have h2 : laidMet Tryz.prog [("chirograph/ots.kinds", Rows.laid_chirograph_ots_kinds)] W := h1
  obtain ⟨ps, ⟨g', t', cs, fuel, p, q, hg', ht', hvar, hd, _, _⟩, _⟩ := h2
  obtain rfl := Option.some.inj (gKin.symm.trans hg')
  obtain rfl := Option.some.inj (gKinType.symm.trans ht')
  obtain ⟨xs, m, _, hx, hl, hxl, hel⟩ := DataW.trod_array Tryz.underlying148 hd
  rw [cellsKins] at hl
  have e0 := hel 0 (by decide); have e1 := hel 1 (by decide); have e2 := hel 2 (by decide); have e3 := hel 3 (by decide)
  rw [cellsKin] at e0 e1 e2 e3
  match xs, hxl with
  | [x0, x1, x2, x3], _ =>
    injection hx with hx1 _
    unfold Rows.laid_chirograph_ots_kinds at hx1
    injection hx1 with hx1
    simp only [List.map_cons, List.map_nil, List.cons.injEq, and_true] at hx1
    obtain ⟨y0, y1, y2, y3⟩ := hx1
    have k0 := kind_cells (p := x0.2) (e0.trans (by rw [y0]; rfl))
    have k1 := kind_cells (p := x1.2) (e1.trans (by rw [y1]; rfl))
    have k2 := kind_cells (p := x2.2) (e2.trans (by rw [y2]; rfl))
    have k3 := kind_cells (p := x3.2) (e3.trans (by rw [y3]; rfl))
    have hcs : cs.toList = kds := by
      generalize cs.toList = l at *
      have : l = (l.drop 0).take 4 ++ ((l.drop 4).take 4 ++ ((l.drop 8).take 4 ++ (l.drop 12).take 4)) := by
        match l, hl with
        | [a0, a1, a2, a3, a4, a5, a6, a7, a8, a9, a10, a11, a12, a13, a14, a15], _ => rfl
      rw [this, show (l.drop 0).take 4 = _ from k0, show (l.drop 4).take 4 = _ from k1, show (l.drop 8).take 4 = _ from k2, show (l.drop 12).take 4 = _ from k3]
      rfl
    have hc : ∀ j v, kds[j]? = some v → W.cell? ⟨0, 0 + j, none⟩ = some v := fun j v hv => by
      rw [Nat.zero_add]
      have := World.var?_cell gKin hvar j
      rw [this, ← hv, ← hcs]
      simp
    exact ⟨World.block_lt_of_cell? W _ (hc 0 _ rfl), hc⟩
theorem kat_of2 {W : World} (h : laidMetH Tryz.prog [("chirograph/sha.rounds", Rows.laid_chirograph_sha_rounds), ("chirograph/ots.kinds", Rows.laid_chirograph_ots_kinds)] W) : KAt W :=
  kat_of (h.filter (fun x => x.1 == "chirograph/sha.rounds"))
/-- A world for the witness: the settled one, both tables laid. -/
noncomputable def laidWorld2 (os : Os) : World :=
  { laidWorld os with heap := (laidWorld os).heap.modify 0 fun
      | .cells _ t frozen => .cells kds.toArray t frozen
      | o => o }
theorem cellsSec : Tryz.prog.cellsOf 27 = 48 := by kernel_rfl
theorem cells16 : Tryz.prog.cellsOf 23 = 16 := by kernel_rfl
theorem u8_array {H : Type} {enc : TypeId × Value → H} {W : World} {base : Nat} {sp : Nat → Bool} {held : Bool} {fuel : Nat} {t n : Nat} {l : List Value} {x : DataW H × List MemPlace}
    (ht : Tryz.prog.underlying t = some (.array n 5)) (hc : Tryz.prog.cellsOf t = n) (h : DataW.trod enc Tryz.prog W base sp held fuel t l = some x) : ∃ xs : List Nat, xs.length = n ∧ Bytes xs ∧ l = u8s xs := by
  obtain ⟨xs, m, _, _, hl, hxl, hel⟩ := DataW.trod_array ht h
  rw [hc] at hl
  have each : ∀ i, i < n → ∃ k : Nat, k < 256 ∧ l[i]? = some (.int .u8 (k : Int)) := fun i hi => by
    have h1 := hel i hi
    rw [cells5, Nat.mul_one, List.getElem?_eq_getElem (by omega)] at h1
    obtain ⟨z, e1, _, wf⟩ := DataW.trod_int Tryz.underlying5 h1
    have hb := bounds_u8 wf
    refine ⟨z.toNat, by omega, ?_⟩
    have h2 : (l.drop i)[0]? = some (.int .u8 z) := by
      have := congrArg (fun l => l[0]?) e1
      simpa using this
    rw [List.getElem?_drop, Nat.add_zero] at h2
    rw [h2, Int.toNat_of_nonneg hb.1]
  refine ⟨l.map fun v => match v with | .int _ n => n.toNat | _ => 0, by simpa using hl, ?_, ?_⟩
  · intro i
    rcases Nat.lt_or_ge i n with hi | hi
    · obtain ⟨k, hk, e⟩ := each i hi
      simp [gt, List.getD_eq_getElem?_getD, e]
      omega
    · rw [gt_out (by simpa using by omega)]; decide
  · apply List.ext_getElem?
    intro i
    rcases Nat.lt_or_ge i n with hi | hi
    · obtain ⟨k, hk, e⟩ := each i hi
      simp [u8s, e]
    · rw [List.getElem?_eq_none (by omega), List.getElem?_eq_none (by simp [u8s]; omega)]
set_option maxRecDepth 100000 in
/-- A secret that came in by value. -/
theorem open_secret {H : Type} {enc : TypeId × Value → H} {W : World} {base : Nat} {v : Value} {d : DataW H} {p : List MemPlace} (hval : Value.okWide Tryz.prog W .any base 27 v) (h : DataW.Trod enc Tryz.prog W 0 (fun _ => true) true 27 v d p) :
    ∃ a b : List Nat, a.length = 16 ∧ Bytes a ∧ b.length = 32 ∧ Bytes b ∧ v = .agg (u8s (a ++ b)).toArray := by
  obtain ⟨cs, rfl, hsz, _⟩ : ∃ cs, v = .agg cs ∧ cs.size = Tryz.prog.cellsOf 27 ∧ Row.okWide Tryz.prog W .any base 27 cs := by
    simpa [Value.okWide, Tryz.underlying27] using hval
  rw [cellsSec] at hsz
  obtain ⟨fuel, hf⟩ := h
  obtain ⟨y0, y1, n, _, _, h0, h1⟩ := trod_struct2 Tryz.underlying27 hf
  obtain ⟨a, ha, hab, e0⟩ := u8_array Tryz.underlying23 cells16 h0
  obtain ⟨b, hb, hbb, e1⟩ := u8_array Tryz.underlying25 cells25 h1
  change List.take (Tryz.prog.cellsOf 23) (List.drop 0 cs.toList) = _ at e0
  change List.take (Tryz.prog.cellsOf 25) (List.drop 16 cs.toList) = _ at e1
  rw [cells16, List.drop_zero] at e0
  rw [cells25, List.take_of_length_le (by simp [hsz])] at e1
  refine ⟨a, b, ha, hab, hb, hbb, ?_⟩
  rw [u8s_app, ← e0, ← e1, List.take_append_drop]
end Go.Proofs.YtkcjiidimmefdaaGreatDoor
