/-
  THE CARD OF VoteAsks: votes' texts and bytes are what the document says, of any digests, any place, any two votes, any bytes, in every world in which the tables of packages sha and ots hold what their texts say; the law answers true, and its arguments read as they did. (Condition: the tables 'chirograph/sha.rounds' and 'chirograph/ots.kinds' are laid as the program's text lays them; the card ties that to the text.)
-/
import Derived.Test.YtidklgicmhdapaaGreatDoorAv45
import Derived.Test.YtidklgicmhdapaaGreatDoorAv15
import Derived.LaidSub
import Derived.Test.YtidklgicmhdapaaGreatDoorAv46
namespace Go.Proofs.YtidklgicmhdapaaGreatDoor
open Go.ChangeShapes Go.WideShapes Go.ChangeAt Go.RowKit Sh

noncomputable def laidWorld (os : Os) : World :=
  { World.holding Tryz.prog os ⟨#[], #[], []⟩ with heap := (World.holding Tryz.prog os ⟨#[], #[], []⟩).heap.modify 1 fun
      | .cells _ t frozen => .cells (u32s ks).toArray t frozen
      | o => o }
end Go.Proofs.YtidklgicmhdapaaGreatDoor
namespace Go.Proofs.YtidklgicmhdapaaGreatDoor
open Go.ChangeShapes Go.WideShapes Go.ChangeAt Go.RowKit Sh

theorem gKin : Tryz.prog.globalNamed "chirograph/ots.kinds" = some 0 := by kernel_rfl
theorem gKinType : (Tryz.prog.globals[0]?).map (·.type) = some 150 := by kernel_rfl
theorem cellsKin : Tryz.prog.cellsOf 121 = 4 := by kernel_rfl
theorem cellsKins : Tryz.prog.cellsOf 150 = 16 := by kernel_rfl
theorem cellsU64 : Tryz.prog.cellsOf 46 = 1 := by kernel_rfl
theorem cellsInt : Tryz.prog.cellsOf 3 = 1 := by kernel_rfl
set_option maxRecDepth 100000 in
theorem kind_cells {H : Type} {enc : TypeId × Value → H} {W : World} {base : Nat} {sp : Nat → Bool} {held : Bool} {fuel : Nat} {l : List Value} {a b c d : Int} {p : List MemPlace}
    (h : DataW.trod enc Tryz.prog W base sp held fuel 121 l = some (.agg [.lit (.int .u64 a), .lit (.int .i64 b), .lit (.int .i64 c), .lit (.int .i64 d)], p)) : l = [.int .u64 a, .int .i64 b, .int .i64 c, .int .i64 d] := by
  obtain ⟨xs, n, _, hx, hl, hlen, hf⟩ := DataW.trod_struct Tryz.underlying121 h
  rw [cellsKin] at hl
  have h0 := hf 0 _ rfl
  have h1 := hf 1 _ rfl
  have h2 := hf 2 _ rfl
  have h3 := hf 3 _ rfl
  match xs, hlen with
  | [x0, x1, x2, x3], _ =>
    injection hx with hx1 _
    injection hx1 with hx1
    simp only [List.map_cons, List.map_nil, List.cons.injEq, and_true] at hx1
    obtain ⟨e0, e1, e2, e3⟩ := hx1
    obtain ⟨n0, c0, y0, _⟩ := DataW.trod_int Tryz.underlying46 h0
    obtain ⟨n1, c1, y1, _⟩ := DataW.trod_int Tryz.underlying3 h1
    obtain ⟨n2, c2, y2, _⟩ := DataW.trod_int Tryz.underlying3 h2
    obtain ⟨n3, c3, y3, _⟩ := DataW.trod_int Tryz.underlying3 h3
    rw [y0] at e0; rw [y1] at e1; rw [y2] at e2; rw [y3] at e3
    injection e0 with e0; injection e0 with _ e0
    injection e1 with e1; injection e1 with _ e1
    injection e2 with e2; injection e2 with _ e2
    injection e3 with e3; injection e3 with _ e3
    subst e0; subst e1; subst e2; subst e3
    change List.take (Tryz.prog.cellsOf 46) (List.drop 0 l) = _ at c0
    change List.take (Tryz.prog.cellsOf 3) (List.drop 1 l) = _ at c1
    change List.take (Tryz.prog.cellsOf 3) (List.drop 2 l) = _ at c2
    change List.take (Tryz.prog.cellsOf 3) (List.drop 3 l) = _ at c3
    rw [cellsU64] at c0
    rw [cellsInt] at c1 c2 c3
    match l, hl with
    | [l0, l1, l2, l3], _ =>
      simp at c0 c1 c2 c3
      rw [c0, c1, c2, c3]
set_option maxRecDepth 100000 in
theorem ki_of {W : World} (h : laidMetH Tryz.prog [("chirograph/sha.rounds", Rows.laid_chirograph_sha_rounds), ("chirograph/ots.kinds", Rows.laid_chirograph_ots_kinds)] W) : KI W := by
  have h1 := h.filter (fun x => x.1 == "chirograph/ots.kinds")
  have h2 : laidMet Tryz.prog [("chirograph/ots.kinds", Rows.laid_chirograph_ots_kinds)] W := h1
  obtain ⟨ps, ⟨g', t', cs, fuel, p, q, hg', ht', hvar, hd, _, _⟩, _⟩ := h2
  obtain rfl := Option.some.inj (gKin.symm.trans hg')
  obtain rfl := Option.some.inj (gKinType.symm.trans ht')
  obtain ⟨xs, m, _, hx, hl, hxl, hel⟩ := DataW.trod_array Tryz.underlying150 hd
  rw [cellsKins] at hl
  have e0 := hel 0 (by decide); have e1 := hel 1 (by decide); have e2 := hel 2 (by decide); have e3 := hel 3 (by decide)
  rw [cellsKin] at e0 e1 e2 e3
  match xs, hxl with
  | [x0, x1, x2, x3], _ =>
    injection hx with hx1 _
    unfold Rows.laid_chirograph_ots_kinds at hx1
    injection hx1 with hx1
    simp only [List.map_cons, List.map_nil, List.cons.injEq, and_true] at hx1
    obtain ⟨y0, y1, y2, y3⟩ := hx1
    have k0 := kind_cells (p := x0.2) (e0.trans (by rw [y0]; rfl))
    have k1 := kind_cells (p := x1.2) (e1.trans (by rw [y1]; rfl))
    have k2 := kind_cells (p := x2.2) (e2.trans (by rw [y2]; rfl))
    have k3 := kind_cells (p := x3.2) (e3.trans (by rw [y3]; rfl))
    have hcs : cs.toList = kds := by
      generalize cs.toList = l at *
      have : l = (l.drop 0).take 4 ++ ((l.drop 4).take 4 ++ ((l.drop 8).take 4 ++ (l.drop 12).take 4)) := by
        match l, hl with
        | [a0, a1, a2, a3, a4, a5, a6, a7, a8, a9, a10, a11, a12, a13, a14, a15], _ => rfl
      rw [this, show (l.drop 0).take 4 = _ from k0, show (l.drop 4).take 4 = _ from k1, show (l.drop 8).take 4 = _ from k2, show (l.drop 12).take 4 = _ from k3]
      rfl
    have hc : ∀ j v, kds[j]? = some v → W.cell? ⟨0, 0 + j, none⟩ = some v := fun j v hv => by
      rw [Nat.zero_add]
      have := World.var?_cell gKin hvar j
      rw [this, ← hv, ← hcs]
      simp
    exact ⟨World.block_lt_of_cell? W _ (hc 0 _ rfl), hc⟩
theorem kat_of2 {W : World} (h : laidMetH Tryz.prog [("chirograph/sha.rounds", Rows.laid_chirograph_sha_rounds), ("chirograph/ots.kinds", Rows.laid_chirograph_ots_kinds)] W) : KAt W :=
  kat_of (h.filter (fun x => x.1 == "chirograph/sha.rounds"))
noncomputable def laidWorld2 (os : Os) : World :=
  { laidWorld os with heap := (laidWorld os).heap.modify 0 fun
      | .cells _ t frozen => .cells kds.toArray t frozen
      | o => o }
end Go.Proofs.YtidklgicmhdapaaGreatDoor
namespace Go.Proofs.YtidklgicmhdapaaGreatDoor.voteAsks
open Go.ChangeShapes Go.WideShapes Go.ChangeAt Go.RowKit Go.Deep Sh

set_option maxRecDepth 100000 in
theorem contract (H : Type) (enc : TypeId × Value → H) (W : World) (base : Nat) (args : Array Value) (ds gs : List (DataW H)) (before : List MemPlace)
    (hval : ∀ (j : Nat) t v, Tryz.f3.params[j]? = some t → args[j]? = some v → Value.okWide Tryz.prog W .any base t v)
    (hW : DataW.Whole enc Tryz.prog Tryz.f3.params.toList Rows.voteAsksSpec.vars false W args.toList ds gs before) (hL : laidMetH Tryz.prog Rows.voteAsksRow.laid W) :
    Calls Tryz.prog 3 args W fun e W' => ∃ v, e = .returned v ∧ Rows.voteAsksSpec.post enc Tryz.prog Tryz.f3 false true false false W args v W' := by
  have hW' := hW
  obtain ⟨p, q, hA0, hV, rfl, hfz, hnd⟩ := hW
  have hA : DataW.TrodAll enc Tryz.prog W 0 (fun _ => true) true Tryz.f3.params.toList args.toList ds p := hA0
  rw [Tryz.params3] at hA hval
  obtain ⟨v0, vs0, d0, ds0, p0, q0, ea0, rfl, rfl, h0, hA0⟩ := trodAll_cons hA
  obtain ⟨v1, vs1, d1, ds1, p1, q1, ea1, rfl, rfl, h1, hA1⟩ := trodAll_cons hA0
  obtain ⟨v2, vs2, d2, ds2, p2, q2, ea2, rfl, rfl, h2, hA2⟩ := trodAll_cons hA1
  obtain ⟨v3, vs3, d3, ds3, p3, q3, ea3, rfl, rfl, h3, hA3⟩ := trodAll_cons hA2
  obtain ⟨v4, vs4, d4, ds4, p4, q4, ea4, rfl, rfl, h4, hA4⟩ := trodAll_cons hA3
  obtain ⟨hn, rfl, rfl⟩ := trodAll_nil hA4
  obtain rfl : args = #[v0, v1, v2, v3, v4] := by
    rw [← Array.toList_inj, ea0, ea1, ea2, ea3, ea4, hn]
  obtain ⟨rfl, rfl⟩ := trodVars_none hV
  obtain ⟨l0, hl0, hb0, rfl⟩ := open_hash (hval 0 23 v0 rfl rfl) h0
  obtain ⟨n1, rfl, rfl, rfl, wn1⟩ := open_int Tryz.underlying3 (hval 1 3 v1 rfl rfl) h1
  obtain ⟨x2, rfl, hx2⟩ := open_vote (hval 2 26 v2 rfl rfl) h2
  obtain ⟨x3, rfl, hx3⟩ := open_vote (hval 3 26 v3 rfl rfl) h3
  obtain ⟨A4, n4, c4, xs4, rfl, hn4, hs4, hbx4, hnc4, hc4⟩ := open_u8s (hval 4 24 v4 rfl rfl) h4
  refine (vasks_t l0 n1 x2 x3 xs4 A4 n4 c4 W hl0 hb0 hx2 hx3 hn4 hnc4 hs4 hbx4 hc4 (ki_of hL) (kat_of2 hL)).mono fun e W' ⟨he, hbl⟩ => ?_
  subst he
  exact ⟨_, rfl, law_postG hW' (by kernel_rfl) rfl rfl (fun t ht => by
    rw [Tryz.params3] at ht
    have hall : ([23, 3, 26, 26, 24] : List Nat).all (fun u => Tryz.prog.readableRec u && decide (u < Tryz.prog.types.size)) = true := by kernel_rfl
    have h := List.all_eq_true.1 hall t (by simpa using ht)
    simpa using h) hbl⟩

theorem laid_met (os : Os) : laidMet Tryz.prog Rows.voteAsksRow.laid ((laidWorld2 os).forCall (fun _ _ => 0) ⟨#[], #[.agg (u8s (List.replicate 32 0)).toArray, .int .i64 0, .agg (vv zVv).toArray, .agg (vv zVv).toArray, .slice none 0 0], []⟩).memory :=
  laidMet_of_run' 8 (by kernel_rfl) (by kernel_rfl)
theorem reads (os : Os) {H : Type} (enc : TypeId × Value → H) : ∃ places, DataW.whole enc Tryz.prog ((laidWorld2 os).forCall (fun _ _ => 0) ⟨#[], #[.agg (u8s (List.replicate 32 0)).toArray, .int .i64 0, .agg (vv zVv).toArray, .agg (vv zVv).toArray, .slice none 0 0], []⟩).memory Tryz.f3.params.toList Rows.voteAsksSpec.vars false (#[.agg (u8s (List.replicate 32 0)).toArray, .int .i64 0, .agg (vv zVv).toArray, .agg (vv zVv).toArray, .slice none 0 0] : Array Value).toList 8 = some ([.agg (List.replicate 32 (.lit (.int .u8 0))), .lit (.int .i64 0), .agg [.lit (.int .i64 0), .lit (.int .i64 0), .agg (List.replicate 32 (.lit (.int .u8 0))), .nil], .agg [.lit (.int .i64 0), .lit (.int .i64 0), .agg (List.replicate 32 (.lit (.int .u8 0))), .nil], .nil], [], places) :=
  ⟨[], by kernel_rfl⟩
set_option maxRecDepth 100000 in
theorem lifted (os : Os) (started : os.Started) (H : Type) (enc : TypeId × Value → H) (F : Stop.Interp) :
    ReturnsInHanded {} Tryz.checked os 3 .any ((OpenSpec.ofChange Rows.voteAsksSpec).preRow enc Tryz.prog Tryz.f3 Rows.voteAsksRow.domain false Rows.voteAsksRow.laid) (((OpenSpec.ofChange Rows.voteAsksSpec).at F).post enc Tryz.prog Tryz.f3 false true false false) := by
  obtain ⟨places, hx⟩ := reads os enc
  refine returnsInHanded_of_row (C := Tryz.checked) (s := OpenSpec.ofChange Rows.voteAsksSpec) ownG started (by kernel_rfl) Tryz.func3
    (witness_row_at (enc := enc) (C := Tryz.checked) false (laidWorld2 os) #[.agg (u8s (List.replicate 32 0)).toArray, .int .i64 0, .agg (vv zVv).toArray, .agg (vv zVv).toArray, .slice none 0 0] rfl (by kernel_rfl) (by kernel_rfl) (by kernel_rfl)
      (OpenSpec.preRow_of_cond 8 hx (by kernel_rfl) (fun k hk => by cases hk) (by kernel_rfl) (laid_met os))) ?_
  intro W base args ds gs before hval hW _ _ _ hL _ _
  exact contract H enc W base args ds gs before hval hW hL
theorem said : Rows.VoteAsksSaid :=
  OpenClaim.holds_of_cond 3 Tryz.f3 rfl rfl rfl rfl rfl rfl rfl ⟨rfl, rfl, rfl, rfl, rfl⟩ rfl rfl rfl rfl rfl (by kernel_rfl) Tryz.func3 (by kernel_rfl)
    (of_decide_eq_true (by kernel_rfl)) (by unfold Func.isWrapper; first | (rw [if_pos (by decide +kernel)]; kernel_rfl) | (rw [if_neg (by decide +kernel)]; exact ⟨rfl, rfl⟩))
    (fun os started H enc _ F => by rw [OpenClaim.pre_eq_preRow]; exact lifted os started H enc F)
theorem plain (f : FuncId) (fn : Func) (hf : Tryz.pinned.checked.prog.funcNamed "chirograph/chirographlaw13.VoteAsks" = some f) (hfn : Tryz.pinned.checked.prog.funcs[f]? = some fn) :
    false = Tryz.pinned.checked.prog.looks [] ∧ ∀ (j : Nat) t, fn.params[j]? = some t → Tryz.pinned.checked.prog.wantsStandIn t = false := by
  obtain rfl : f = 3 := Option.some.inj ((show Tryz.prog.funcNamed "chirograph/chirographlaw13.VoteAsks" = some 3 by kernel_rfl).symm.trans hf) |>.symm
  obtain rfl : fn = Tryz.f3 := (Option.some.inj (Tryz.func3.symm.trans hfn)).symm
  refine ⟨by kernel_rfl, fun j t ht => ?_⟩
  rw [Tryz.params3] at ht
  have hm : t ∈ [23, 3, 26, 26, 24] := by simpa using Array.mem_of_getElem? ht
  have hall : (([23, 3, 26, 26, 24] : List Nat).all fun u => !Tryz.prog.wantsStandIn u) = true := by kernel_rfl
  exact (show Tryz.prog.wantsStandIn t = false by simpa using List.all_eq_true.1 hall t hm)
theorem card : Rows.VoteAsksCardSaid :=
  Claim7.holds_tied_plain_at .later [] _ _ _ _ said (fun _ h => by cases h) (by kernel_rfl) (fun _ h => by cases h) voteAsks_row_tie rfl ⟨rfl, rfl⟩ (by kernel_rfl) rfl plain (by kernel_rfl)
end Go.Proofs.YtidklgicmhdapaaGreatDoor.voteAsks
