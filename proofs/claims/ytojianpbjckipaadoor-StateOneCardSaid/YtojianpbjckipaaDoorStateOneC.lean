/-
  THE CARD OF StateOne: a state has one row of bytes and one digest, in every world in which the table of package sha holds what its text says, the law answers true, and its arguments read as they did. (Condition: the table 'chirograph/sha.rounds' is laid as the program's text lays it; the card ties that to the text.)
-/
import Derived.Test.YtojianpbjckipaaDoorStO
import Derived.Test.YtojianpbjckipaaDoorRowP
namespace Go.Proofs.YtojianpbjckipaaDoor.stateOne
open Go.ChangeShapes Go.WideShapes Go.ChangeAt Go.RowKit Go.Deep Sh

theorem ins_of {x : Spv} (ha : ∀ y ∈ x.its, ∀ f ∈ y.i.t, InR f) (hb : ∀ y ∈ x.wts, ∀ f ∈ y.x.p, InR f) (hc : ∀ y ∈ x.last, ∀ f ∈ y.r.t, InR f) : InS x.sp :=
  ⟨fun i hi => by obtain ⟨y, hy, rfl⟩ := List.mem_map.1 hi; exact ha y hy, fun i hi => by obtain ⟨y, hy, rfl⟩ := List.mem_map.1 hi; exact hb y hy, fun i hi => by obtain ⟨y, hy, rfl⟩ := List.mem_map.1 hi; exact hc y hy⟩
set_option maxRecDepth 100000 in
theorem contract (H : Type) (enc : TypeId × Value → H) (W : World) (base : Nat) (args : Array Value) (ds gs : List (DataW H)) (before : List MemPlace)
    (hval : ∀ (j : Nat) t v, Tryd.f4.params[j]? = some t → args[j]? = some v → Value.okWide Tryd.prog W .any base t v)
    (hW : DataW.Whole enc Tryd.prog Tryd.f4.params.toList Rows.stateOneSpec.vars false W args.toList ds gs before) (hL : laidMetH Tryd.prog Rows.stateOneRow.laid W) :
    Calls Tryd.prog 4 args W fun e W' => ∃ v, e = .returned v ∧ Rows.stateOneSpec.post enc Tryd.prog Tryd.f4 false true false false W args v W' := by
  have hW' := hW
  obtain ⟨p, q, hA0, hV, rfl, hfz, hnd⟩ := hW
  have hA : DataW.TrodAll enc Tryd.prog W 0 (fun _ => true) true Tryd.f4.params.toList args.toList ds p := hA0
  rw [Tryd.params4] at hA hval
  obtain ⟨v0, vs0, d0, ds0, p0, q0, ea0, rfl, rfl, h0, hA0⟩ := trodAll_cons hA
  obtain ⟨v1, vs1, d1, ds1, p1, q1, ea1, rfl, rfl, h1, hA1⟩ := trodAll_cons hA0
  obtain ⟨hn, rfl, rfl⟩ := trodAll_nil hA1
  obtain rfl : args = #[v0, v1] := by
    rw [← Array.toList_inj, ea0, ea1, hn]
  obtain ⟨rfl, rfl⟩ := trodVars_none hV
  obtain ⟨x0, rfl, hx0, ia0, ib0, ic0⟩ := open_spaceI (hval 0 31 v0 rfl rfl) h0
  obtain ⟨x1, rfl, hx1, ia1, ib1, ic1⟩ := open_spaceI (hval 1 31 v1 rfl rfl) h1
  refine (sone_t x0 x1 W hx0 hx1 (ins_of ia0 ib0 ic0) (ins_of ia1 ib1 ic1) (kat_of hL)).mono fun e W' ⟨he, hbl⟩ => ?_
  subst he
  exact ⟨_, rfl, law_postG hW' (by kernel_rfl) rfl rfl (fun t ht => by
    rw [Tryd.params4] at ht
    have hall : ([31, 31] : List Nat).all (fun u => Tryd.prog.readableRec u && decide (u < Tryd.prog.types.size)) = true := by kernel_rfl
    have h := List.all_eq_true.1 hall t (by simpa using ht)
    simpa using h) hbl⟩

theorem laid_met (os : Os) : laidMet Tryd.prog Rows.stateOneRow.laid ((laidWorld os).forCall (fun _ _ => 0) ⟨#[], #[.agg zSpP.toArray, .agg zSpP.toArray], []⟩).memory :=
  laidMet_of_run' 8 (by kernel_rfl) (by kernel_rfl)
theorem reads (os : Os) {H : Type} (enc : TypeId × Value → H) : ∃ places, DataW.whole enc Tryd.prog ((laidWorld os).forCall (fun _ _ => 0) ⟨#[], #[.agg zSpP.toArray, .agg zSpP.toArray], []⟩).memory Tryd.f4.params.toList Rows.stateOneSpec.vars false (#[.agg zSpP.toArray, .agg zSpP.toArray] : Array Value).toList 8 = some ([.agg [.lit (.int .i64 0), .nil, .nil, .lit (.int .i64 0), .lit (.int .i64 0), .agg (List.replicate 4 (.agg [.lit (.int .i64 0), .lit (.int .i64 0), .lit (.int .i64 0), .nil, .lit (.bool false)]))], .agg [.lit (.int .i64 0), .nil, .nil, .lit (.int .i64 0), .lit (.int .i64 0), .agg (List.replicate 4 (.agg [.lit (.int .i64 0), .lit (.int .i64 0), .lit (.int .i64 0), .nil, .lit (.bool false)]))]], [], places) :=
  ⟨[], by kernel_rfl⟩
set_option maxRecDepth 100000 in
theorem lifted (os : Os) (started : os.Started) (H : Type) (enc : TypeId × Value → H) (F : Stop.Interp) :
    ReturnsInHanded {} Tryd.checked os 4 .any ((OpenSpec.ofChange Rows.stateOneSpec).preRow enc Tryd.prog Tryd.f4 Rows.stateOneRow.domain false Rows.stateOneRow.laid) (((OpenSpec.ofChange Rows.stateOneSpec).at F).post enc Tryd.prog Tryd.f4 false true false false) := by
  obtain ⟨places, hx⟩ := reads os enc
  refine returnsInHanded_of_row (C := Tryd.checked) (s := OpenSpec.ofChange Rows.stateOneSpec) ownG started (by kernel_rfl) Tryd.func4
    (witness_row_at (enc := enc) (C := Tryd.checked) false (laidWorld os) #[.agg zSpP.toArray, .agg zSpP.toArray] rfl (by kernel_rfl) (by kernel_rfl) (by kernel_rfl)
      (OpenSpec.preRow_of_cond 8 hx (by kernel_rfl) (fun k hk => by cases hk) (by kernel_rfl) (laid_met os))) ?_
  intro W base args ds gs before hval hW _ _ _ hL _ _
  exact contract H enc W base args ds gs before hval hW hL
theorem said : Rows.StateOneSaid :=
  OpenClaim.holds_of_cond 4 Tryd.f4 rfl rfl rfl rfl rfl rfl rfl ⟨rfl, rfl, rfl, rfl, rfl⟩ rfl rfl rfl rfl rfl (by kernel_rfl) Tryd.func4 (by kernel_rfl)
    (of_decide_eq_true (by kernel_rfl)) (by unfold Func.isWrapper; first | (rw [if_pos (by decide +kernel)]; kernel_rfl) | (rw [if_neg (by decide +kernel)]; exact ⟨rfl, rfl⟩))
    (fun os started H enc _ F => by rw [OpenClaim.pre_eq_preRow]; exact lifted os started H enc F)
theorem plain (f : FuncId) (fn : Func) (hf : Tryd.pinned.checked.prog.funcNamed "chirograph/chirographlaw9.StateOne" = some f) (hfn : Tryd.pinned.checked.prog.funcs[f]? = some fn) :
    false = Tryd.pinned.checked.prog.looks [] ∧ ∀ (j : Nat) t, fn.params[j]? = some t → Tryd.pinned.checked.prog.wantsStandIn t = false := by
  obtain rfl : f = 4 := Option.some.inj ((show Tryd.prog.funcNamed "chirograph/chirographlaw9.StateOne" = some 4 by kernel_rfl).symm.trans hf) |>.symm
  obtain rfl : fn = Tryd.f4 := (Option.some.inj (Tryd.func4.symm.trans hfn)).symm
  refine ⟨by kernel_rfl, fun j t ht => ?_⟩
  rw [Tryd.params4] at ht
  have hm : t ∈ [31, 31] := by simpa using Array.mem_of_getElem? ht
  have hall : (([31, 31] : List Nat).all fun u => !Tryd.prog.wantsStandIn u) = true := by kernel_rfl
  exact (show Tryd.prog.wantsStandIn t = false by simpa using List.all_eq_true.1 hall t hm)
/-- THE CARD. -/
theorem card : Rows.StateOneCardSaid :=
  Claim7.holds_tied_plain_at .later [] _ _ _ _ said (fun _ h => by cases h) (by kernel_rfl) (fun _ h => by cases h) stateOne_row_tie rfl ⟨rfl, rfl⟩ (by kernel_rfl) rfl plain (by kernel_rfl)
end Go.Proofs.YtojianpbjckipaaDoor.stateOne
