/-
  THE CARD OF GenesisAsks: what a genesis may be, its space, bytes, anchor and link is what the document says, of any two geneses and any bytes, in every world in which the tables of packages sha and ots hold what their texts say; the law answers true, and its arguments read as they did. (Condition: the tables 'chirograph/sha.rounds' and 'chirograph/ots.kinds' are laid as the program's text lays them; the card ties that to the text.)
-/
import Derived.Test.YtlipjglehongeaaGreatDoorGa48
import Derived.Test.YtlipjglehongeaaGreatDoorGa46
import Derived.Test.YtlipjglehongeaaGreatDoorGa1
import Derived.Test.YtlipjglehongeaaGreatDoorCards
import Derived.Test.YtlipjglehongeaaGreatDoorTie
import Derived.WalkKit
import Derived.ProofKit
import Derived.OpenShut
import Derived.Carry
import Derived.Deep.DeepHandedRow
import Derived.Lib.LaidTab
import Derived.Test.YtlipjglehongeaaGreatDoorGa3
import Derived.LaidSub
import Derived.Test.YtlipjglehongeaaGreatDoorGa47
namespace Go.Proofs.YtlipjglehongeaaGreatDoor
open Go.ChangeShapes Go.WideShapes Go.ChangeAt Go.RowKit Go.Deep Sh

theorem cellsGen : Tryz.prog.cellsOf 25 = 5 := by kernel_rfl
theorem cellsKs : Tryz.prog.cellsOf 22 = 1 := by kernel_rfl
theorem cellsKb : Tryz.prog.cellsOf 23 = 1 := by kernel_rfl
set_option maxRecDepth 100000 in
theorem open_u8c {H : Type} {enc : TypeId × Value → H} {W : World} {l : List Value} {fuel : Nat} {x : DataW H × List MemPlace} (hf : DataW.trod enc Tryz.prog W 0 (fun _ => true) true fuel 23 l = some x) :
    ∃ x : Ky, l = kyv x ∧ Sr W x.A x.X ∧ Bytes x.X ∧ x.X.length ≤ x.c ∧ x.c ≤ maxLen := by
  rcases open_ints Tryz.underlying23 Tryz.underlying5 cellsU8 hf with ⟨hcs, _⟩ | ⟨a, len, cap, zs, hcs, _, hl, hm, hz, _, hcell, hwz⟩
  · exact ⟨⟨none, 0, []⟩, hcs, Sr.nil, fun i => by simp [gt], Nat.le_refl _, Nat.zero_le _⟩
  · simp only [if_true] at hz
    obtain ⟨h1, h2, h3⟩ := nats_of zs hwz len (by omega)
    refine ⟨⟨some a, cap, (zs.take len).map Int.toNat⟩, by unfold kyv; dsimp only; rw [h1]; exact hcs, fun hx => ?_, h2, by rw [h1]; exact hl, hm⟩
    dsimp only at hx ⊢
    rw [h1] at hx
    have hs := World.cell?_spot (hcell 0 (by omega))
    obtain ⟨b, o, sp⟩ := a
    have hsp : sp = none := by simpa [Addr.add] using hs
    subst hsp
    refine ⟨b, o, rfl, World.block_lt_of_cell? W _ (hcell 0 (by omega)), fun j hj => ?_⟩
    rw [h1] at hj
    have := hcell j (by omega)
    rw [Addr.add_mid] at this
    rw [this, h3 j hj]
set_option maxRecDepth 100000 in
theorem open_gen {H : Type} {enc : TypeId × Value → H} {W : World} {base : Nat} {v : Value} {d : DataW H} {p : List MemPlace} (hval : Value.okWide Tryz.prog W .any base 25 v) (h : DataW.Trod enc Tryz.prog W 0 (fun _ => true) true 25 v d p) :
    ∃ x : Gv, v = .agg (gv x).toArray ∧ GvI W x := by
  obtain ⟨cs, rfl, hsz, _⟩ : ∃ cs, v = .agg cs ∧ cs.size = Tryz.prog.cellsOf 25 ∧ Row.okWide Tryz.prog W .any base 25 cs := by
    simpa [Value.okWide, Tryz.underlying25] using hval
  obtain ⟨fuel, hf⟩ := h
  obtain ⟨xs, n, _, _, hl, hlen, hff⟩ := DataW.trod_struct Tryz.underlying25 hf
  have h0 := hff 0 _ rfl
  have h1 := hff 1 _ rfl
  have h2 := hff 2 _ rfl
  have h3 := hff 3 _ rfl
  have h4 := hff 4 _ rfl
  rw [cellsGen] at hl
  match xs, hlen with
  | [x0, x1, x2, x3, x4], _ =>
    obtain ⟨n0, c0, _, _⟩ := DataW.trod_int Tryz.underlying3 h0
    obtain ⟨n1, c1, _, _⟩ := DataW.trod_int Tryz.underlying3 h1
    obtain ⟨n2, c2, _, _⟩ := DataW.trod_int Tryz.underlying3 h2
    obtain ⟨l⟩ := cs
    change List.take (Tryz.prog.cellsOf 3) (List.drop 0 l) = _ at c0
    change List.take (Tryz.prog.cellsOf 3) (List.drop 1 l) = _ at c1
    change List.take (Tryz.prog.cellsOf 3) (List.drop 2 l) = _ at c2
    change DataW.trod enc Tryz.prog W 0 (fun _ => true) true n 22 (List.take (Tryz.prog.cellsOf 22) (List.drop 3 l)) = some x3 at h3
    change DataW.trod enc Tryz.prog W 0 (fun _ => true) true n 23 (List.take (Tryz.prog.cellsOf 23) (List.drop 4 l)) = some x4 at h4
    rw [cellsIntF] at c0 c1 c2
    rw [cellsKs] at h3
    rw [cellsKb] at h4
    change l.length = 5 at hl
    match l, hl with
    | [l0, l1, l2, l3, l4], _ =>
      simp at c0 c1 c2
      obtain ⟨q1, d1, ks, rfl, r1, i1, m1⟩ := open_rowc kyv (fun y => Sr W y.A y.X ∧ Bytes y.X ∧ y.X.length ≤ y.c ∧ y.c ≤ maxLen) ⟨none, 0, []⟩ Tryz.underlying22 cellsKb (by decide) kyv_len (fun hq => open_u8c hq) (v := l3) h3
      obtain ⟨⟨A, c, st⟩, hst, s1, s2, s3, s4⟩ := open_u8c (l := [l4]) h4
      obtain rfl := List.cons.inj hst |>.1
      subst c0; subst c1; subst c2
      exact ⟨⟨n0, n1, n2, q1, d1, ks, A, c, st⟩, rfl, r1, i1, m1, s1, s2, s3⟩
end Go.Proofs.YtlipjglehongeaaGreatDoor
namespace Go.Proofs.YtlipjglehongeaaGreatDoor
open Go.ChangeShapes Go.WideShapes Go.ChangeAt Go.RowKit Sh

theorem own : ownKnob Tryz.prog.godebug = none := by kernel_rfl
theorem gTab : Tryz.prog.globalNamed "chirograph/sha.rounds" = some 1 := by kernel_rfl
theorem gTabType : (Tryz.prog.globals[1]?).map (·.type) = some 190 := by kernel_rfl
theorem cells51 : Tryz.prog.cellsOf 190 = 64 := by kernel_rfl
theorem cells41 : Tryz.prog.cellsOf 149 = 1 := by kernel_rfl
theorem kat_of {W : World} (h : laidMetH Tryz.prog [("chirograph/sha.rounds", Rows.laid_chirograph_sha_rounds)] W) : KAt W := by
  have ht : Lib.TabIs Tryz.prog W "chirograph/sha.rounds" .u32 (ks.map fun (n : Nat) => (n : Int)) :=
    Lib.tabIs_of_head (rest := []) gTab gTabType Tryz.underlying190 Tryz.underlying149 cells41 cells51 h
  have hc : ∀ j, j < 64 → W.cell? ⟨1, j, none⟩ = some (.int .u32 ((gt ks j : Nat) : Int)) := fun j hj => by
    have hl : j < ks.length := hj
    rw [ht.cell gTab j (by rw [List.length_map]; exact hl)]
    congr 2
    simp [gt, List.getD_eq_getElem?_getD, List.getElem?_eq_getElem hl]
  exact ⟨World.block_lt_of_cell? W _ (hc 0 (by decide)), hc⟩

section
variable {H : Type} {enc : TypeId × Value → H}
end
end Go.Proofs.YtlipjglehongeaaGreatDoor
namespace Go.Proofs.YtlipjglehongeaaGreatDoor
open Go.ChangeShapes Go.WideShapes Go.ChangeAt Go.RowKit Sh

noncomputable def laidWorld (os : Os) : World :=
  { World.holding Tryz.prog os ⟨#[], #[], []⟩ with heap := (World.holding Tryz.prog os ⟨#[], #[], []⟩).heap.modify 1 fun
      | .cells _ t frozen => .cells (u32s ks).toArray t frozen
      | o => o }
end Go.Proofs.YtlipjglehongeaaGreatDoor
namespace Go.Proofs.YtlipjglehongeaaGreatDoor
open Go.ChangeShapes Go.WideShapes Go.ChangeAt Go.RowKit Sh

theorem gKin : Tryz.prog.globalNamed "chirograph/ots.kinds" = some 2 := by kernel_rfl
theorem gKinType : (Tryz.prog.globals[2]?).map (·.type) = some 246 := by kernel_rfl
theorem cellsKin : Tryz.prog.cellsOf 245 = 4 := by kernel_rfl
theorem cellsKins : Tryz.prog.cellsOf 246 = 16 := by kernel_rfl
theorem cellsU64 : Tryz.prog.cellsOf 89 = 1 := by kernel_rfl
theorem cellsInt : Tryz.prog.cellsOf 3 = 1 := by kernel_rfl
set_option maxRecDepth 100000 in
theorem kind_cells {H : Type} {enc : TypeId × Value → H} {W : World} {base : Nat} {sp : Nat → Bool} {held : Bool} {fuel : Nat} {l : List Value} {a b c d : Int} {p : List MemPlace}
    (h : DataW.trod enc Tryz.prog W base sp held fuel 245 l = some (.agg [.lit (.int .u64 a), .lit (.int .i64 b), .lit (.int .i64 c), .lit (.int .i64 d)], p)) : l = [.int .u64 a, .int .i64 b, .int .i64 c, .int .i64 d] := by
  obtain ⟨xs, n, _, hx, hl, hlen, hf⟩ := DataW.trod_struct Tryz.underlying245 h
  rw [cellsKin] at hl
  have h0 := hf 0 _ rfl
  have h1 := hf 1 _ rfl
  have h2 := hf 2 _ rfl
  have h3 := hf 3 _ rfl
  match xs, hlen with
  | [x0, x1, x2, x3], _ =>
    injection hx with hx1 _
    injection hx1 with hx1
    simp only [List.map_cons, List.map_nil, List.cons.injEq, and_true] at hx1
    obtain ⟨e0, e1, e2, e3⟩ := hx1
    obtain ⟨n0, c0, y0, _⟩ := DataW.trod_int Tryz.underlying89 h0
    obtain ⟨n1, c1, y1, _⟩ := DataW.trod_int Tryz.underlying3 h1
    obtain ⟨n2, c2, y2, _⟩ := DataW.trod_int Tryz.underlying3 h2
    obtain ⟨n3, c3, y3, _⟩ := DataW.trod_int Tryz.underlying3 h3
    rw [y0] at e0; rw [y1] at e1; rw [y2] at e2; rw [y3] at e3
    injection e0 with e0; injection e0 with _ e0
    injection e1 with e1; injection e1 with _ e1
    injection e2 with e2; injection e2 with _ e2
    injection e3 with e3; injection e3 with _ e3
    subst e0; subst e1; subst e2; subst e3
    change List.take (Tryz.prog.cellsOf 89) (List.drop 0 l) = _ at c0
    change List.take (Tryz.prog.cellsOf 3) (List.drop 1 l) = _ at c1
    change List.take (Tryz.prog.cellsOf 3) (List.drop 2 l) = _ at c2
    change List.take (Tryz.prog.cellsOf 3) (List.drop 3 l) = _ at c3
    rw [cellsU64] at c0
    rw [cellsInt] at c1 c2 c3
    match l, hl with
    | [l0, l1, l2, l3], _ =>
      simp at c0 c1 c2 c3
      rw [c0, c1, c2, c3]
set_option maxRecDepth 100000 in
theorem ki_of {W : World} (h : laidMetH Tryz.prog [("chirograph/sha.rounds", Rows.laid_chirograph_sha_rounds), ("chirograph/ots.kinds", Rows.laid_chirograph_ots_kinds)] W) : KI W := by
  have h1 := h.filter (fun x => x.1 == "chirograph/ots.kinds")
  have h2 : laidMet Tryz.prog [("chirograph/ots.kinds", Rows.laid_chirograph_ots_kinds)] W := h1
  obtain ⟨ps, ⟨g', t', cs, fuel, p, q, hg', ht', hvar, hd, _, _⟩, _⟩ := h2
  obtain rfl := Option.some.inj (gKin.symm.trans hg')
  obtain rfl := Option.some.inj (gKinType.symm.trans ht')
  obtain ⟨xs, m, _, hx, hl, hxl, hel⟩ := DataW.trod_array Tryz.underlying246 hd
  rw [cellsKins] at hl
  have e0 := hel 0 (by decide); have e1 := hel 1 (by decide); have e2 := hel 2 (by decide); have e3 := hel 3 (by decide)
  rw [cellsKin] at e0 e1 e2 e3
  match xs, hxl with
  | [x0, x1, x2, x3], _ =>
    injection hx with hx1 _
    unfold Rows.laid_chirograph_ots_kinds at hx1
    injection hx1 with hx1
    simp only [List.map_cons, List.map_nil, List.cons.injEq, and_true] at hx1
    obtain ⟨y0, y1, y2, y3⟩ := hx1
    have k0 := kind_cells (p := x0.2) (e0.trans (by rw [y0]; rfl))
    have k1 := kind_cells (p := x1.2) (e1.trans (by rw [y1]; rfl))
    have k2 := kind_cells (p := x2.2) (e2.trans (by rw [y2]; rfl))
    have k3 := kind_cells (p := x3.2) (e3.trans (by rw [y3]; rfl))
    have hcs : cs.toList = kds := by
      generalize cs.toList = l at *
      have : l = (l.drop 0).take 4 ++ ((l.drop 4).take 4 ++ ((l.drop 8).take 4 ++ (l.drop 12).take 4)) := by
        match l, hl with
        | [a0, a1, a2, a3, a4, a5, a6, a7, a8, a9, a10, a11, a12, a13, a14, a15], _ => rfl
      rw [this, show (l.drop 0).take 4 = _ from k0, show (l.drop 4).take 4 = _ from k1, show (l.drop 8).take 4 = _ from k2, show (l.drop 12).take 4 = _ from k3]
      rfl
    have hc : ∀ j v, kds[j]? = some v → W.cell? ⟨2, 0 + j, none⟩ = some v := fun j v hv => by
      rw [Nat.zero_add]
      have := World.var?_cell gKin hvar j
      rw [this, ← hv, ← hcs]
      simp
    exact ⟨World.block_lt_of_cell? W _ (hc 0 _ rfl), hc⟩
theorem kat_of2 {W : World} (h : laidMetH Tryz.prog [("chirograph/sha.rounds", Rows.laid_chirograph_sha_rounds), ("chirograph/ots.kinds", Rows.laid_chirograph_ots_kinds)] W) : KAt W :=
  kat_of (h.filter (fun x => x.1 == "chirograph/sha.rounds"))
noncomputable def laidWorld2 (os : Os) : World :=
  { laidWorld os with heap := (laidWorld os).heap.modify 2 fun
      | .cells _ t frozen => .cells kds.toArray t frozen
      | o => o }
end Go.Proofs.YtlipjglehongeaaGreatDoor
namespace Go.Proofs.YtlipjglehongeaaGreatDoor.genesisAsks
open Go.ChangeShapes Go.WideShapes Go.ChangeAt Go.RowKit Go.Deep Sh

set_option maxRecDepth 100000 in
theorem contract (H : Type) (enc : TypeId × Value → H) (W : World) (base : Nat) (args : Array Value) (ds gs : List (DataW H)) (before : List MemPlace)
    (hval : ∀ (j : Nat) t v, Tryz.f3.params[j]? = some t → args[j]? = some v → Value.okWide Tryz.prog W .any base t v)
    (hW : DataW.Whole enc Tryz.prog Tryz.f3.params.toList Rows.genesisAsksSpec.vars false W args.toList ds gs before) (hL : laidMetH Tryz.prog Rows.genesisAsksRow.laid W) :
    Calls Tryz.prog 3 args W fun e W' => ∃ v, e = .returned v ∧ Rows.genesisAsksSpec.post enc Tryz.prog Tryz.f3 false true false false W args v W' := by
  have hW' := hW
  obtain ⟨p, q, hA0, hV, rfl, hfz, hnd⟩ := hW
  have hA : DataW.TrodAll enc Tryz.prog W 0 (fun _ => true) true Tryz.f3.params.toList args.toList ds p := hA0
  rw [Tryz.params3] at hA hval
  obtain ⟨v0, vs0, d0, ds0, p0, q0, ea0, rfl, rfl, h0, hA0⟩ := trodAll_cons hA
  obtain ⟨v1, vs1, d1, ds1, p1, q1, ea1, rfl, rfl, h1, hA1⟩ := trodAll_cons hA0
  obtain ⟨v2, vs2, d2, ds2, p2, q2, ea2, rfl, rfl, h2, hA2⟩ := trodAll_cons hA1
  obtain ⟨hn, rfl, rfl⟩ := trodAll_nil hA2
  obtain rfl : args = #[v0, v1, v2] := by
    rw [← Array.toList_inj, ea0, ea1, ea2, hn]
  obtain ⟨rfl, rfl⟩ := trodVars_none hV
  obtain ⟨x0, rfl, hx0⟩ := open_gen (hval 0 25 v0 rfl rfl) h0
  obtain ⟨x1, rfl, hx1⟩ := open_gen (hval 1 25 v1 rfl rfl) h1
  obtain ⟨A2, n2, c2, xs2, rfl, hn2, hs2, hbx2, hnc2, hc2⟩ := open_u8s (hval 2 23 v2 rfl rfl) h2
  refine (gasks_t x0 x1 xs2 A2 n2 c2 W hx0 hx1 hn2 hnc2 hs2 hbx2 hc2 (ki_of hL) (kat_of2 hL)).mono fun e W' ⟨he, hbl⟩ => ?_
  subst he
  exact ⟨_, rfl, law_postG hW' (by kernel_rfl) rfl rfl (fun t ht => by
    rw [Tryz.params3] at ht
    have hall : ([25, 25, 23] : List Nat).all (fun u => Tryz.prog.readableRec u && decide (u < Tryz.prog.types.size)) = true := by kernel_rfl
    have h := List.all_eq_true.1 hall t (by simpa using ht)
    simpa using h) hbl⟩

theorem laid_met (os : Os) : laidMet Tryz.prog Rows.genesisAsksRow.laid ((laidWorld2 os).forCall (fun _ _ => 0) ⟨#[], #[.agg (gv zGv).toArray, .agg (gv zGv).toArray, .slice none 0 0], []⟩).memory :=
  laidMet_of_run' 8 (by kernel_rfl) (by kernel_rfl)
theorem reads (os : Os) {H : Type} (enc : TypeId × Value → H) : ∃ places, DataW.whole enc Tryz.prog ((laidWorld2 os).forCall (fun _ _ => 0) ⟨#[], #[.agg (gv zGv).toArray, .agg (gv zGv).toArray, .slice none 0 0], []⟩).memory Tryz.f3.params.toList Rows.genesisAsksSpec.vars false (#[.agg (gv zGv).toArray, .agg (gv zGv).toArray, .slice none 0 0] : Array Value).toList 8 = some ([.agg [.lit (.int .i64 0), .lit (.int .i64 0), .lit (.int .i64 0), .nil, .nil], .agg [.lit (.int .i64 0), .lit (.int .i64 0), .lit (.int .i64 0), .nil, .nil], .nil], [], places) :=
  ⟨[], by kernel_rfl⟩
set_option maxRecDepth 100000 in
theorem lifted (os : Os) (started : os.Started) (H : Type) (enc : TypeId × Value → H) (F : Stop.Interp) :
    ReturnsInHanded {} Tryz.checked os 3 .any ((OpenSpec.ofChange Rows.genesisAsksSpec).preRow enc Tryz.prog Tryz.f3 Rows.genesisAsksRow.domain false Rows.genesisAsksRow.laid) (((OpenSpec.ofChange Rows.genesisAsksSpec).at F).post enc Tryz.prog Tryz.f3 false true false false) := by
  obtain ⟨places, hx⟩ := reads os enc
  refine returnsInHanded_of_row (C := Tryz.checked) (s := OpenSpec.ofChange Rows.genesisAsksSpec) ownG started (by kernel_rfl) Tryz.func3
    (witness_row_at (enc := enc) (C := Tryz.checked) false (laidWorld2 os) #[.agg (gv zGv).toArray, .agg (gv zGv).toArray, .slice none 0 0] rfl (by kernel_rfl) (by kernel_rfl) (by kernel_rfl)
      (OpenSpec.preRow_of_cond 8 hx (by kernel_rfl) (fun k hk => by cases hk) (by kernel_rfl) (laid_met os))) ?_
  intro W base args ds gs before hval hW _ _ _ hL _ _
  exact contract H enc W base args ds gs before hval hW hL
theorem said : Rows.GenesisAsksSaid :=
  OpenClaim.holds_of_cond 3 Tryz.f3 rfl rfl rfl rfl rfl rfl rfl ⟨rfl, rfl, rfl, rfl, rfl⟩ rfl rfl rfl rfl rfl (by kernel_rfl) Tryz.func3 (by kernel_rfl)
    (of_decide_eq_true (by kernel_rfl)) (by unfold Func.isWrapper; first | (rw [if_pos (by decide +kernel)]; kernel_rfl) | (rw [if_neg (by decide +kernel)]; exact ⟨rfl, rfl⟩))
    (fun os started H enc _ F => by rw [OpenClaim.pre_eq_preRow]; exact lifted os started H enc F)
theorem plain (f : FuncId) (fn : Func) (hf : Tryz.pinned.checked.prog.funcNamed "chirograph/chirographlaw10.GenesisAsks" = some f) (hfn : Tryz.pinned.checked.prog.funcs[f]? = some fn) :
    false = Tryz.pinned.checked.prog.looks [] ∧ ∀ (j : Nat) t, fn.params[j]? = some t → Tryz.pinned.checked.prog.wantsStandIn t = false := by
  obtain rfl : f = 3 := Option.some.inj ((show Tryz.prog.funcNamed "chirograph/chirographlaw10.GenesisAsks" = some 3 by kernel_rfl).symm.trans hf) |>.symm
  obtain rfl : fn = Tryz.f3 := (Option.some.inj (Tryz.func3.symm.trans hfn)).symm
  refine ⟨by kernel_rfl, fun j t ht => ?_⟩
  rw [Tryz.params3] at ht
  have hm : t ∈ [25, 25, 23] := by simpa using Array.mem_of_getElem? ht
  have hall : (([25, 25, 23] : List Nat).all fun u => !Tryz.prog.wantsStandIn u) = true := by kernel_rfl
  exact (show Tryz.prog.wantsStandIn t = false by simpa using List.all_eq_true.1 hall t hm)
theorem card : Rows.GenesisAsksCardSaid :=
  Claim7.holds_tied_plain_at .later [] _ _ _ _ said (fun _ h => by cases h) (by kernel_rfl) (fun _ h => by cases h) genesisAsks_row_tie rfl ⟨rfl, rfl⟩ (by kernel_rfl) rfl plain (by kernel_rfl)
end Go.Proofs.YtlipjglehongeaaGreatDoor.genesisAsks
