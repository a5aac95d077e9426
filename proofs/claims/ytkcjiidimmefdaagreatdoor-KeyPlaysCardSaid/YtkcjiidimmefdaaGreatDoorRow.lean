import Derived.Test.YtkcjiidimmefdaaGreatDoorBaseM
import Derived.Test.YtkcjiidimmefdaaGreatDoorCards
import Derived.Test.YtkcjiidimmefdaaGreatDoorTie
import Derived.WalkKit
import Derived.ProofKit
import Derived.OpenShut
import Derived.Carry
import Derived.Deep.DeepHandedRow
import Derived.Lib.LaidTab
namespace Go.Proofs.YtkcjiidimmefdaaGreatDoor
open Go.ChangeShapes Go.WideShapes Go.ChangeAt Go.RowKit Sh

theorem own : ownKnob Tryz.prog.godebug = none := by kernel_rfl
theorem laidOut : laidOutB Tryz.prog = true := by kernel_rfl
theorem gTab : Tryz.prog.globalNamed "chirograph/sha.rounds" = some 1 := by kernel_rfl
theorem gTabType : (Tryz.prog.globals[1]?).map (·.type) = some 119 := by kernel_rfl
theorem cells51 : Tryz.prog.cellsOf 119 = 64 := by kernel_rfl
theorem cells41 : Tryz.prog.cellsOf 81 = 1 := by kernel_rfl
theorem cells5 : Tryz.prog.cellsOf 5 = 1 := by kernel_rfl
theorem cells25 : Tryz.prog.cellsOf 25 = 32 := by kernel_rfl

/-- What the row's list gives: the table K. -/
theorem kat_of {W : World} (h : laidMetH Tryz.prog [("chirograph/sha.rounds", Rows.laid_chirograph_sha_rounds)] W) : KAt W := by
  have ht : Lib.TabIs Tryz.prog W "chirograph/sha.rounds" .u32 (ks.map fun (n : Nat) => (n : Int)) :=
    Lib.tabIs_of_head (rest := []) gTab gTabType Tryz.underlying119 Tryz.underlying81 cells41 cells51 h
  have hc : ∀ j, j < 64 → W.cell? ⟨1, j, none⟩ = some (.int .u32 ((gt ks j : Nat) : Int)) := fun j hj => by
    have hl : j < ks.length := hj
    rw [ht.cell gTab j (by rw [List.length_map]; exact hl)]
    congr 2
    simp [gt, List.getD_eq_getElem?_getD, List.getElem?_eq_getElem hl]
  exact ⟨World.block_lt_of_cell? W _ (hc 0 (by decide)), hc⟩

section
variable {H : Type} {enc : TypeId × Value → H}
/-- Arguments read behind the call as they did, where nothing below the heap's old size has turned. -/
theorem stay : ∀ (ts : List TypeId) (vs : List Value) (ds : List (DataW H)) (ps : List MemPlace) (W W' : World), (∀ t ∈ ts, Tryz.prog.readableRec t = true ∧ t < Tryz.prog.types.size) → Below W.heap.size W W' → (∀ x ∈ ps, x.block < W.heap.size) →
    DataW.TrodAll enc Tryz.prog W 0 (fun _ => true) true ts vs ds ps → DataW.TrodAll enc Tryz.prog W' 0 (fun b => decide (b < W.heap.size)) true ts vs ds ps
  | [], vs, ds, ps, W, W', _, _, _, h => by
    obtain ⟨rfl, rfl, rfl⟩ := trodAll_nil h
    exact trodAll_mk0
  | t :: ts, vs, ds, ps, W, W', hr, hb, hlt, h => by
    obtain ⟨v, vs, d, ds, p, q, rfl, rfl, rfl, h1, h2⟩ := trodAll_cons h
    exact trodAll_cons_mk (Below.trod laidOut (hr t (List.mem_cons_self)).1 (hr t (List.mem_cons_self)).2 h1 hb (fun x hx => hlt x (List.mem_append_left _ hx)))
      (stay ts vs ds q W W' (fun u hu => hr u (List.mem_cons_of_mem _ hu)) hb (fun x hx => hlt x (List.mem_append_right _ hx)) h2)

/-- THE END OF EACH LAW: it answered true, and nothing that was there has turned. -/
theorem law_post {f : Func} {s : ChangeSpec} {W W' : World} {args : Array Value} {ds gs : List (DataW H)} {before : List MemPlace} (hW : DataW.Whole enc Tryz.prog f.params.toList s.vars false W args.toList ds gs before)
    (hr : f.resultTypes = #[4]) (hv : s.vars = []) (hfn : s.fn H (ds ++ gs) = { results := [.lit (.bool true)], args := ds }) (hp : ∀ t ∈ f.params.toList, Tryz.prog.readableRec t = true ∧ t < Tryz.prog.types.size) (hb : Below W.heap.size W W') :
    s.post enc Tryz.prog f false true false false W args (.bool true) W' := by
  have hlt := hW.lt
  obtain ⟨p, q, hA, hV, hpq, hz, hnd⟩ := id hW
  rw [hv] at hV
  obtain ⟨rfl, rfl⟩ := trodVars_none hV
  rw [List.append_nil] at hpq
  subst hpq
  refine ⟨ds, [], before, [], before, [], hW, ?_, ?_, ?_, World.keptBut_mono (fun x hx => ⟨hx, Or.inr (Or.inl hx)⟩) (hb.frame (· ∈ before)), fun h => by cases h⟩
  · rw [hfn, hr]
    exact trodAll_mk1 (shut_bool Tryz.underlying4 _)
  · rw [hfn]
    exact stay _ _ _ _ W W' hp hb hlt hA
  · rw [hfn, hv]
    rfl

set_option maxRecDepth 100000 in
/-- A digest that came in by value. -/
theorem open_hash {W : World} {base : Nat} {v : Value} {d : DataW H} {p : List MemPlace} (hval : Value.okWide Tryz.prog W .any base 25 v) (h : DataW.Trod enc Tryz.prog W 0 (fun _ => true) true 25 v d p) :
    ∃ l : List Nat, l.length = 32 ∧ Bytes l ∧ v = .agg (u8s l).toArray := by
  obtain ⟨cs, rfl, hsz, _⟩ : ∃ cs, v = .agg cs ∧ cs.size = Tryz.prog.cellsOf 25 ∧ Row.okWide Tryz.prog W .any base 25 cs := by
    simpa [Value.okWide, Tryz.underlying25] using hval
  rw [cells25] at hsz
  obtain ⟨fuel, hf⟩ := h
  obtain ⟨xs, m, _, _, _, hxl, hel⟩ := DataW.trod_array Tryz.underlying25 hf
  have each : ∀ i, i < 32 → ∃ n : Nat, n < 256 ∧ cs.toList[i]? = some (.int .u8 (n : Int)) := fun i hi => by
    have h1 := hel i hi
    rw [cells5, Nat.mul_one, List.getElem?_eq_getElem (by omega)] at h1
    obtain ⟨n, e1, _, wf⟩ := DataW.trod_int Tryz.underlying5 h1
    have hb := bounds_u8 wf
    refine ⟨n.toNat, by omega, ?_⟩
    have h2 : (cs.toList.drop i)[0]? = some (.int .u8 n) := by
      have := congrArg (fun l => l[0]?) e1
      simpa [Value.cells] using this
    rw [List.getElem?_drop, Nat.add_zero] at h2
    rw [h2, Int.toNat_of_nonneg hb.1]
  have hlen : cs.toList.length = 32 := by simpa using hsz
  refine ⟨cs.toList.map fun v => match v with | .int _ n => n.toNat | _ => 0, by simpa using hsz, ?_, ?_⟩
  · intro i
    rcases Nat.lt_or_ge i 32 with hi | hi
    · obtain ⟨n, hn, e⟩ := each i hi
      simp [gt, List.getD_eq_getElem?_getD, e]
      omega
    · rw [gt_out (by simpa using by omega)]; decide
  · congr 1
    have e : cs.toList = u8s (cs.toList.map fun v => match v with | .int _ n => n.toNat | _ => 0) := by
      apply List.ext_getElem?
      intro i
      rcases Nat.lt_or_ge i 32 with hi | hi
      · obtain ⟨n, hn, e⟩ := each i hi
        simp [u8s, e]
      · rw [List.getElem?_eq_none (by omega), List.getElem?_eq_none (by simp [u8s]; omega)]
    rw [← e]
end
end Go.Proofs.YtkcjiidimmefdaaGreatDoor
