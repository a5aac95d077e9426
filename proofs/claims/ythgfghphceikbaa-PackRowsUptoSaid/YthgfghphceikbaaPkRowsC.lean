/-
  PackRows: for every row of parts of bulk at most 1048576 the law answers true, and its argument reads as it did. (Condition: the bound of the second form. Without it the row of the parts, which the law makes of all of them ahead of its bound, can pass 2^48 bytes.)
-/
import Derived.Test.YthgfghphceikbaaPkRows
import Derived.Test.YthgfghphceikbaaRowG
namespace Go.Proofs.Ythgfghphceikbaa.packRows
open Go.ChangeShapes Go.WideShapes Go.ChangeAt Go.RowKit Go.Deep Sh

theorem cells4 : Try.prog.cellsOf 42 = 4 := by kernel_rfl
theorem cellsI : Try.prog.cellsOf 3 = 1 := by kernel_rfl
theorem cellsU : Try.prog.cellsOf 40 = 1 := by kernel_rfl
theorem cellsB : Try.prog.cellsOf 27 = 1 := by kernel_rfl
theorem bulk_pos {H : Type} (d : DataW H) : 1 ≤ Rows.uptoBulk d := by
  cases d with
  | lit l => cases l <;> simp [Rows.uptoBulk]
  | _ => simp [Rows.uptoBulk]
theorem bulk_len {H : Type} : ∀ l : List (DataW H), l.length ≤ Rows.uptoBulkAll l
  | [] => Nat.zero_le _
  | d :: r => by
    have h1 := bulk_pos d
    have h2 := bulk_len r
    simp only [Rows.uptoBulkAll, List.length_cons]
    omega
/-- One part. -/
def PartIs (W : World) (a : Addr) (i : Nat) (y : Int × Int × Nat × Option Addr × Nat × Nat × List Nat) : Prop :=
  W.cell? (a.add (i * 4)) = some (.int .i64 y.1) ∧ W.cell? ((a.add (i * 4)).add 1) = some (.int .i64 y.2.1) ∧ W.cell? ((a.add (i * 4)).add 2) = some (.int .u64 (y.2.2.1 : Nat)) ∧ W.cell? ((a.add (i * 4)).add 3) = some (.slice y.2.2.2.1 y.2.2.2.2.1 y.2.2.2.2.2.1) ∧
  (-9223372036854775808 ≤ y.1 ∧ y.1 ≤ 9223372036854775807) ∧ (-9223372036854775808 ≤ y.2.1 ∧ y.2.1 ≤ 9223372036854775807) ∧ y.2.2.1 < 18446744073709551616 ∧
  y.2.2.2.2.2.2.length = y.2.2.2.2.1 ∧ y.2.2.2.2.1 ≤ y.2.2.2.2.2.1 ∧ y.2.2.2.2.2.1 ≤ maxLen ∧ Sr W y.2.2.2.1 y.2.2.2.2.2.2 ∧ Bytes y.2.2.2.2.2.2
theorem open_part {H : Type} {enc : TypeId × Value → H} {W : World} {m : Nat} {a : Addr} {i : Nat} {cs : List Value} {x : DataW H × List MemPlace} (hc : W.cells? 0 (a.add (i * 4)) 4 = some cs)
    (h : DataW.trod enc Try.prog W 0 (fun _ => true) true m 42 cs = some x) : ∃ y, PartIs W a i y := by
  obtain ⟨_, hl, hat⟩ := World.cells?_some hc
  obtain ⟨ys, n, _, _, _, hyl, hf⟩ := DataW.trod_struct Try.underlying42 h
  match cs, hl, ys, hyl with
  | [v0, v1, v2, v3], _, [y0, y1, y2, y3], _ =>
    have f0 : DataW.trod enc Try.prog W 0 (fun _ => true) true n 3 [v0] = some y0 := by simpa [cellsI] using hf 0 _ rfl
    have f1 : DataW.trod enc Try.prog W 0 (fun _ => true) true n 3 [v1] = some y1 := by simpa [cellsI] using hf 1 _ rfl
    have f2 : DataW.trod enc Try.prog W 0 (fun _ => true) true n 40 [v2] = some y2 := by simpa [cellsU] using hf 2 _ rfl
    have f3 : DataW.trod enc Try.prog W 0 (fun _ => true) true n 27 [v3] = some y3 := by simpa [cellsB] using hf 3 _ rfl
    obtain ⟨n0, e0, _, w0⟩ := DataW.trod_int Try.underlying3 f0
    obtain ⟨n1, e1, _, w1⟩ := DataW.trod_int Try.underlying3 f1
    obtain ⟨n2, e2, _, w2⟩ := DataW.trod_int Try.underlying40 f2
    have b2 := bounds_u64 w2
    obtain ⟨m2, rfl⟩ := Int.eq_ofNat_of_zero_le b2.1
    have hm2 : m2 < 18446744073709551616 := by omega
    have h0 := hat 0 (by omega); have h1 := hat 1 (by omega); have h2 := hat 2 (by omega); have h3 := hat 3 (by omega)
    simp only [List.cons.injEq, and_true] at e0 e1 e2
    subst e0 e1 e2
    have ha0 : (a.add (i * 4)).add 0 = a.add (i * 4) := by unfold Addr.add; simp
    rw [ha0] at h0
    rcases open_ints Try.underlying27 Try.underlying5 cellsU8 f3 with ⟨hcs, _⟩ | ⟨a', len, cap, zs, hcs, _, hl', hm, hz, _, hcell, hwz⟩
    · simp only [List.cons.injEq, and_true] at hcs
      subst hcs
      exact ⟨(n0, n1, m2, none, 0, 0, []), h0, h1, h2, h3, bounds_i64 w0, bounds_i64 w1, hm2, rfl, Nat.le_refl _, Nat.zero_le _, Sr.nil, fun j => by simp [gt]⟩
    · simp only [List.cons.injEq, and_true] at hcs
      subst hcs
      simp only [if_true] at hz
      obtain ⟨g1, g2, g3⟩ := nats_of zs hwz len (by omega)
      refine ⟨(n0, n1, m2, some a', len, cap, (zs.take len).map Int.toNat), h0, h1, h2, h3, bounds_i64 w0, bounds_i64 w1, hm2, g1, hl', hm, fun hx => ?_, g2⟩
      simp only [g1] at hx
      have hs := World.cell?_spot (hcell 0 (by omega))
      obtain ⟨b, o, sp⟩ := a'
      have hsp : sp = none := by simpa [Addr.add] using hs
      subst hsp
      refine ⟨b, o, rfl, World.block_lt_of_cell? W _ (hcell 0 (by omega)), fun j hj => ?_⟩
      simp only [g1] at hj
      have h6 := hcell j (by omega)
      rw [Addr.add_mid] at h6
      rw [h6, g3 j hj]
/-- A []Part that came in. -/
theorem open_parts {H : Type} {enc : TypeId × Value → H} {W : World} {base : Nat} {v : Value} {d : DataW H} {p : List MemPlace} (hval : Value.okWide Try.prog W .any base 37 v) (h : DataW.Trod enc Try.prog W 0 (fun _ => true) true 37 v d p) (hk : Rows.uptoBulkAll [d] ≤ 1048576) :
    ∃ (q : Option Addr) (n c : Nat) (Hw Wd : Nat → Int) (V : Nat → Nat) (A : Nat → Option Addr) (L C : Nat → Nat) (X : Nat → List Nat), v = .slice q n c ∧ Parts W q n Hw Wd V A L C X ∧ n ≤ 1048576 := by
  obtain ⟨q, n, c, rfl⟩ : ∃ A n c, v = .slice A n c := by
    cases v <;> simp [Value.okWide, Cell.okWide, Cell.ok, Try.underlying37] at hval ⊢
  obtain ⟨fuel, hf⟩ := h
  rcases open_slice Try.underlying37 hf with ⟨hcs, _⟩ | ⟨a, len, cap, m, k, D, Pl, hcs, _, hl, hm, hmm, hx, hel⟩
  · simp [Value.cells] at hcs
    obtain ⟨rfl, rfl, rfl⟩ := hcs
    exact ⟨none, 0, 0, fun _ => 0, fun _ => 0, fun _ => 0, fun _ => none, fun _ => 0, fun _ => 0, fun _ => [], rfl,
      ⟨fun r hr => by omega, fun r hr => by omega, fun r hr => by omega, fun r hr => by omega, fun r hr => by omega, fun r hr => by omega, fun r hr => by omega, fun r hr => by omega, fun r hr => by omega⟩, Nat.zero_le _⟩
  · simp [Value.cells] at hcs
    obtain ⟨rfl, rfl, rfl⟩ := hcs
    simp only [if_true] at hmm
    rw [cells4] at hel
    have hn : n ≤ 1048576 := by
      have hd : d = .slice ((List.range n).map D) ((List.range (m - n)).map fun j => D (n + j)) := congrArg Prod.fst hx
      rw [hd] at hk
      have h1 := bulk_len ((List.range n).map D)
      simp only [Rows.uptoBulkAll, Rows.uptoBulk, List.length_map, List.length_range] at hk h1
      omega
    obtain ⟨y, hy⟩ := choose_lt (p := fun i y => PartIs W a i y) (n := n) fun i hi => by
      obtain ⟨cs', h1, h2⟩ := hel i (by omega)
      exact open_part h1 h2
    have sp : 0 < n → ∃ b o, a = ⟨b, o, none⟩ := fun h0 => by
      have hs := World.cell?_spot (hy 0 h0).1
      obtain ⟨b, o, s⟩ := a
      exact ⟨b, o, by simpa [Addr.add] using hs⟩
    refine ⟨some a, n, c, fun i => (y i).1, fun i => (y i).2.1, fun i => (y i).2.2.1, fun i => (y i).2.2.2.1, fun i => (y i).2.2.2.2.1, fun i => (y i).2.2.2.2.2.1, fun i => (y i).2.2.2.2.2.2, rfl,
      ⟨fun r hr => ?_, fun r hr => (hy r hr).2.2.2.2.1, fun r hr => (hy r hr).2.2.2.2.2.1, fun r hr => (hy r hr).2.2.2.2.2.2.1, fun r hr => (hy r hr).2.2.2.2.2.2.2.1, fun r hr => (hy r hr).2.2.2.2.2.2.2.2.1, fun r hr => ?_, fun r hr => (hy r hr).2.2.2.2.2.2.2.2.2.2.1, fun r hr => (hy r hr).2.2.2.2.2.2.2.2.2.2.2⟩, hn⟩
    · obtain ⟨b, o, rfl⟩ := sp (by omega)
      obtain ⟨c0, c1, c2, c3, _⟩ := hy r hr
      rw [Addr.add_mid] at c0 c1 c2 c3
      rw [Addr.add_mid] at c1 c2 c3
      exact ⟨b, o, rfl, World.block_lt_of_cell? W _ c0, c0, c1, c2, c3⟩
    · have h1 := (hy r hr).2.2.2.2.2.2.2.2.1
      have h2 := (hy r hr).2.2.2.2.2.2.2.2.2.1
      unfold maxLen at h2
      omega
theorem contract (H : Type) (enc : TypeId × Value → H) (W : World) (base : Nat) (args : Array Value) (ds gs : List (DataW H)) (before : List MemPlace)
    (hval : ∀ (j : Nat) t v, Try.f4.params[j]? = some t → args[j]? = some v → Value.okWide Try.prog W .any base t v)
    (hW : DataW.Whole enc Try.prog Try.f4.params.toList Rows.packRowsSpec.vars false W args.toList ds gs before) (hk : Rows.uptoSmall H (ds ++ gs) = true) :
    Calls Try.prog 4 args W fun e W' => ∃ v, e = .returned v ∧ Rows.packRowsSpec.post enc Try.prog Try.f4 false true false false W args v W' := by
  have hW' := hW
  obtain ⟨p, q, hA0, hV, rfl, hfz, hnd⟩ := hW
  have hA : DataW.TrodAll enc Try.prog W 0 (fun _ => true) true Try.f4.params.toList args.toList ds p := hA0
  rw [Try.params4] at hA hval
  obtain ⟨v0, d0, rfl, rfl, h0⟩ := trodAll_one hA
  obtain ⟨rfl, rfl⟩ := trodVars_none hV
  have hb : Rows.uptoBulkAll [d0] ≤ 1048576 := by
    have := of_decide_eq_true hk
    simpa using this
  obtain ⟨q, n, c, Hw, Wd, V, A, L, C, X, rfl, hx, hn⟩ := open_parts (hval 0 37 v0 rfl rfl) h0 hb
  refine (rows_t q n c Hw Wd V A L C X W hx hn).mono fun e W' ⟨he, hbl⟩ => ?_
  subst he
  exact ⟨_, rfl, law_postG hW' (by kernel_rfl) rfl rfl (fun t ht => by
    rw [Try.params4] at ht
    have hall : ([37] : List Nat).all (fun u => Try.prog.readableRec u && decide (u < Try.prog.types.size)) = true := by kernel_rfl
    have h := List.all_eq_true.1 hall t (by simpa using ht)
    simpa using h) hbl⟩
set_option maxRecDepth 100000 in
theorem lifted (os : Os) (started : os.Started) (H : Type) (enc : TypeId × Value → H) (F : Stop.Interp) :
    ReturnsInHanded {} Try.checked os 4 .any ((Rows.OpenSpec.upto Rows.packRowsSpec).pre6 enc Try.prog Try.f4 Rows.packRowsUptoRow.domain false) (((Rows.OpenSpec.upto Rows.packRowsSpec).at F).post enc Try.prog Try.f4 false true false false) := by
  refine returnsInHanded_of_cond (C := Try.checked) (s := Rows.OpenSpec.upto Rows.packRowsSpec) (k := Rows.uptoSmall) rfl ownG started (by kernel_rfl) Try.func4
    (OpenSpec.witness (enc := enc) (C := Try.checked) (s := Rows.OpenSpec.upto Rows.packRowsSpec) (k := Rows.uptoSmall) rfl false ⟨#[], #[.slice none 0 0], []⟩ 8 (by kernel_rfl) (by kernel_rfl) (by kernel_rfl)
      (x := ([.nil], [], [])) (by kernel_rfl) rfl (by kernel_rfl)) ?_
  intro W base args ds gs before hval hW _ hk _
  exact contract H enc W base args ds gs before hval hW hk
theorem said : Rows.PackRowsUptoSaid :=
  OpenClaim.holds_of_cond 4 Try.f4 rfl rfl rfl rfl rfl rfl rfl ⟨rfl, rfl, rfl, rfl, rfl⟩ rfl rfl rfl rfl rfl (by kernel_rfl) Try.func4 (by kernel_rfl)
    (of_decide_eq_true (by kernel_rfl)) (by unfold Func.isWrapper; first | (rw [if_pos (by decide +kernel)]; kernel_rfl) | (rw [if_neg (by decide +kernel)]; exact ⟨rfl, rfl⟩))
    (fun os started H enc _ F => lifted os started H enc F)
end Go.Proofs.Ythgfghphceikbaa.packRows
