/-
  PackTexts: for every row of texts and every length asked for the law answers true, and its arguments read as they did. (No condition.)
-/
import Derived.Test.YthgfghphceikbaaPkTexts
import Derived.Test.YthgfghphceikbaaRowG
namespace Go.Proofs.Ythgfghphceikbaa.packTexts
open Go.ChangeShapes Go.WideShapes Go.ChangeAt Go.RowKit Go.Deep Sh

theorem cellsRow : Try.prog.cellsOf 27 = 1 := by kernel_rfl
/-- A [][]byte that came in. -/
theorem open_texts {H : Type} {enc : TypeId × Value → H} {W : World} {base : Nat} {v : Value} {d : DataW H} {p : List MemPlace} (hval : Value.okWide Try.prog W .any base 22 v) (h : DataW.Trod enc Try.prog W 0 (fun _ => true) true 22 v d p) :
    ∃ (q : Option Addr) (n c : Nat) (A : Nat → Option Addr) (L C : Nat → Nat) (X : Nat → List Nat), v = .slice q n c ∧ Texts W q n A L C X ∧ n ≤ maxLen := by
  obtain ⟨q, n, c, rfl⟩ : ∃ A n c, v = .slice A n c := by
    cases v <;> simp [Value.okWide, Cell.okWide, Cell.ok, Try.underlying22] at hval ⊢
  obtain ⟨fuel, hf⟩ := h
  rcases open_int_rows Try.underlying22 Try.underlying27 Try.underlying5 cellsRow cellsU8 hf with ⟨hcs, _⟩ | ⟨a, len, cap, A, L, C, Z, hcs, _, hl, hm, _, hx⟩
  · simp [Value.cells] at hcs
    obtain ⟨rfl, rfl, rfl⟩ := hcs
    exact ⟨none, 0, 0, fun _ => none, fun _ => 0, fun _ => 0, fun _ => [], rfl, ⟨fun r hr => by omega, fun r hr => by omega, fun r hr => by omega, fun r hr => by omega, fun r hr => by omega, fun r hr => by omega⟩, Nat.zero_le _⟩
  · simp [Value.cells] at hcs
    obtain ⟨rfl, rfl, rfl⟩ := hcs
    have sp : ∀ r, r < n → ∃ b o, a = ⟨b, o, none⟩ := fun r hr => by
      have hs := World.cell?_spot (hx 0 (by omega)).1
      obtain ⟨b, o, s⟩ := a
      exact ⟨b, o, by simpa [Addr.add] using hs⟩
    refine ⟨some a, n, c, A, L, C, fun r => ((Z r).take (L r)).map Int.toNat, rfl, ⟨fun r hr => ?_, fun r hr => ?_, fun r hr => ?_, fun r hr => ?_, fun r hr => ?_, fun r hr => ?_⟩, by omega⟩
    · obtain ⟨b, o, rfl⟩ := sp r hr
      have hc := (hx r (by omega)).1
      rw [Addr.add_mid] at hc
      exact ⟨b, o, rfl, World.block_lt_of_cell? W _ hc, hc⟩
    all_goals obtain ⟨_, r1, r2, r3, r4, r5, r6⟩ := hx r (by omega)
    · exact (nats_of (Z r) r4 (L r) (by omega)).1
    · exact r1
    · unfold maxLen at r2; omega
    · intro h0
      obtain ⟨h1, _, h3⟩ := nats_of (Z r) r4 (L r) (by omega)
      rw [h1] at h0
      cases hA : A r with
      | none => have := r5 hA; omega
      | some a' =>
        obtain ⟨_, hc⟩ := r6 a' hA
        have hs := World.cell?_spot (hc 0 (by omega))
        obtain ⟨b, o, s⟩ := a'
        have hsp : s = none := by simpa [Addr.add] using hs
        subst hsp
        refine ⟨b, o, rfl, World.block_lt_of_cell? W _ (hc 0 (by omega)), fun j hj => ?_⟩
        rw [h1] at hj
        have h6 := hc j (by omega)
        rw [Addr.add_mid] at h6
        rw [h6, h3 j hj]
    · exact (nats_of (Z r) r4 (L r) (by omega)).2.1
theorem contract (H : Type) (enc : TypeId × Value → H) (W : World) (base : Nat) (args : Array Value) (ds gs : List (DataW H)) (before : List MemPlace)
    (hval : ∀ (j : Nat) t v, Try.f3.params[j]? = some t → args[j]? = some v → Value.okWide Try.prog W .any base t v)
    (hW : DataW.Whole enc Try.prog Try.f3.params.toList Rows.packTextsSpec.vars false W args.toList ds gs before) :
    Calls Try.prog 3 args W fun e W' => ∃ v, e = .returned v ∧ Rows.packTextsSpec.post enc Try.prog Try.f3 false true false false W args v W' := by
  have hW' := hW
  obtain ⟨p, q, hA0, hV, rfl, hfz, hnd⟩ := hW
  have hA : DataW.TrodAll enc Try.prog W 0 (fun _ => true) true Try.f3.params.toList args.toList ds p := hA0
  rw [Try.params3] at hA hval
  obtain ⟨v0, v1, d0, d1, p0, p1, rfl, rfl, rfl, h0, h1⟩ := trodAll_two hA
  obtain ⟨rfl, rfl⟩ := trodVars_none hV
  obtain ⟨q, n, c, A, L, C, X, rfl, hx, hn⟩ := open_texts (hval 0 22 v0 rfl rfl) h0
  obtain ⟨n1, rfl, rfl, rfl, w1⟩ := open_int Try.underlying3 (hval 1 3 v1 rfl rfl) h1
  refine (texts_t q n c n1 A L C X W (bounds_i64 w1) hx (by unfold maxLen at hn; omega)).mono fun e W' ⟨he, hbl⟩ => ?_
  subst he
  exact ⟨_, rfl, law_postG hW' (by kernel_rfl) rfl rfl (fun t ht => by
    rw [Try.params3] at ht
    have hall : ([22, 3] : List Nat).all (fun u => Try.prog.readableRec u && decide (u < Try.prog.types.size)) = true := by kernel_rfl
    have h := List.all_eq_true.1 hall t (by simpa using ht)
    simpa using h) hbl⟩
set_option maxRecDepth 100000 in
theorem lifted (os : Os) (started : os.Started) (H : Type) (enc : TypeId × Value → H) :
    ReturnsInHanded {} Try.checked os 3 .any (Rows.packTextsSpec.pre6 enc Try.prog Try.f3 Rows.packTextsRow.domain false) (Rows.packTextsSpec.post enc Try.prog Try.f3 false true false false) := by
  refine returnsInHanded_of_change (C := Try.checked) ownG started (by kernel_rfl) Try.func3
    (ChangeSpec.witness6 (enc := enc) (C := Try.checked) false ⟨#[], #[.slice none 0 0, .int .i64 0], []⟩ 8 (by kernel_rfl) (by kernel_rfl) (by kernel_rfl) (by kernel_rfl)) ?_
  intro W base args ds gs before hval hW _ _
  exact contract H enc W base args ds gs before hval hW
theorem said : Rows.PackTextsSaid :=
  OpenClaim.holds_of_wide 3 Try.f3 rfl rfl rfl rfl rfl rfl rfl ⟨rfl, rfl, rfl, rfl, rfl⟩ rfl rfl rfl rfl rfl (by kernel_rfl) Try.func3 (by kernel_rfl)
    (of_decide_eq_true (by kernel_rfl)) (by unfold Func.isWrapper; first | (rw [if_pos (by decide +kernel)]; kernel_rfl) | (rw [if_neg (by decide +kernel)]; exact ⟨rfl, rfl⟩))
    (fun os started H enc _ => lifted os started H enc)
end Go.Proofs.Ythgfghphceikbaa.packTexts
