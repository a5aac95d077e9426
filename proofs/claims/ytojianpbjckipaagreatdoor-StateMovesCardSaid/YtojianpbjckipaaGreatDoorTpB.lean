/-
  PACKAGE tuple: equality of fields; takes.
-/
import Derived.Test.YtojianpbjckipaaGreatDoorTpA
import Derived.Laws.StructEq
namespace Go.Proofs.YtojianpbjckipaaGreatDoor
open Go Go.RowKit Sh

/-- Are they the same, in all parts? -/
def sameF (a b : Fld) : Bool := (a.k == b.k) && ((a.n == b.n) && (a.s.toList == b.s.toList))
theorem sameF_iff (a b : Fld) : sameF a b = true ↔ a = b := by
  obtain ⟨k, n, s⟩ := a
  obtain ⟨k', n', s'⟩ := b
  have h : (s.toList == s'.toList) = true ↔ s = s' := by
    rw [beq_iff_eq, ByteArray.toList_eq, ByteArray.toList_eq]
    constructor
    · intro h
      cases s; cases s'
      exact congrArg ByteArray.mk (Array.toList_inj.1 h)
    · rintro rfl; rfl
  simp only [sameF, Bool.and_eq_true, beq_iff_eq, h, Fld.mk.injEq]
/-- '==' of a struct of three fields, field by field. -/
theorem eqIn_three {P : Program} (d : Nat) (t : TypeId) (f1 f2 f3 : Field) (xs ys : Array Value) (a1 b1 a2 b2 a3 b3 : Value) (r1 r2 r3 : Bool) (w : World)
    (hu : P.underlying t = some (.struct #[f1, f2, f3])) (hs : P.stoodInHeld t = false) (n1 : f1.name ≠ "_") (n2 : f2.name ≠ "_") (n3 : f3.name ≠ "_")
    (p1 : (part f1.type xs f1.offset).run P w = .ok a1 w) (q1 : (part f1.type ys f1.offset).run P w = .ok b1 w)
    (p2 : (part f2.type xs f2.offset).run P w = .ok a2 w) (q2 : (part f2.type ys f2.offset).run P w = .ok b2 w)
    (p3 : (part f3.type xs f3.offset).run P w = .ok a3 w) (q3 : (part f3.type ys f3.offset).run P w = .ok b3 w)
    (e1 : (Op.equalIn d f1.type a1 b1).run P w = .ok r1 w) (e2 : (Op.equalIn d f2.type a2 b2).run P w = .ok r2 w) (e3 : (Op.equalIn d f3.type a3 b3).run P w = .ok r3 w) :
    (Op.equalIn (d + 1) t (.agg xs) (.agg ys)).run P w = .ok (r1 && (r2 && r3)) w := by
  have hf : P.fieldsOf t = #[f1, f2, f3] := by unfold Program.fieldsOf; rw [hu]
  rw [run_equalIn_struct w d t xs ys (by rw [hf]; exact hu) hs, hf]
  simp only [Op.eqFields, ne_eq, n1, n2, n3, not_false_eq_true, if_true, Sem.run_bind, p1, q1, e1, Result.andThen_ok]
  cases r1 with
  | false => simp [Sem.run_pure]
  | true =>
    simp only [Bool.not_true, Bool.false_eq_true, if_false, Sem.run_bind, p2, q2, e2, Result.andThen_ok]
    cases r2 with
    | false => simp [Sem.run_pure]
    | true =>
      simp only [Bool.not_true, Bool.false_eq_true, if_false, Sem.run_bind, p3, q3, e3, Result.andThen_ok]
      cases r3 <;> simp [Sem.run_pure]
theorem fld_held : Tryz.prog.stoodInHeld 131 = false := by kernel_rfl
theorem part0 (f : Fld) (w : World) : (part 3 (fv f).toArray 0).run Tryz.prog w = .ok (.int .i64 f.k) w := by
  have ha : (isAgg 3).run Tryz.prog w = .ok false w := by kernel_rfl
  unfold part
  rw [Sem.run_bind, ha]
  rfl
theorem part1 (f : Fld) (w : World) : (part 2 (fv f).toArray 1).run Tryz.prog w = .ok (.int .i64 f.n) w := by
  have ha : (isAgg 2).run Tryz.prog w = .ok false w := by kernel_rfl
  unfold part
  rw [Sem.run_bind, ha]
  rfl
theorem part2 (f : Fld) (w : World) : (part 9 (fv f).toArray 2).run Tryz.prog w = .ok (.string f.s) w := by
  have ha : (isAgg 9).run Tryz.prog w = .ok false w := by kernel_rfl
  unfold part
  rw [Sem.run_bind, ha]
  rfl
theorem eqIn_fld (d : Nat) (a b : Fld) (w : World) : (Op.equalIn (d + 2) 131 (.agg (fv a).toArray) (.agg (fv b).toArray)).run Tryz.prog w = .ok (sameF a b) w :=
  eqIn_three (d + 1) _ _ _ _ _ _ _ _ _ _ _ _ _ _ _ w Tryz.underlying131 fld_held (by decide) (by decide) (by decide) (part0 a w) (part0 b w) (part1 a w) (part1 b w) (part2 a w) (part2 b w)
    (run_equalIn_int w d 3 .i64 .i64 _ _ Tryz.underlying3) (run_equalIn_int w d 2 .i64 .i64 _ _ Tryz.underlying2) (run_equalIn_string w d 9 _ _ Tryz.underlying9)
theorem eql_fld (a b : Fld) (w : World) : (binOp .eql 131 (.agg (fv a).toArray) (.agg (fv b).toArray)).run Tryz.prog w = .ok (.bool (sameF a b)) w := by
  rw [run_eql_struct, eqIn_fld 9998 a b w]
  rfl
/-- Does a template's field match a tuple's? -/
def takesB (p t : Fld) : Bool := if p.k = 3 then t.k == 1 else if p.k = 4 then t.k == 2 else if p.k = 5 then true else sameF p t

set_option maxRecDepth 100000 in
theorem takes_t (p t : Fld) (w : World) : Calls Tryz.prog 155 #[.agg (fv p).toArray, .agg (fv t).toArray] w fun e w' => e = .returned (.bool (takesB p t)) ∧ Below w.heap.size w w' := by
  have EQ := eql_fld p t
  have FP := Lib.hid (fv_size p); have FT := Lib.hid (fv_size t)
  have BP := Lib.hid ((Blk.new w 131 (fv p)).alloc (.cells (fv t).toArray 131))
  have BT := Lib.hid (Blk.new2 w (.cells (fv p).toArray 131) 131 (fv t))
  have BW := Lib.hid (((Below.refl w.heap.size w).alloc (Nat.le_refl _) (.cells (fv p).toArray 131)).alloc (by simp) (.cells (fv t).toArray 131))
  have c0 : ((w.alloc (.cells (fv p).toArray 131)).alloc (.cells (fv t).toArray 131)).cell? ⟨w.heap.size, 0, none⟩ = some (.int .i64 p.k) := BP.out.cell 0
  have c1 : ((w.alloc (.cells (fv p).toArray 131)).alloc (.cells (fv t).toArray 131)).cell? ⟨w.heap.size + 1, 0, none⟩ = some (.int .i64 t.k) := BT.out.cell 0
  obtain ⟨r, hr⟩ : ∃ r, sameF p t = r := ⟨_, rfl⟩
  have hT : takesB p t = if p.k = 3 then t.k == 1 else if p.k = 4 then t.k == 2 else if p.k = 5 then true else r := by rw [← hr]; rfl
  rw [hT]
  rw [hr] at EQ
  obtain ⟨cp, hcp⟩ : ∃ cs, fv p = cs := ⟨_, rfl⟩
  obtain ⟨ct, hct⟩ : ∃ cs, fv t = cs := ⟨_, rfl⟩
  obtain ⟨k, hk⟩ : ∃ k, p.k = k := ⟨_, rfl⟩
  obtain ⟨k2, hk2⟩ : ∃ k, t.k = k := ⟨_, rfl⟩
  rw [hcp, hct] at EQ BP BT BW c0 c1
  rw [hcp] at FP ⊢
  rw [hct] at FT ⊢
  rw [hk] at c0 ⊢
  rw [hk2] at c1 ⊢
  clear hT hr hcp hct hk hk2
  by_cases h3 : k = 3
  · subst h3
    clear EQ
    go_enter Tryz.func155, Tryz.ntmps155
    go_wp2
    go_ret
    exact ⟨by simp, BW.out⟩
  · have e3 : (k == 3) = false := by rw [beq_eq_false_iff_ne]; exact h3
    rw [if_neg h3]
    by_cases h4 : k = 4
    · subst h4
      clear EQ h3
      go_enter Tryz.func155, Tryz.ntmps155
      go_wp2
      go_ret
      exact ⟨by simp, BW.out⟩
    · have e4 : (k == 4) = false := by rw [beq_eq_false_iff_ne]; exact h4
      rw [if_neg h4]
      by_cases h5 : k = 5
      · subst h5
        clear EQ h3 h4
        go_enter Tryz.func155, Tryz.ntmps155
        go_wp2
        go_ret
        exact ⟨by simp, BW.out⟩
      · have e5 : (k == 5) = false := by rw [beq_eq_false_iff_ne]; exact h5
        rw [if_neg h5]
        clear h3 h4 h5
        go_enter Tryz.func155, Tryz.ntmps155
        go_wp2_with (first
          | ((with_reducible refine load_blk 131 (.tmp 2) w.heap.size 131 cp _ rfl rfl ?_ Tryz.underlying131 ?_ ?_ ?_ ?_); exact BP.out; exact rfl; exact FP.out; exact rfl)
          | ((with_reducible refine load_blk 131 (.tmp 3) (w.heap.size + 1) 131 ct _ rfl rfl ?_ Tryz.underlying131 ?_ ?_ ?_ ?_); exact BT.out; exact rfl; exact FT.out; exact rfl))
        go_ret
        exact ⟨rfl, BW.out⟩
end Go.Proofs.YtojianpbjckipaaGreatDoor
