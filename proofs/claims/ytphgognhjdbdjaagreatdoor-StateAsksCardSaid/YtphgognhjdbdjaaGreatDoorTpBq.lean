/-
  PACKAGE tuple: equality of fields; takes.
-/
import Derived.Test.YtphgognhjdbdjaaGreatDoorTpAq
import Derived.Laws.StructEq
namespace Go.Proofs.YtphgognhjdbdjaaGreatDoor
open Go Go.RowKit Sh

/-- Are they the same, in all parts? -/
def sameF (a b : Fld) : Bool := (a.k == b.k) && ((a.n == b.n) && (a.s.toList == b.s.toList))
theorem sameF_iff (a b : Fld) : sameF a b = true ↔ a = b := by
  obtain ⟨k, n, s⟩ := a
  obtain ⟨k', n', s'⟩ := b
  have h : (s.toList == s'.toList) = true ↔ s = s' := by
    rw [beq_iff_eq, ByteArray.toList_eq, ByteArray.toList_eq]
    constructor
    · intro h
      cases s; cases s'
      exact congrArg ByteArray.mk (Array.toList_inj.1 h)
    · rintro rfl; rfl
  simp only [sameF, Bool.and_eq_true, beq_iff_eq, h, Fld.mk.injEq]
/-- '==' of a struct of three fields, field by field. -/
theorem eqIn_three {P : Program} (d : Nat) (t : TypeId) (f1 f2 f3 : Field) (xs ys : Array Value) (a1 b1 a2 b2 a3 b3 : Value) (r1 r2 r3 : Bool) (w : World)
    (hu : P.underlying t = some (.struct #[f1, f2, f3])) (hs : P.stoodInHeld t = false) (n1 : f1.name ≠ "_") (n2 : f2.name ≠ "_") (n3 : f3.name ≠ "_")
    (p1 : (part f1.type xs f1.offset).run P w = .ok a1 w) (q1 : (part f1.type ys f1.offset).run P w = .ok b1 w)
    (p2 : (part f2.type xs f2.offset).run P w = .ok a2 w) (q2 : (part f2.type ys f2.offset).run P w = .ok b2 w)
    (p3 : (part f3.type xs f3.offset).run P w = .ok a3 w) (q3 : (part f3.type ys f3.offset).run P w = .ok b3 w)
    (e1 : (Op.equalIn d f1.type a1 b1).run P w = .ok r1 w) (e2 : (Op.equalIn d f2.type a2 b2).run P w = .ok r2 w) (e3 : (Op.equalIn d f3.type a3 b3).run P w = .ok r3 w) :
    (Op.equalIn (d + 1) t (.agg xs) (.agg ys)).run P w = .ok (r1 && (r2 && r3)) w := by
  have hf : P.fieldsOf t = #[f1, f2, f3] := by unfold Program.fieldsOf; rw [hu]
  rw [run_equalIn_struct w d t xs ys (by rw [hf]; exact hu) hs, hf]
  simp only [Op.eqFields, ne_eq, n1, n2, n3, not_false_eq_true, if_true, Sem.run_bind, p1, q1, e1, Result.andThen_ok]
  cases r1 with
  | false => simp [Sem.run_pure]
  | true =>
    simp only [Bool.not_true, Bool.false_eq_true, if_false, Sem.run_bind, p2, q2, e2, Result.andThen_ok]
    cases r2 with
    | false => simp [Sem.run_pure]
    | true =>
      simp only [Bool.not_true, Bool.false_eq_true, if_false, Sem.run_bind, p3, q3, e3, Result.andThen_ok]
      cases r3 <;> simp [Sem.run_pure]
theorem fld_held : Tryz.prog.stoodInHeld 172 = false := by kernel_rfl
theorem part0 (f : Fld) (w : World) : (part 3 (fv f).toArray 0).run Tryz.prog w = .ok (.int .i64 f.k) w := by
  have ha : (isAgg 3).run Tryz.prog w = .ok false w := by kernel_rfl
  unfold part
  rw [Sem.run_bind, ha]
  rfl
theorem part1 (f : Fld) (w : World) : (part 2 (fv f).toArray 1).run Tryz.prog w = .ok (.int .i64 f.n) w := by
  have ha : (isAgg 2).run Tryz.prog w = .ok false w := by kernel_rfl
  unfold part
  rw [Sem.run_bind, ha]
  rfl
theorem part2 (f : Fld) (w : World) : (part 9 (fv f).toArray 2).run Tryz.prog w = .ok (.string f.s) w := by
  have ha : (isAgg 9).run Tryz.prog w = .ok false w := by kernel_rfl
  unfold part
  rw [Sem.run_bind, ha]
  rfl
theorem eqIn_fld (d : Nat) (a b : Fld) (w : World) : (Op.equalIn (d + 2) 172 (.agg (fv a).toArray) (.agg (fv b).toArray)).run Tryz.prog w = .ok (sameF a b) w :=
  eqIn_three (d + 1) _ _ _ _ _ _ _ _ _ _ _ _ _ _ _ w Tryz.underlying172 fld_held (by decide) (by decide) (by decide) (part0 a w) (part0 b w) (part1 a w) (part1 b w) (part2 a w) (part2 b w)
    (run_equalIn_int w d 3 .i64 .i64 _ _ Tryz.underlying3) (run_equalIn_int w d 2 .i64 .i64 _ _ Tryz.underlying2) (run_equalIn_string w d 9 _ _ Tryz.underlying9)
/-- Does a template's field match a tuple's? -/
def takesB (p t : Fld) : Bool := if p.k = 3 then t.k == 1 else if p.k = 4 then t.k == 2 else if p.k = 5 then true else sameF p t

end Go.Proofs.YtphgognhjdbdjaaGreatDoor
