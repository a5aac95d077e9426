/-
  EQUALITY of secrets.
-/
import Derived.Test.YtbffbglbclkadaaDoorOtEq
namespace Go.Proofs.YtbffbglbclkadaaDoor
open Go Go.RowKit Sh

/-- '==' of a struct of two fields, field by field. -/
theorem eqIn_two {P : Program} (d : Nat) (t : TypeId) (f1 f2 : Field) (xs ys : Array Value) (a1 b1 a2 b2 : Value) (r1 r2 : Bool) (w : World)
    (hu : P.underlying t = some (.struct #[f1, f2])) (hs : P.stoodInHeld t = false) (n1 : f1.name ≠ "_") (n2 : f2.name ≠ "_")
    (p1 : (part f1.type xs f1.offset).run P w = .ok a1 w) (q1 : (part f1.type ys f1.offset).run P w = .ok b1 w)
    (p2 : (part f2.type xs f2.offset).run P w = .ok a2 w) (q2 : (part f2.type ys f2.offset).run P w = .ok b2 w)
    (e1 : (Op.equalIn d f1.type a1 b1).run P w = .ok r1 w) (e2 : (Op.equalIn d f2.type a2 b2).run P w = .ok r2 w) :
    (Op.equalIn (d + 1) t (.agg xs) (.agg ys)).run P w = .ok (r1 && r2) w := by
  have hst : ¬ (P.stoodInHeld t = true) := by rw [hs]; decide
  have hpr : (program).run P w = .ok P w := by unfold program; rfl
  unfold Op.equalIn
  simp only [Sem.run_bind, run_underlying hu, Result.andThen_ok, hpr]
  rw [if_neg hst]
  simp only [Sem.run_bind, List.forIn_toArray, List.forIn_cons, List.forIn_nil]
  rw [if_pos n1]
  simp only [Sem.run_bind, p1, q1, e1, Result.andThen_ok]
  cases r1 with
  | false => simp [Sem.run_pure, Result.andThen]
  | true =>
    simp only [Bool.not_true, Bool.false_eq_true, if_false, Sem.run_pure, Result.andThen_ok, Sem.run_bind]
    rw [if_pos n2]
    simp only [Sem.run_bind, p2, q2, e2, Result.andThen_ok]
    cases r2 <;> simp [Sem.run_pure, Result.andThen]
theorem sec_held : Tryd.prog.stoodInHeld 26 = false := by kernel_rfl
set_option maxRecDepth 100000 in
theorem part_I (X Y : List Nat) (hX : X.length = 16) (w : World) : (part 22 (u8s (X ++ Y)).toArray 0).run Tryd.prog w = .ok (.agg (u8s X).toArray) w := by
  have ha : (isAgg 22).run Tryd.prog w = .ok true w := by kernel_rfl
  have hz : (sizeOf 22).run Tryd.prog w = .ok 16 w := by kernel_rfl
  unfold part
  rw [Sem.run_bind, ha]
  simp only [Result.andThen, if_true, Sem.run_bind, hz, Sem.run_pure]
  congr 2
  rw [u8s_app]
  simp [u8s_length, hX]
set_option maxRecDepth 100000 in
theorem part_S (X Y : List Nat) (hX : X.length = 16) (hY : Y.length = 32) (w : World) : (part 24 (u8s (X ++ Y)).toArray 16).run Tryd.prog w = .ok (.agg (u8s Y).toArray) w := by
  have ha : (isAgg 24).run Tryd.prog w = .ok true w := by kernel_rfl
  have hz : (sizeOf 24).run Tryd.prog w = .ok 32 w := by kernel_rfl
  unfold part
  rw [Sem.run_bind, ha]
  simp only [Result.andThen, if_true, Sem.run_bind, hz, Sem.run_pure]
  congr 2
  rw [u8s_app]
  simp [u8s_length, hX, hY, List.take_of_length_le]
theorem eqIn_secret (d : Nat) (I seed J sd : List Nat) (hI : I.length = 16) (hJ : J.length = 16) (hs : seed.length = 32) (ht : sd.length = 32) (w : World) :
    (Op.equalIn (d + 3) 26 (.agg (u8s (I ++ seed)).toArray) (.agg (u8s (J ++ sd)).toArray)).run Tryd.prog w = .ok (decide (I = J) && decide (seed = sd)) w :=
  eqIn_two (d + 2) _ _ _ _ _ _ _ _ _ _ _ w Tryd.underlying26 sec_held (by decide) (by decide) (part_I I seed hI w) (part_I J sd hJ w) (part_S I seed hI hs w) (part_S J sd hJ ht w)
    (eqIn_u8s d 22 16 Tryd.underlying22 I J hI hJ w) (eqIn_u8s d 24 32 Tryd.underlying24 seed sd hs ht w)
theorem neq_secret (I seed J sd : List Nat) (hI : I.length = 16) (hJ : J.length = 16) (hs : seed.length = 32) (ht : sd.length = 32) (w : World) :
    (binOp .neq 26 (.agg (u8s (I ++ seed)).toArray) (.agg (u8s (J ++ sd)).toArray)).run Tryd.prog w = .ok (.bool (!(decide (I = J) && decide (seed = sd)))) w := by
  rw [run_neq_struct, eqIn_secret 9997 I seed J sd hI hJ hs ht w]
  rfl
end Go.Proofs.YtbffbglbclkadaaDoor
