/-
  OtsArgs walked.
-/
import Derived.Test.YtkcjiidimmefdaaGreatDoorOtE
namespace Go.Proofs.YtkcjiidimmefdaaGreatDoor
open Go Go.RowKit Sh

theorem wide_cases (n : Int) : (∃ i, i < 4 ∧ n = ((kd i).w : Int)) ∨ ∀ i, i < 4 → n ≠ ((kd i).w : Int) := by
  by_cases h : ∃ i, i < 4 ∧ n = ((kd i).w : Int)
  · exact .inl h
  · exact .inr fun i hi e => h ⟨i, hi, e⟩
/-- A whole block is loaded where a guard says yes. -/
theorem load_blk_g {P : Program} {ops : Array Oper} {rest : List Oper} {o : Oper} {a : Act} {w : World} {Q : Exit → Act → World → Prop} (ty : TypeId) (x : Operand) (g : Nat) (t : TypeId) (cs : List Value) (d : TypeDesc)
    (hw : Region.wanted o (yielded ops a.tmps) = true) (ho : o.op = .load ty x) (hg : Blk w g t cs) (hu : P.underlying ty = some d) (hd : d.isRow = true) (hi : (P.info? ty).map (·.size) = some cs.length)
    (hx : a.eval x = .pointer (some ⟨g, 0, none⟩)) (h : wpList P ops Q rest (a.put o.dst (.agg cs.toArray)) w) : wpList P ops Q (o :: rest) a w :=
  BigFrame.wpList_want hw fun _ hK => wload_part ty x g 0 t [] cs [] d ho (by simpa using hg) rfl hu hd hi hx (hK _ _ h)
theorem size48 (l : List Nat) (h : l.length = 48) : (Tryz.prog.info? 27).map (·.size) = some (u8s l).length := by
  rw [u8s_length, h]
  kernel_rfl
theorem size16 (l : List Nat) (h : l.length = 16) : (Tryz.prog.info? 23).map (·.size) = some (u8s l).length := by
  rw [u8s_length, h]
  kernel_rfl
end Go.Proofs.YtkcjiidimmefdaaGreatDoor
