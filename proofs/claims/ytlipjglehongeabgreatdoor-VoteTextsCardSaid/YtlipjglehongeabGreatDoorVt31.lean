/-
  LAW 8
  LAYER 9
-/
import Derived.Test.YtlipjglehongeabGreatDoorVt25
import Derived.Test.YtlipjglehongeabGreatDoorVt30
import Derived.Test.YtlipjglehongeabGreatDoorVt26
import Derived.Test.YtlipjglehongeabGreatDoorVt29
namespace Go.Proofs.YtlipjglehongeabGreatDoor
open Go Go.RowKit Sh

def fA : Fld := ⟨5, 0, eS⟩
def fI (n : Int) : Fld := ⟨1, n, eS⟩
def q1 : Rq := ⟨0, 1, 5, 0, 1, fun _ => fA, 0, fun _ => f0⟩
def q2 : Rq := ⟨1, 1, 1, 9, 0, fun _ => f0, 1, fun _ => fI 4⟩
structure KSp (W : World) (g : Nat) (x : Spv) : Prop where
  box : Blk W g 75 (sv x)
  w : SpW W x
theorem KSp.new {w1 : World} {x : Spv} (h : SpW w1 x) : KSp ((w1.alloc (.cells #[.int .i64 0, .slice none 0 0, .slice none 0 0, .int .i64 0, .int .i64 0, .int .i64 0, .int .i64 0, .int .i64 0, .slice none 0 0, .bool false, .int .i64 0, .int .i64 0, .int .i64 0, .slice none 0 0, .bool false, .int .i64 0, .int .i64 0, .int .i64 0, .slice none 0 0, .bool false, .int .i64 0, .int .i64 0, .int .i64 0, .slice none 0 0, .bool false] 75)).setRow w1.heap.size (sv x).toArray) w1.heap.size x ∧ Below w1.heap.size w1 ((w1.alloc (.cells #[.int .i64 0, .slice none 0 0, .slice none 0 0, .int .i64 0, .int .i64 0, .int .i64 0, .int .i64 0, .int .i64 0, .slice none 0 0, .bool false, .int .i64 0, .int .i64 0, .int .i64 0, .slice none 0 0, .bool false, .int .i64 0, .int .i64 0, .int .i64 0, .slice none 0 0, .bool false, .int .i64 0, .int .i64 0, .int .i64 0, .slice none 0 0, .bool false] 75)).setRow w1.heap.size (sv x).toArray) := by
  have b := below_setRow (g := w1.heap.size) ((Below.refl w1.heap.size w1).alloc (Nat.le_refl _) (.cells #[.int .i64 0, .slice none 0 0, .slice none 0 0, .int .i64 0, .int .i64 0, .int .i64 0, .int .i64 0, .int .i64 0, .slice none 0 0, .bool false, .int .i64 0, .int .i64 0, .int .i64 0, .slice none 0 0, .bool false, .int .i64 0, .int .i64 0, .int .i64 0, .slice none 0 0, .bool false, .int .i64 0, .int .i64 0, .int .i64 0, .slice none 0 0, .bool false] 75)) (Nat.le_refl _) (sv x).toArray
  exact ⟨⟨(Blk.new w1 75 [.int .i64 0, .slice none 0 0, .slice none 0 0, .int .i64 0, .int .i64 0, .int .i64 0, .int .i64 0, .int .i64 0, .slice none 0 0, .bool false, .int .i64 0, .int .i64 0, .int .i64 0, .slice none 0 0, .bool false, .int .i64 0, .int .i64 0, .int .i64 0, .slice none 0 0, .bool false, .int .i64 0, .int .i64 0, .int .i64 0, .slice none 0 0, .bool false]).setRow (sv x), h.below b⟩, b⟩
end Go.Proofs.YtlipjglehongeabGreatDoor
namespace Go.Proofs.YtlipjglehongeabGreatDoor
open Go Go.RowKit Sh

def nS9 : Sp := newS 15 7
theorem in9 : InS nS9 := by
  refine ⟨fun i hi => ?_, fun i hi => ?_, fun r hr f hf => ?_⟩
  · cases hi
  · cases hi
  · simp only [nS9, newS, List.mem_cons, List.not_mem_nil, or_false] at hr
    rcases hr with rfl | rfl | rfl | rfl <;> cases hf
theorem gsp_w (a b c : Int) (W : World) : SpW W (gsp a b c) :=
  ⟨RowL.nil, (fun y hy => by cases hy), RowL.nil, (fun y hy => by cases hy), rfl, (fun y hy => by
    simp only [gsp, List.mem_cons, List.not_mem_nil, or_false] at hy
    rcases hy with rfl | rfl | rfl | rfl <;> exact ⟨fun j hj => absurd hj (Nat.not_lt_zero j), Nat.zero_le _⟩), Nat.zero_le _, Nat.zero_le _⟩
end Go.Proofs.YtlipjglehongeabGreatDoor
