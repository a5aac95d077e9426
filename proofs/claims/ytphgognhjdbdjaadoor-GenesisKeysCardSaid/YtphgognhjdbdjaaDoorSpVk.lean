/-
  LAW 8: told.
-/
import Derived.Test.YtphgognhjdbdjaaDoorSpUk
import Derived.Test.YtphgognhjdbdjaaDoorSpGk
namespace Go.Proofs.YtphgognhjdbdjaaDoor
open Go Go.RowKit Sh

def fA : Fld := ⟨5, 0, eS⟩
def fI (n : Int) : Fld := ⟨1, n, eS⟩
def q1 : Rq := ⟨0, 1, 5, 0, 1, fun _ => fA, 0, fun _ => f0⟩
def q2 : Rq := ⟨1, 1, 1, 9, 0, fun _ => f0, 1, fun _ => fI 4⟩
/-- A space kept in a block of its own. -/
structure KSp (W : World) (g : Nat) (x : Spv) : Prop where
  box : Blk W g 46 (sv x)
  w : SpW W x
theorem KSp.below {W W' : World} {g : Nat} {x : Spv} (h : KSp W g x) (hb : Below W.heap.size W W') : KSp W' g x := ⟨h.box.below hb h.box.lt, h.w.below hb⟩
theorem KSp.new {w1 : World} {x : Spv} (h : SpW w1 x) : KSp ((w1.alloc (.cells #[.int .i64 0, .slice none 0 0, .slice none 0 0, .int .i64 0, .int .i64 0, .int .i64 0, .int .i64 0, .int .i64 0, .slice none 0 0, .bool false, .int .i64 0, .int .i64 0, .int .i64 0, .slice none 0 0, .bool false, .int .i64 0, .int .i64 0, .int .i64 0, .slice none 0 0, .bool false, .int .i64 0, .int .i64 0, .int .i64 0, .slice none 0 0, .bool false] 46)).setRow w1.heap.size (sv x).toArray) w1.heap.size x ∧ Below w1.heap.size w1 ((w1.alloc (.cells #[.int .i64 0, .slice none 0 0, .slice none 0 0, .int .i64 0, .int .i64 0, .int .i64 0, .int .i64 0, .int .i64 0, .slice none 0 0, .bool false, .int .i64 0, .int .i64 0, .int .i64 0, .slice none 0 0, .bool false, .int .i64 0, .int .i64 0, .int .i64 0, .slice none 0 0, .bool false, .int .i64 0, .int .i64 0, .int .i64 0, .slice none 0 0, .bool false] 46)).setRow w1.heap.size (sv x).toArray) := by
  have b := below_setRow (g := w1.heap.size) ((Below.refl w1.heap.size w1).alloc (Nat.le_refl _) (.cells #[.int .i64 0, .slice none 0 0, .slice none 0 0, .int .i64 0, .int .i64 0, .int .i64 0, .int .i64 0, .int .i64 0, .slice none 0 0, .bool false, .int .i64 0, .int .i64 0, .int .i64 0, .slice none 0 0, .bool false, .int .i64 0, .int .i64 0, .int .i64 0, .slice none 0 0, .bool false, .int .i64 0, .int .i64 0, .int .i64 0, .slice none 0 0, .bool false] 46)) (Nat.le_refl _) (sv x).toArray
  exact ⟨⟨(Blk.new w1 46 [.int .i64 0, .slice none 0 0, .slice none 0 0, .int .i64 0, .int .i64 0, .int .i64 0, .int .i64 0, .int .i64 0, .slice none 0 0, .bool false, .int .i64 0, .int .i64 0, .int .i64 0, .slice none 0 0, .bool false, .int .i64 0, .int .i64 0, .int .i64 0, .slice none 0 0, .bool false, .int .i64 0, .int .i64 0, .int .i64 0, .slice none 0 0, .bool false]).setRow (sv x), h.below b⟩, b⟩
end Go.Proofs.YtphgognhjdbdjaaDoor
