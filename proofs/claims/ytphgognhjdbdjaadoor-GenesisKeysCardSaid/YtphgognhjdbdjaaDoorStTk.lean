/-
  LAYER 9: told.
-/
import Derived.Test.YtphgognhjdbdjaaDoorStJk
import Derived.Test.YtphgognhjdbdjaaDoorStDk
import Derived.Test.YtphgognhjdbdjaaDoorStEk
import Derived.Test.YtphgognhjdbdjaaDoorSpVk
namespace Go.Proofs.YtphgognhjdbdjaaDoor
open Go Go.RowKit Sh

theorem gsp_w (a b c : Int) (W : World) : SpW W (gsp a b c) :=
  ⟨RowL.nil, (fun y hy => by cases hy), RowL.nil, (fun y hy => by cases hy), rfl, (fun y hy => by
    simp only [gsp, List.mem_cons, List.not_mem_nil, or_false] at hy
    rcases hy with rfl | rfl | rfl | rfl <;> exact ⟨fun j hj => absurd hj (Nat.not_lt_zero j), Nat.zero_le _⟩), Nat.zero_le _, Nat.zero_le _⟩
end Go.Proofs.YtphgognhjdbdjaaDoor
