import Derived.Test.YtphgognhjdbdjaaDoorShaMk
namespace Go.Proofs.YtphgognhjdbdjaaDoor
open Go.RowKit Sh

theorem part_u8 (xs : List Nat) (k : Nat) (hk : k < xs.length) (w : World) : (part 5 (u8s xs).toArray k).run Tryd.prog w = .ok (.int .u8 ((gt xs k : Nat) : Int)) w := by
  have ha : (isAgg 5).run Tryd.prog w = .ok false w := by kernel_rfl
  unfold part
  rw [Sem.run_bind, ha]
  simp [Result.andThen, u8s_get xs k hk]
end Go.Proofs.YtphgognhjdbdjaaDoor
