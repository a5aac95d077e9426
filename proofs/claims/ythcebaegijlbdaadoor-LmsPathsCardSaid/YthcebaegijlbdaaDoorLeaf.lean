/-
  THE WALKS of package sha's small functions: turn and the four sigmas come to the plain functions of Pure.
-/
import Derived.Test.YthcebaegijlbdaaDoorPureB
import Derived.Test.YthcebaegijlbdaaDoorProg
import Derived.WalkKit
import Derived.WalkSpells
import Derived.WalkLawsBesides
namespace Go.Proofs.YthcebaegijlbdaaDoor
open Go.RowKit
/-- A contract that leaves the world alone, in the form in which a region asks it. -/
theorem flip {P : Program} {f : FuncId} {args : Array Value} {w : World} {v : Value} (h : Calls P f args w fun e w' => e = .returned v ∧ w = w') : Calls P f args w fun e w' => e = .returned v ∧ w' = w :=
  h.mono fun _ _ ⟨a, b⟩ => ⟨a, b.symm⟩
theorem ret_u32 {a : Int} {b : Nat} (h : a = (b : Int)) : Ending.returned (.int .u32 a) = .returned (.int .u32 (b : Int)) := by rw [h]
set_option maxHeartbeats 400000 in
theorem turn_t (x n : Nat) (w : World) (hx : x < 4294967296) (hn2 : n ≤ 32) :
    Calls Tryd.prog 100 #[.int .u32 x, .int .u64 n] w fun e w' => e = .returned (.int .u32 (Sh.rotr x n : Nat)) ∧ w = w' := by
  go_enter Tryd.func100, Tryd.ntmps100
  go_wp2
  go_ret
  exact ⟨ret_u32 (Sh.rotr_int x n hx), rfl⟩
theorem turn_i (x : Nat) (n : Int) (w : World) (hx : x < 4294967296) (hn : 0 ≤ n) (hn2 : n ≤ 32) :
    Calls Tryd.prog 100 #[.int .u32 x, .int .u64 n] w fun e w' => e = .returned (.int .u32 (Sh.rotr x n.toNat : Nat)) ∧ w = w' := by
  obtain ⟨m, rfl⟩ := Int.eq_ofNat_of_zero_le hn
  exact turn_t x m w hx (by omega)
set_option maxHeartbeats 400000 in
theorem bigSigma0_t (x : Nat) (w : World) (hx : x < 4294967296) :
    Calls Tryd.prog 88 #[.int .u32 x] w fun e w' => e = .returned (.int .u32 (Sh.bS0 x : Nat)) ∧ w = w' := by
  go_enter Tryd.func88, Tryd.ntmps88
  go_wp2_with (go_at_call 100; refine (turn_i _ _ _ hx (by decide) (by decide)).mono ?_; rintro e w' ⟨rfl, rfl⟩)
  go_ret
  refine ⟨ret_u32 ?_, rfl⟩
  rw [Sh.bits_xor _ _ (Sh.rotr_lt _ hx) (Sh.rotr_lt _ hx), Sh.bits_xor _ _ (Sh.xor_lt (Sh.rotr_lt _ hx) (Sh.rotr_lt _ hx)) (Sh.rotr_lt _ hx)]
  rfl
set_option maxHeartbeats 400000 in
theorem bigSigma1_t (x : Nat) (w : World) (hx : x < 4294967296) :
    Calls Tryd.prog 87 #[.int .u32 x] w fun e w' => e = .returned (.int .u32 (Sh.bS1 x : Nat)) ∧ w = w' := by
  go_enter Tryd.func87, Tryd.ntmps87
  go_wp2_with (go_at_call 100; refine (turn_i _ _ _ hx (by decide) (by decide)).mono ?_; rintro e w' ⟨rfl, rfl⟩)
  go_ret
  refine ⟨ret_u32 ?_, rfl⟩
  rw [Sh.bits_xor _ _ (Sh.rotr_lt _ hx) (Sh.rotr_lt _ hx), Sh.bits_xor _ _ (Sh.xor_lt (Sh.rotr_lt _ hx) (Sh.rotr_lt _ hx)) (Sh.rotr_lt _ hx)]
  rfl
set_option maxHeartbeats 400000 in
theorem smallSigma0_t (x : Nat) (w : World) (hx : x < 4294967296) :
    Calls Tryd.prog 99 #[.int .u32 x] w fun e w' => e = .returned (.int .u32 (Sh.sS0 x : Nat)) ∧ w = w' := by
  go_enter Tryd.func99, Tryd.ntmps99
  go_wp2_with (go_at_call 100; refine (turn_i _ _ _ hx (by decide) (by decide)).mono ?_; rintro e w' ⟨rfl, rfl⟩)
  go_ret
  refine ⟨ret_u32 ?_, rfl⟩
  rw [show ((x : Int) / 8) = ((x / 8 : Nat) : Int) from by push_cast; rfl, Sh.bits_xor _ _ (Sh.rotr_lt _ hx) (Sh.rotr_lt _ hx), Sh.bits_xor _ _ (Sh.xor_lt (Sh.rotr_lt _ hx) (Sh.rotr_lt _ hx)) (Sh.div_lt hx)]
  rfl
set_option maxHeartbeats 400000 in
theorem smallSigma1_t (x : Nat) (w : World) (hx : x < 4294967296) :
    Calls Tryd.prog 98 #[.int .u32 x] w fun e w' => e = .returned (.int .u32 (Sh.sS1 x : Nat)) ∧ w = w' := by
  go_enter Tryd.func98, Tryd.ntmps98
  go_wp2_with (go_at_call 100; refine (turn_i _ _ _ hx (by decide) (by decide)).mono ?_; rintro e w' ⟨rfl, rfl⟩)
  go_ret
  refine ⟨ret_u32 ?_, rfl⟩
  rw [show ((x : Int) / 1024) = ((x / 1024 : Nat) : Int) from by rw [Int.natCast_ediv]; rfl, Sh.bits_xor _ _ (Sh.rotr_lt _ hx) (Sh.rotr_lt _ hx), Sh.bits_xor _ _ (Sh.xor_lt (Sh.rotr_lt _ hx) (Sh.rotr_lt _ hx)) (Sh.div_lt hx)]
  rfl
end Go.Proofs.YthcebaegijlbdaaDoor
