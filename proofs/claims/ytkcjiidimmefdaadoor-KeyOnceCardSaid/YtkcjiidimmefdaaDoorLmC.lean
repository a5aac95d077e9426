/-
  PACKAGE lms: Form; Verify of what has not the form, or of a signature of another length; what a tree that is none answers; told of layer 4.
-/
import Derived.Test.YtkcjiidimmefdaaDoorLmB
namespace Go.Proofs.YtkcjiidimmefdaaDoor
open Go Go.RowKit Sh

theorem pk_len (v : Nat) (J : List Nat) (h : J.length = 48) : pkz.length = (pkv v J).length := by rw [pkv_length v J h]; rfl
theorem stands_nil (w : World) : Calls Tryd.prog 27 #[.pointer none] w fun e w' => e = .returned (.bool false) ∧ w = w' := by
  go_enter Tryd.func27, Tryd.ntmps27
  go_wp2
  go_ret
  exact ⟨rfl, rfl⟩
theorem sign_nil (q : Int) (A : Option Addr) (m c : Nat) (w : World) : Calls Tryd.prog 20 #[.pointer none, .int .i64 q, .slice A m c] w fun e w' => e = .returned (.tuple #[.slice none 0 0, .int .i64 1]) ∧ w = w' := by
  go_enter Tryd.func20, Tryd.ntmps20
  go_wp2_with (go_at_call 27; refine (stands_nil _).mono ?_; rintro e w2 ⟨rfl, rfl⟩)
  go_ret2
  exact ⟨rfl, rfl⟩
theorem public_nil (w : World) : Calls Tryd.prog 34 #[.pointer none] w fun e w' => e = .returned (.slice none 0 0) ∧ w = w' := by
  go_enter Tryd.func34, Tryd.ntmps34
  go_wp2_with (go_at_call 27; refine (stands_nil _).mono ?_; rintro e w2 ⟨rfl, rfl⟩)
  go_ret
  exact ⟨rfl, rfl⟩
theorem new_bad (S : List Nat) (n : Int) (w : World) (hk : KI w) (hno : ∀ i, i < 4 → n ≠ ((kd i).w : Int)) : Calls Tryd.prog 12 #[.agg (u8s S).toArray, .int .i64 n] w fun e w' => e = .returned (.tuple #[.pointer none, .int .i64 1]) ∧ Below w.heap.size w w' := by
  have HN := Lib.hid hno
  have B0 := Lib.hid ((Below.refl w.heap.size w).alloc (Nat.le_refl _) (.cells (u8s S).toArray 30))
  have K0 := Lib.hid (hk.kept B0.out)
  clear hk hno
  go_enter Tryd.func12, Tryd.ntmps12
  go_wp2_with fail
  refine typeOf_t n _ K0.out _ (fun j w1 hj hn _ => absurd hn (HN.out j hj)) (fun w1 _ b1 => ?_)
  have B1 := Lib.hid (B0.out.trans (b1.mono B0.out.size))
  clear b1
  go_wp2_with fail
  go_ret2
  exact ⟨rfl, B1.out⟩
end Go.Proofs.YtkcjiidimmefdaaDoor
