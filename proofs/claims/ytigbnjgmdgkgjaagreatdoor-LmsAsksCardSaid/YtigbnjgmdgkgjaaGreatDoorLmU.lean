/-
  PACKAGE lms: what a tree that stands answers of a node or a leaf that it has not.
-/
import Derived.Test.YtigbnjgmdgkgjaaGreatDoorLmS
namespace Go.Proofs.YtigbnjgmdgkgjaaGreatDoor
open Go Go.RowKit Sh

set_option maxRecDepth 100000 in
theorem tree_node_low (I seed : List Nat) (v i g : Nat) (r : Int) (w : World) (hI : I.length = 16) (hs : seed.length = 32) (hv : v = (kd i).w) (hr : r < 1) (hT : Stands w g I seed v i) :
    Calls Tryz.prog 12 #[.pointer (some ⟨g, 0, none⟩), .int .i64 r] w fun e w' => e = .returned (.tuple #[.agg (u8s z32).toArray, .int .i64 1]) ∧ Below w.heap.size w w' := by
  have R0 := Lib.hid (Blk.new w 24 (u8s z32)); have B0 := Lib.hid ((Below.refl w.heap.size w).alloc (Nat.le_refl _) (.cells (u8s z32).toArray 24))
  have ST := Lib.hid (fun W (h : Stands W g I seed v i) => stands_yes I seed v i g W hI hs hv h)
  have S0 := Lib.hid (hT.below B0.out)
  clear hI hs hv hT
  go_enter Tryz.func12, Tryz.ntmps12
  go_wp2_with (first
    | (go_at_call 33; refine (ST.out _ S0.out).mono ?_; rintro e w' ⟨rfl, rfl⟩)
    | ((with_reducible refine store_blk 24 (.tmp 4) (.tmp 17) w.heap.size 24 (u8s z32) (u8s z32) rfl rfl ?_ ?_ ?_ ?_ ?_ ?_ ?_); exact R0.out; exact rfl; exact z32_size; exact u8s_one _; exact rfl; exact rfl))
  refine ret_blk2 (p := 4) (u := 5) (ty := 24) rfl rfl w.heap.size 24 (u8s z32) _ rfl (R0.out.setRow _) Tryz.underlying24 rfl z32_size (.int .i64 1) rfl ?_
  exact ⟨rfl, below_setRow B0.out (Nat.le_refl _) _⟩
set_option maxRecDepth 100000 in
theorem tree_node_high (I seed : List Nat) (v i g : Nat) (r : Int) (w : World) (hI : I.length = 16) (hs : seed.length = 32) (hv : v = (kd i).w) (hr : 63 < r) (hT : Stands w g I seed v i) :
    Calls Tryz.prog 12 #[.pointer (some ⟨g, 0, none⟩), .int .i64 r] w fun e w' => e = .returned (.tuple #[.agg (u8s z32).toArray, .int .i64 1]) ∧ Below w.heap.size w w' := by
  have t1 : (r < 1) = False := by simp; omega
  have t2 : decide (r < 1) = false := decide_eq_false (by omega)
  have R0 := Lib.hid (Blk.new w 24 (u8s z32)); have B0 := Lib.hid ((Below.refl w.heap.size w).alloc (Nat.le_refl _) (.cells (u8s z32).toArray 24))
  have ST := Lib.hid (fun W (h : Stands W g I seed v i) => stands_yes I seed v i g W hI hs hv h)
  have S0 := Lib.hid (hT.below B0.out)
  clear hI hs hv hT
  go_enter Tryz.func12, Tryz.ntmps12
  go_wp2_with (first
    | (go_at_call 33; refine (ST.out _ S0.out).mono ?_; rintro e w' ⟨rfl, rfl⟩)
    | ((with_reducible refine store_blk 24 (.tmp 4) (.tmp 17) w.heap.size 24 (u8s z32) (u8s z32) rfl rfl ?_ ?_ ?_ ?_ ?_ ?_ ?_); exact R0.out; exact rfl; exact z32_size; exact u8s_one _; exact rfl; exact rfl))
  refine ret_blk2 (p := 4) (u := 5) (ty := 24) rfl rfl w.heap.size 24 (u8s z32) _ rfl (R0.out.setRow _) Tryz.underlying24 rfl z32_size (.int .i64 1) rfl ?_
  exact ⟨rfl, below_setRow B0.out (Nat.le_refl _) _⟩
set_option maxRecDepth 100000 in
theorem tree_sign_low (I seed : List Nat) (v i g : Nat) (q : Int) (P : Option Addr) (m cc : Nat) (w : World) (hI : I.length = 16) (hs : seed.length = 32) (hv : v = (kd i).w) (hq : q < 0) (hT : Stands w g I seed v i) :
    Calls Tryz.prog 13 #[.pointer (some ⟨g, 0, none⟩), .int .i64 q, .slice P m cc] w fun e w' => e = .returned (.tuple #[.slice none 0 0, .int .i64 1]) ∧ w = w' := by
  have ST := Lib.hid (stands_yes I seed v i g w hI hs hv hT)
  clear hI hs hv hT
  go_enter Tryz.func13, Tryz.ntmps13
  go_wp2_with (go_at_call 33; refine (ST.out).mono ?_; rintro e w2 ⟨rfl, rfl⟩)
  go_ret2
  exact ⟨rfl, rfl⟩
set_option maxRecDepth 100000 in
theorem tree_sign_high (I seed : List Nat) (v i g : Nat) (q : Int) (P : Option Addr) (m cc : Nat) (w : World) (hI : I.length = 16) (hs : seed.length = 32) (hv : v = (kd i).w) (hq : 32 ≤ q) (hT : Stands w g I seed v i) :
    Calls Tryz.prog 13 #[.pointer (some ⟨g, 0, none⟩), .int .i64 q, .slice P m cc] w fun e w' => e = .returned (.tuple #[.slice none 0 0, .int .i64 4]) ∧ w = w' := by
  have t1 : (q < 0) = False := by simp; omega
  have t2 : decide (q < 0) = false := decide_eq_false (by omega)
  have ST := Lib.hid (stands_yes I seed v i g w hI hs hv hT)
  clear hI hs hv hT
  go_enter Tryz.func13, Tryz.ntmps13
  go_wp2_with (go_at_call 33; refine (ST.out).mono ?_; rintro e w2 ⟨rfl, rfl⟩)
  go_ret2
  exact ⟨rfl, rfl⟩
end Go.Proofs.YtigbnjgmdgkgjaaGreatDoor
