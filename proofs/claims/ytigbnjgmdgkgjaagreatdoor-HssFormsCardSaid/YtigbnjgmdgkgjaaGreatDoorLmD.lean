/-
  told of layer 4.
-/
import Derived.Test.YtigbnjgmdgkgjaaGreatDoorLmC
namespace Go.Proofs.YtigbnjgmdgkgjaaGreatDoor
open Go Go.RowKit Sh

set_option maxRecDepth 100000 in
set_option maxHeartbeats 1000000 in
theorem ltold_t (w : World) (hk : KI w) : Calls Tryz.prog 6 #[] w fun e w' => e = .returned (.bool true) ∧ Below w.heap.size w w' := by
  have HK := Lib.hid hk
  clear hk
  go_enter Tryz.func6, Tryz.ntmps6
  go_wp2_with fail
  refine (new_bad (List.replicate 48 0) 3 w HK.out (by decide)).mono ?_
  rintro e w1 ⟨rfl, b1⟩
  have B1 := Lib.hid b1
  clear b1
  go_wp2_with fail
  refine (sign_nil 0 none 0 0 w1).mono ?_
  rintro e w2 ⟨rfl, rfl⟩
  go_wp2_with fail
  refine (node_nil 1 w1).mono ?_
  rintro e w2 ⟨rfl, b2⟩
  have b3 := B1.out.trans (b2.mono B1.out.size)
  have R2 := Lib.hid (Blk.new w2 24 (u8s z32))
  have B3 := Lib.hid (below_setRow (b3.alloc b3.size (.cells (u8s z32).toArray 24)) b3.size (u8s z32).toArray)
  clear b2 b3 B1
  go_wp2_with ((with_reducible refine store_blk 24 (.tmp 6) (.tmp 21) w2.heap.size 24 (u8s z32) (u8s z32) rfl rfl ?_ ?_ ?_ ?_ ?_ ?_ ?_); exact R2.out; exact rfl; exact z32_size; exact u8s_one _; exact rfl; exact rfl)
  refine (size_yes 1 (by decide) _ (HK.out.kept B3.out)).mono ?_
  rintro e w3 ⟨rfl, b3⟩
  rw [show ((lszN 1 : Nat) : Int) = 4460 from rfl]
  have B4 := Lib.hid (B3.out.trans (b3.mono B3.out.size))
  clear b3 B3 R2
  go_wp2_with fail
  refine (size_no 3 w3 (HK.out.kept B4.out) (by decide)).mono ?_
  rintro e w4 ⟨rfl, b4⟩
  have B5 := Lib.hid (B4.out.trans (b4.mono B4.out.size))
  clear b4 B4
  go_wp2_with fail
  refine (public_nil w4).mono ?_
  rintro e w5 ⟨rfl, rfl⟩
  go_wp2_with fail
  refine (verify_bad [] none none none 0 0 0 0 0 0 w4 rfl Sr.nil nil_bytes (by decide) (HK.out.kept B5.out) (by decide)).mono ?_
  rintro e w5 ⟨rfl, b5⟩
  have B6 := Lib.hid (B5.out.trans (b5.mono B5.out.size))
  clear b5 B5
  go_wp2_with fail
  refine (form_t [] none 0 0 w5 rfl Sr.nil nil_bytes (by decide) (HK.out.kept B6.out)).mono ?_
  rintro e w6 ⟨rfl, b6⟩
  rw [show formN [] = false from by decide]
  have B7 := Lib.hid (B6.out.trans (b6.mono B6.out.size))
  clear b6 B6
  go_wp2_with fail
  go_ret
  exact ⟨rfl, B7.out⟩
end Go.Proofs.YtigbnjgmdgkgjaaGreatDoor
