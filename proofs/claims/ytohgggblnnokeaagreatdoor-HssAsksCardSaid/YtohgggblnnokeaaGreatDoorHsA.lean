/-
  PACKAGE hss: Many, what a nil Key answers, New of what may not be, Verify of a key of another length; told of layer 5.
-/
import Derived.Test.YtohgggblnnokeaaGreatDoorLmC
import Derived.Test.YtohgggblnnokeaaGreatDoorOtArgs
namespace Go.Proofs.YtohgggblnnokeaaGreatDoor
open Go Go.RowKit Sh

theorem many_1 (w : World) : Calls Tryz.prog 7 #[.int .i64 1] w fun e w' => e = .returned (.int .i64 32) ∧ w = w' := by
  go_enter Tryz.func7, Tryz.ntmps7
  go_wp2
  go_ret
  exact ⟨rfl, rfl⟩
theorem many_2 (w : World) : Calls Tryz.prog 7 #[.int .i64 2] w fun e w' => e = .returned (.int .i64 1024) ∧ w = w' := by
  go_enter Tryz.func7, Tryz.ntmps7
  go_wp2
  go_ret
  exact ⟨rfl, rfl⟩
theorem many_no (n : Int) (w : World) (h1 : n ≠ 1) (h2 : n ≠ 2) : Calls Tryz.prog 7 #[.int .i64 n] w fun e w' => e = .returned (.int .i64 0) ∧ w = w' := by
  have t1 : (n == 1) = false := by rw [beq_eq_false_iff_ne]; exact h1
  have t2 : (n == 2) = false := by rw [beq_eq_false_iff_ne]; exact h2
  clear h1 h2
  go_enter Tryz.func7, Tryz.ntmps7
  go_wp2
  go_ret
  exact ⟨rfl, rfl⟩
theorem hstands_nil (w : World) : Calls Tryz.prog 17 #[.pointer none] w fun e w' => e = .returned (.bool false) ∧ w = w' := by
  go_enter Tryz.func17, Tryz.ntmps17
  go_wp2
  go_ret
  exact ⟨rfl, rfl⟩
theorem hsign_nil (q : Int) (A : Option Addr) (m c : Nat) (w : World) : Calls Tryz.prog 8 #[.pointer none, .int .i64 q, .slice A m c] w fun e w' => e = .returned (.tuple #[.slice none 0 0, .int .i64 1]) ∧ Below w.heap.size w w' := by
  go_enter Tryz.func8, Tryz.ntmps8
  go_wp2_with (go_at_call 17; refine (hstands_nil _).mono ?_; rintro e w2 ⟨rfl, rfl⟩)
  go_ret2
  exact ⟨rfl, Below.refl _ _⟩
theorem hpublic_nil (w : World) : Calls Tryz.prog 9 #[.pointer none] w fun e w' => e = .returned (.slice none 0 0) ∧ w = w' := by
  go_enter Tryz.func9, Tryz.ntmps9
  go_wp2_with (go_at_call 17; refine (hstands_nil _).mono ?_; rintro e w2 ⟨rfl, rfl⟩)
  go_ret
  exact ⟨rfl, rfl⟩
theorem hnew_lv (S : List Nat) (n l : Int) (w : World) (h1 : l ≠ 1) (h2 : l ≠ 2) : Calls Tryz.prog 5 #[.agg (u8s S).toArray, .int .i64 n, .int .i64 l] w fun e w' => e = .returned (.tuple #[.pointer none, .int .i64 1]) ∧ Below w.heap.size w w' := by
  have B0 := Lib.hid ((Below.refl w.heap.size w).alloc (Nat.le_refl _) (.cells (u8s S).toArray 26))
  have MN := Lib.hid (fun W => many_no l W h1 h2)
  clear h1 h2
  go_enter Tryz.func5, Tryz.ntmps5
  go_wp2_with fail
  refine (MN.out _).mono ?_
  rintro e w1 ⟨rfl, rfl⟩
  go_wp2_with fail
  go_ret2
  exact ⟨rfl, B0.out⟩
theorem hnew_w (S : List Nat) (n : Int) (w : World) (hS : S.length = 48) (hk : KI w) (hno : ∀ i, i < 4 → n ≠ ((kd i).w : Int)) : Calls Tryz.prog 5 #[.agg (u8s S).toArray, .int .i64 n, .int .i64 1] w fun e w' => e = .returned (.tuple #[.pointer none, .int .i64 1]) ∧ Below w.heap.size w w' := by
  have B0 := Lib.hid ((Below.refl w.heap.size w).alloc (Nat.le_refl _) (.cells (u8s S).toArray 26))
  have S0 := Lib.hid (Blk.new w 26 (u8s S))
  have NB := Lib.hid (fun W (h : Below w.heap.size w W) => new_bad S n W (hk.kept h) hno)
  have HS := Lib.hid hS
  clear hS hk hno
  go_enter Tryz.func5, Tryz.ntmps5
  go_wp2_with fail
  refine (many_1 _).mono ?_
  rintro e w1 ⟨rfl, rfl⟩
  go_wp2_with ((with_reducible refine load_blk 26 (.tmp 3) w.heap.size 26 (u8s S) _ rfl rfl ?_ Tryz.underlying26 ?_ ?_ ?_ ?_); exact S0.out; exact rfl; exact size48 _ HS.out; exact rfl)
  refine (NB.out _ B0.out).mono ?_
  rintro e w2 ⟨rfl, b2⟩
  have B2 := Lib.hid (B0.out.trans (b2.mono B0.out.size))
  clear b2
  go_wp2_with fail
  go_ret2
  exact ⟨rfl, B2.out⟩
/-- The cells of a public key of chapter 5: its levels, the upper tree's key. -/
def hkv (n : Int) (v : Value) : List Value := [.int .i64 n, v]
theorem hkv_size (n : Int) (v : Value) : (Tryz.prog.info? 82).map (·.size) = some (hkv n v).length := by
  show _ = some 2
  kernel_rfl
theorem hkv_one (n : Int) (A : Option Addr) (m c : Nat) : (hkv n (.slice A m c)).toArray.all (·.oneCell') = true := all_oneCell_toArray (fun v hv => by
  simp only [hkv, List.mem_cons, List.not_mem_nil, or_false] at hv
  rcases hv with rfl | rfl
  · rfl
  · cases A <;> rfl)
theorem hrk_len (A : Option Addr) (m c : Nat) (w : World) (hm : m ≠ 60) (_ : m ≤ 9223372036854775807) :
    Calls Tryz.prog 30 #[.slice A m c] w fun e w' => e = .returned (.tuple #[.agg (hkv 0 (.slice none 0 0)).toArray, .bool false]) ∧ Below w.heap.size w w' := by
  have t0 : ((m : Int) != 60) = true := by rw [bne_iff_ne]; omega
  have R0 := Lib.hid (Blk.new w 82 (hkv 0 (.slice none 0 0)))
  have B0 := Lib.hid ((Below.refl w.heap.size w).alloc (Nat.le_refl _) (.cells (hkv 0 (.slice none 0 0)).toArray 82))
  clear hm
  go_enter Tryz.func30, Tryz.ntmps30
  go_wp2_with ((with_reducible refine store_blk 82 (.tmp 2) (.tmp 9) w.heap.size 82 (hkv 0 (.slice none 0 0)) (hkv 0 (.slice none 0 0)) rfl rfl ?_ ?_ ?_ ?_ ?_ ?_ ?_); exact R0.out; exact rfl; exact hkv_size _ _; exact hkv_one _ _ _ _; exact rfl; exact rfl)
  refine ret_blk2 (p := 2) (u := 3) (ty := 82) rfl rfl w.heap.size 82 (hkv 0 (.slice none 0 0)) _ rfl (R0.out.setRow _) Tryz.underlying82 rfl (hkv_size _ _) (.bool false) rfl ?_
  exact ⟨rfl, below_setRow B0.out (Nat.le_refl _) _⟩
theorem hverify_len (A B C : Option Addr) (m c m1 c1 m2 c2 : Nat) (w : World) (hm : m ≠ 60) (hml : m ≤ 9223372036854775807) :
    Calls Tryz.prog 13 #[.slice A m c, .slice B m1 c1, .slice C m2 c2] w fun e w' => e = .returned (.int .i64 2) ∧ Below w.heap.size w w' := by
  have RK := Lib.hid (hrk_len A m c w hm hml)
  clear hm hml
  go_enter Tryz.func13, Tryz.ntmps13
  go_wp2_with fail
  refine RK.out.mono ?_
  rintro e w1 ⟨rfl, b1⟩
  have B1 := Lib.hid b1; have R1 := Lib.hid (Blk.new w1 82 (hkv 0 (.slice none 0 0)))
  clear b1 RK
  go_wp2_with ((with_reducible refine store_blk 82 (.tmp 7) (.tmp 12) w1.heap.size 82 (hkv 0 (.slice none 0 0)) (hkv 0 (.slice none 0 0)) rfl rfl ?_ ?_ ?_ ?_ ?_ ?_ ?_); exact R1.out; exact rfl; exact hkv_size _ _; exact hkv_one _ _ _ _; exact rfl; exact rfl)
  go_ret
  exact ⟨rfl, below_setRow (B1.out.alloc B1.out.size _) B1.out.size _⟩
set_option maxRecDepth 100000 in
set_option maxHeartbeats 1000000 in
theorem htold_t (w : World) (hk : KI w) : Calls Tryz.prog 4 #[] w fun e w' => e = .returned (.bool true) ∧ Below w.heap.size w w' := by
  have HK := Lib.hid hk
  clear hk
  go_enter Tryz.func4, Tryz.ntmps4
  go_wp2_with fail
  refine (hnew_lv (List.replicate 48 0) 2 3 w (by decide) (by decide)).mono ?_
  rintro e w1 ⟨rfl, b1⟩
  have B1 := Lib.hid b1
  clear b1
  go_wp2_with fail
  refine (hnew_w (List.replicate 48 0) 5 w1 rfl (HK.out.kept B1.out) (by decide)).mono ?_
  rintro e w2 ⟨rfl, b2⟩
  have B2 := Lib.hid (B1.out.trans (b2.mono B1.out.size))
  clear b2 B1
  go_wp2_with fail
  refine (hsign_nil 0 none 0 0 w2).mono ?_
  rintro e w3 ⟨rfl, b3⟩
  have B3 := Lib.hid (B2.out.trans (b3.mono B2.out.size))
  clear b3 B2
  go_wp2_with (first
    | (go_at_call 7; refine (many_1 _).mono ?_; rintro e w4 ⟨rfl, rfl⟩)
    | (go_at_call 7; refine (many_2 _).mono ?_; rintro e w4 ⟨rfl, rfl⟩)
    | (go_at_call 7; refine (many_no 0 _ (by decide) (by decide)).mono ?_; rintro e w4 ⟨rfl, rfl⟩)
    | (go_at_call 9; refine (hpublic_nil _).mono ?_; rintro e w4 ⟨rfl, rfl⟩))
  refine (hverify_len none none none 0 0 0 0 0 0 w3 (by decide) (by decide)).mono ?_
  rintro e w5 ⟨rfl, b5⟩
  have B5 := Lib.hid (B3.out.trans (b5.mono B3.out.size))
  clear b5 B3
  go_wp2_with fail
  go_ret
  exact ⟨rfl, B5.out⟩
end Go.Proofs.YtohgggblnnokeaaGreatDoor
