/-
  PACKAGE lms: Form; Verify of what has not the form, or of a signature of another length; what a tree that is none answers; told of layer 4.
-/
import Derived.Test.YtohgggblnnokeaaGreatDoorLmB
namespace Go.Proofs.YtohgggblnnokeaaGreatDoor
open Go Go.RowKit Sh

/-- readKey, whatever the bytes. -/
theorem readKey_any (xs : List Nat) (A : Option Addr) (m c : Nat) (w : World) (hx : xs.length = m) (hp : Sr w A xs) (hb : Bytes xs) (hml : m ≤ 9223372036854775807) (hk : KI w) :
    Calls Tryz.prog 79 #[.slice A m c] w fun e w' => ∃ v J, J.length = 48 ∧ e = .returned (.tuple #[.agg (pkv v J).toArray, .bool (formN xs)]) ∧ (formN xs = true → ∃ i, i < 4 ∧ v = (kd i).w ∧ val ((xs.drop 4).take 4) = i + 1 ∧ J = xs.drop 8) ∧ Below w.heap.size w w' := by
  cases hf : formN xs with
  | false =>
    by_cases h56 : m = 56
    · subst h56
      refine (readKey_bad xs A c w hx hp hb hk hf).mono ?_
      rintro e w' ⟨rfl, b⟩
      exact ⟨0, List.replicate 48 0, List.length_replicate, rfl, (fun h => by cases h), b⟩
    · refine (readKey_len A m c w h56 hml).mono ?_
      rintro e w' ⟨rfl, b⟩
      exact ⟨0, List.replicate 48 0, List.length_replicate, rfl, (fun h => by cases h), b⟩
  | true =>
    have hf' := hf
    unfold formN at hf'
    rw [decide_eq_true_iff] at hf'
    obtain ⟨h1, h2, h3, h4⟩ := hf'
    obtain rfl : m = 56 := by omega
    obtain ⟨i, hi⟩ : ∃ i, val ((xs.drop 4).take 4) = i + 1 := ⟨val ((xs.drop 4).take 4) - 1, by omega⟩
    refine (readKey_ok xs A i c w h1 hp hb hk (by omega) h2 hi).mono ?_
    rintro e w' ⟨rfl, b⟩
    exact ⟨_, xs.drop 8, by rw [List.length_drop, h1], rfl, fun _ => ⟨i, by omega, rfl, hi, rfl⟩, b⟩
theorem pk_len (v : Nat) (J : List Nat) (h : J.length = 48) : pkz.length = (pkv v J).length := by rw [pkv_length v J h]; rfl
set_option maxRecDepth 100000 in
theorem form_t (xs : List Nat) (A : Option Addr) (m c : Nat) (w : World) (hx : xs.length = m) (hp : Sr w A xs) (hb : Bytes xs) (hml : m ≤ 9223372036854775807) (hk : KI w) :
    Calls Tryz.prog 54 #[.slice A m c] w fun e w' => e = .returned (.bool (formN xs)) ∧ Below w.heap.size w w' := by
  have RK := Lib.hid (readKey_any xs A m c w hx hp hb hml hk)
  clear hx hp hb hml hk
  go_enter Tryz.func54, Tryz.ntmps54
  go_wp2_with fail
  refine RK.out.mono ?_
  rintro e w1 ⟨v, J, hJ, rfl, -, b1⟩
  have HJ := Lib.hid hJ; have B1 := Lib.hid b1; have R1 := Lib.hid (Blk.new w1 138 pkz)
  obtain ⟨f, hf⟩ : ∃ f, formN xs = f := ⟨_, rfl⟩
  rw [hf]
  have HF := Lib.hid hf
  clear hJ b1 hf RK
  go_wp2_with ((with_reducible refine store_blk 138 (.tmp 3) (.tmp 8) w1.heap.size 138 pkz (pkv v J) rfl rfl ?_ ?_ ?_ ?_ ?_ ?_ ?_); exact R1.out; exact pk_len _ _ HJ.out; exact pkv_size _ _ HJ.out; exact pkv_one _ _; exact rfl; exact rfl)
  go_ret
  exact ⟨by rw [HF.out]; rfl, below_setRow (B1.out.alloc B1.out.size _) B1.out.size _⟩
set_option maxRecDepth 100000 in
theorem verify_bad (xs : List Nat) (A B C : Option Addr) (m c m1 c1 m2 c2 : Nat) (w : World) (hx : xs.length = m) (hp : Sr w A xs) (hb : Bytes xs) (hml : m ≤ 9223372036854775807) (hk : KI w) (hf : formN xs = false) :
    Calls Tryz.prog 56 #[.slice A m c, .slice B m1 c1, .slice C m2 c2] w fun e w' => e = .returned (.int .i64 2) ∧ Below w.heap.size w w' := by
  have RK := Lib.hid (readKey_any xs A m c w hx hp hb hml hk); have HF := Lib.hid hf
  clear hx hp hb hml hk hf
  go_enter Tryz.func56, Tryz.ntmps56
  go_wp2_with fail
  refine RK.out.mono ?_
  rintro e w1 ⟨v, J, hJ, rfl, -, b1⟩
  rw [HF.out]
  have HJ := Lib.hid hJ; have B1 := Lib.hid b1; have R1 := Lib.hid (Blk.new w1 138 pkz)
  clear hJ b1 RK
  go_wp2_with ((with_reducible refine store_blk 138 (.tmp 7) (.tmp 13) w1.heap.size 138 pkz (pkv v J) rfl rfl ?_ ?_ ?_ ?_ ?_ ?_ ?_); exact R1.out; exact pk_len _ _ HJ.out; exact pkv_size _ _ HJ.out; exact pkv_one _ _; exact rfl; exact rfl)
  go_ret
  exact ⟨rfl, below_setRow (B1.out.alloc B1.out.size _) B1.out.size _⟩
set_option maxRecDepth 100000 in
theorem lcand_short (i : Nat) (J : List Nat) (B C : Option Addr) (m1 c1 m2 c2 : Nat) (w : World) (hi : i < 4) (hk : KI w) (hm : m2 ≠ lszN i) (_ : m2 ≤ 9223372036854775807) :
    Calls Tryz.prog 81 #[.agg (pkv (kd i).w J).toArray, .slice B m1 c1, .slice C m2 c2] w fun e w' => e = .returned (.tuple #[.agg (u8s z32).toArray, .bool false]) ∧ Below w.heap.size w w' := by
  have HK := Lib.hid hk
  have SZ := Lib.hid (fun W hW => size_yes i hi W hW)
  have K0 := Lib.hid ((Blk.new w 138 (pkv (kd i).w J)).alloc (.cells (u8s z32).toArray 24))
  have R0 := Lib.hid (Blk.new2 w (.cells (pkv (kd i).w J).toArray 138) 24 (u8s z32))
  have B0 := Lib.hid (((Below.refl w.heap.size w).alloc (Nat.le_refl _) (.cells (pkv (kd i).w J).toArray 138)).alloc (by simp) (.cells (u8s z32).toArray 24))
  obtain ⟨z, hz⟩ : ∃ z, lszN i = z := ⟨_, rfl⟩
  obtain ⟨v, hv⟩ : ∃ v, (kd i).w = v := ⟨_, rfl⟩
  rw [hz] at hm SZ
  rw [hv] at SZ K0 R0 B0
  rw [hv]
  have t0 : ((m2 : Int) != (z : Int)) = true := by rw [bne_iff_ne]; omega
  clear hk hm hz hv
  go_enter Tryz.func81, Tryz.ntmps81
  go_upto_region 1 with (fail)
  refine world_is (fun X => Blk X w.heap.size 138 (pkv v J) ∧ Blk X (w.heap.size + 1) 24 (u8s z32) ∧ Below w.heap.size w X) ⟨K0.out, R0.out, B0.out⟩ ?_
  clear K0 R0 B0
  rintro X ⟨k0, r0, b0⟩
  have c0 : X.cell? ⟨w.heap.size, 0, none⟩ = some (.int .i64 (v : Int)) := k0.cell 0
  have R0 := Lib.hid r0; have B0 := Lib.hid b0
  clear k0 r0 b0
  go_wp2_with fail
  refine (SZ.out _ (HK.out.kept B0.out)).mono ?_
  rintro e w1 ⟨rfl, b1⟩
  have B1 := Lib.hid (B0.out.trans (b1.mono B0.out.size)); have R1 := Lib.hid (R0.out.below b1 R0.out.lt)
  clear b1 c0 B0 R0
  go_wp2_with ((with_reducible refine store_blk 24 (.tmp 6) (.tmp 20) (w.heap.size + 1) 24 (u8s z32) (u8s z32) rfl rfl ?_ ?_ ?_ ?_ ?_ ?_ ?_); exact R1.out; exact rfl; exact z32_size; exact u8s_one _; exact rfl; exact rfl)
  refine ret_blk2 (p := 6) (u := 7) (ty := 24) rfl rfl (w.heap.size + 1) 24 (u8s z32) _ rfl (R1.out.setRow _) Tryz.underlying24 rfl z32_size (.bool false) rfl ?_
  exact ⟨rfl, below_setRow B1.out (by omega) _⟩
theorem new_bad (S : List Nat) (n : Int) (w : World) (hk : KI w) (hno : ∀ i, i < 4 → n ≠ ((kd i).w : Int)) : Calls Tryz.prog 15 #[.agg (u8s S).toArray, .int .i64 n] w fun e w' => e = .returned (.tuple #[.pointer none, .int .i64 1]) ∧ Below w.heap.size w w' := by
  have HN := Lib.hid hno
  have B0 := Lib.hid ((Below.refl w.heap.size w).alloc (Nat.le_refl _) (.cells (u8s S).toArray 26))
  have K0 := Lib.hid (hk.kept B0.out)
  clear hk hno
  go_enter Tryz.func15, Tryz.ntmps15
  go_wp2_with fail
  refine typeOf_t n _ K0.out _ (fun j w1 hj hn _ => absurd hn (HN.out j hj)) (fun w1 _ b1 => ?_)
  have B1 := Lib.hid (B0.out.trans (b1.mono B0.out.size))
  clear b1
  go_wp2_with fail
  go_ret2
  exact ⟨rfl, B1.out⟩
end Go.Proofs.YtohgggblnnokeaaGreatDoor
