/-
  PACKAGE lms: Form; Verify of what has not the form, or of a signature of another length; what a tree that is none answers; told of layer 4.
-/
import Derived.Test.YtkcjiidimmefdaaGreatDoorLmB
namespace Go.Proofs.YtkcjiidimmefdaaGreatDoor
open Go Go.RowKit Sh

/-- readKey, whatever the bytes. -/
theorem readKey_any (xs : List Nat) (A : Option Addr) (m c : Nat) (w : World) (hx : xs.length = m) (hp : Sr w A xs) (hb : Bytes xs) (hml : m ≤ 9223372036854775807) (hk : KI w) :
    Calls Tryz.prog 34 #[.slice A m c] w fun e w' => ∃ v J, J.length = 48 ∧ e = .returned (.tuple #[.agg (pkv v J).toArray, .bool (formN xs)]) ∧ (formN xs = true → ∃ i, i < 4 ∧ v = (kd i).w ∧ val ((xs.drop 4).take 4) = i + 1 ∧ J = xs.drop 8) ∧ Below w.heap.size w w' := by
  cases hf : formN xs with
  | false =>
    by_cases h56 : m = 56
    · subst h56
      refine (readKey_bad xs A c w hx hp hb hk hf).mono ?_
      rintro e w' ⟨rfl, b⟩
      exact ⟨0, List.replicate 48 0, List.length_replicate, rfl, (fun h => by cases h), b⟩
    · refine (readKey_len A m c w h56 hml).mono ?_
      rintro e w' ⟨rfl, b⟩
      exact ⟨0, List.replicate 48 0, List.length_replicate, rfl, (fun h => by cases h), b⟩
  | true =>
    have hf' := hf
    unfold formN at hf'
    rw [decide_eq_true_iff] at hf'
    obtain ⟨h1, h2, h3, h4⟩ := hf'
    obtain rfl : m = 56 := by omega
    obtain ⟨i, hi⟩ : ∃ i, val ((xs.drop 4).take 4) = i + 1 := ⟨val ((xs.drop 4).take 4) - 1, by omega⟩
    refine (readKey_ok xs A i c w h1 hp hb hk (by omega) h2 hi).mono ?_
    rintro e w' ⟨rfl, b⟩
    exact ⟨_, xs.drop 8, by rw [List.length_drop, h1], rfl, fun _ => ⟨i, by omega, rfl, hi, rfl⟩, b⟩
theorem pk_len (v : Nat) (J : List Nat) (h : J.length = 48) : pkz.length = (pkv v J).length := by rw [pkv_length v J h]; rfl
set_option maxRecDepth 100000 in
theorem verify_bad (xs : List Nat) (A B C : Option Addr) (m c m1 c1 m2 c2 : Nat) (w : World) (hx : xs.length = m) (hp : Sr w A xs) (hb : Bytes xs) (hml : m ≤ 9223372036854775807) (hk : KI w) (hf : formN xs = false) :
    Calls Tryz.prog 18 #[.slice A m c, .slice B m1 c1, .slice C m2 c2] w fun e w' => e = .returned (.int .i64 2) ∧ Below w.heap.size w w' := by
  have RK := Lib.hid (readKey_any xs A m c w hx hp hb hml hk); have HF := Lib.hid hf
  clear hx hp hb hml hk hf
  go_enter Tryz.func18, Tryz.ntmps18
  go_wp2_with fail
  refine RK.out.mono ?_
  rintro e w1 ⟨v, J, hJ, rfl, -, b1⟩
  rw [HF.out]
  have HJ := Lib.hid hJ; have B1 := Lib.hid b1; have R1 := Lib.hid (Blk.new w1 76 pkz)
  clear hJ b1 RK
  go_wp2_with ((with_reducible refine store_blk 76 (.tmp 7) (.tmp 13) w1.heap.size 76 pkz (pkv v J) rfl rfl ?_ ?_ ?_ ?_ ?_ ?_ ?_); exact R1.out; exact pk_len _ _ HJ.out; exact pkv_size _ _ HJ.out; exact pkv_one _ _; exact rfl; exact rfl)
  go_ret
  exact ⟨rfl, below_setRow (B1.out.alloc B1.out.size _) B1.out.size _⟩
set_option maxRecDepth 100000 in
theorem lcand_short (i : Nat) (J : List Nat) (B C : Option Addr) (m1 c1 m2 c2 : Nat) (w : World) (hi : i < 4) (hk : KI w) (hm : m2 ≠ lszN i) (_ : m2 ≤ 9223372036854775807) :
    Calls Tryz.prog 35 #[.agg (pkv (kd i).w J).toArray, .slice B m1 c1, .slice C m2 c2] w fun e w' => e = .returned (.tuple #[.agg (u8s z32).toArray, .bool false]) ∧ Below w.heap.size w w' := by
  have HK := Lib.hid hk
  have SZ := Lib.hid (fun W hW => size_yes i hi W hW)
  have K0 := Lib.hid ((Blk.new w 76 (pkv (kd i).w J)).alloc (.cells (u8s z32).toArray 25))
  have R0 := Lib.hid (Blk.new2 w (.cells (pkv (kd i).w J).toArray 76) 25 (u8s z32))
  have B0 := Lib.hid (((Below.refl w.heap.size w).alloc (Nat.le_refl _) (.cells (pkv (kd i).w J).toArray 76)).alloc (by simp) (.cells (u8s z32).toArray 25))
  obtain ⟨z, hz⟩ : ∃ z, lszN i = z := ⟨_, rfl⟩
  obtain ⟨v, hv⟩ : ∃ v, (kd i).w = v := ⟨_, rfl⟩
  rw [hz] at hm SZ
  rw [hv] at SZ K0 R0 B0
  rw [hv]
  have t0 : ((m2 : Int) != (z : Int)) = true := by rw [bne_iff_ne]; omega
  clear hk hm hz hv
  go_enter Tryz.func35, Tryz.ntmps35
  go_upto_region 1 with (fail)
  refine world_is (fun X => Blk X w.heap.size 76 (pkv v J) ∧ Blk X (w.heap.size + 1) 25 (u8s z32) ∧ Below w.heap.size w X) ⟨K0.out, R0.out, B0.out⟩ ?_
  clear K0 R0 B0
  rintro X ⟨k0, r0, b0⟩
  have c0 : X.cell? ⟨w.heap.size, 0, none⟩ = some (.int .i64 (v : Int)) := k0.cell 0
  have R0 := Lib.hid r0; have B0 := Lib.hid b0
  clear k0 r0 b0
  go_wp2_with fail
  refine (SZ.out _ (HK.out.kept B0.out)).mono ?_
  rintro e w1 ⟨rfl, b1⟩
  have B1 := Lib.hid (B0.out.trans (b1.mono B0.out.size)); have R1 := Lib.hid (R0.out.below b1 R0.out.lt)
  clear b1 c0 B0 R0
  go_wp2_with ((with_reducible refine store_blk 25 (.tmp 6) (.tmp 20) (w.heap.size + 1) 25 (u8s z32) (u8s z32) rfl rfl ?_ ?_ ?_ ?_ ?_ ?_ ?_); exact R1.out; exact rfl; exact z32_size; exact u8s_one _; exact rfl; exact rfl)
  refine ret_blk2 (p := 6) (u := 7) (ty := 25) rfl rfl (w.heap.size + 1) 25 (u8s z32) _ rfl (R1.out.setRow _) Tryz.underlying25 rfl z32_size (.bool false) rfl ?_
  exact ⟨rfl, below_setRow B1.out (by omega) _⟩
set_option maxRecDepth 100000 in
theorem verify_short (xs : List Nat) (A B : Option Addr) (m c m1 c1 : Nat) (w : World) (hx : xs.length = m) (hp : Sr w A xs) (hb : Bytes xs) (hml : m ≤ 9223372036854775807) (hk : KI w) (hf : formN xs = true) :
    Calls Tryz.prog 18 #[.slice A m c, .slice B m1 c1, .slice none 0 0] w fun e w' => e = .returned (.int .i64 3) ∧ Below w.heap.size w w' := by
  have RK := Lib.hid (readKey_any xs A m c w hx hp hb hml hk); have HF := Lib.hid hf; have HK := Lib.hid hk
  clear hx hp hb hml hk hf
  go_enter Tryz.func18, Tryz.ntmps18
  go_wp2_with fail
  refine RK.out.mono ?_
  rintro e w1 ⟨v, J, hJ, rfl, hi, b1⟩
  obtain ⟨i, hi4, rfl, -, -⟩ := hi HF.out
  rw [HF.out]
  have HJ := Lib.hid hJ; have B1 := Lib.hid b1; have R1 := Lib.hid (Blk.new w1 76 pkz)
  have B2 := Lib.hid (below_setRow (B1.out.alloc B1.out.size (.cells pkz.toArray 76)) B1.out.size (pkv (kd i).w J).toArray)
  clear hJ b1 RK hi
  go_wp2_with (first
    | ((with_reducible refine store_blk 76 (.tmp 7) (.tmp 13) w1.heap.size 76 pkz (pkv (kd i).w J) rfl rfl ?_ ?_ ?_ ?_ ?_ ?_ ?_); exact R1.out; exact pk_len _ _ HJ.out; exact pkv_size _ _ HJ.out; exact pkv_one _ _; exact rfl; exact rfl)
    | ((with_reducible refine load_blk 76 (.tmp 7) w1.heap.size 76 (pkv (kd i).w J) _ rfl rfl ?_ Tryz.underlying76 ?_ ?_ ?_ ?_); exact R1.out.setRow _; exact rfl; exact pkv_size _ _ HJ.out; exact rfl))
  refine (lcand_short i J B none m1 c1 0 0 _ hi4 (HK.out.kept B2.out) (by unfold lszN; omega) (by decide)).mono ?_
  rintro e w2 ⟨rfl, b2⟩
  have B3 := Lib.hid (B2.out.trans (b2.mono B2.out.size)); have R3 := Lib.hid (Blk.new w2 25 (u8s z32))
  clear b2
  go_wp2_with ((with_reducible refine store_blk 25 (.tmp 9) (.tmp 22) w2.heap.size 25 (u8s z32) (u8s z32) rfl rfl ?_ ?_ ?_ ?_ ?_ ?_ ?_); exact R3.out; exact rfl; exact z32_size; exact u8s_one _; exact rfl; exact rfl)
  go_ret
  exact ⟨rfl, below_setRow (B3.out.alloc B3.out.size _) B3.out.size _⟩
theorem stands_nil (w : World) : Calls Tryz.prog 45 #[.pointer none] w fun e w' => e = .returned (.bool false) ∧ w = w' := by
  go_enter Tryz.func45, Tryz.ntmps45
  go_wp2
  go_ret
  exact ⟨rfl, rfl⟩
theorem sign_nil (q : Int) (A : Option Addr) (m c : Nat) (w : World) : Calls Tryz.prog 29 #[.pointer none, .int .i64 q, .slice A m c] w fun e w' => e = .returned (.tuple #[.slice none 0 0, .int .i64 1]) ∧ w = w' := by
  go_enter Tryz.func29, Tryz.ntmps29
  go_wp2_with (go_at_call 45; refine (stands_nil _).mono ?_; rintro e w2 ⟨rfl, rfl⟩)
  go_ret2
  exact ⟨rfl, rfl⟩
theorem public_nil (w : World) : Calls Tryz.prog 32 #[.pointer none] w fun e w' => e = .returned (.slice none 0 0) ∧ w = w' := by
  go_enter Tryz.func32, Tryz.ntmps32
  go_wp2_with (go_at_call 45; refine (stands_nil _).mono ?_; rintro e w2 ⟨rfl, rfl⟩)
  go_ret
  exact ⟨rfl, rfl⟩
theorem new_bad (S : List Nat) (n : Int) (w : World) (hk : KI w) (hno : ∀ i, i < 4 → n ≠ ((kd i).w : Int)) : Calls Tryz.prog 21 #[.agg (u8s S).toArray, .int .i64 n] w fun e w' => e = .returned (.tuple #[.pointer none, .int .i64 1]) ∧ Below w.heap.size w w' := by
  have HN := Lib.hid hno
  have B0 := Lib.hid ((Below.refl w.heap.size w).alloc (Nat.le_refl _) (.cells (u8s S).toArray 27))
  have K0 := Lib.hid (hk.kept B0.out)
  clear hk hno
  go_enter Tryz.func21, Tryz.ntmps21
  go_wp2_with fail
  refine typeOf_t n _ K0.out _ (fun j w1 hj hn _ => absurd hn (HN.out j hj)) (fun w1 _ b1 => ?_)
  have B1 := Lib.hid (B0.out.trans (b1.mono B0.out.size))
  clear b1
  go_wp2_with fail
  go_ret2
  exact ⟨rfl, B1.out⟩
end Go.Proofs.YtkcjiidimmefdaaGreatDoor
