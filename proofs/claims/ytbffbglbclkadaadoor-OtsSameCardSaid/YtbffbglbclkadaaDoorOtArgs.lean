/-
  OtsArgs walked.
-/
import Derived.Test.YtbffbglbclkadaaDoorOtE
namespace Go.Proofs.YtbffbglbclkadaaDoor
open Go Go.RowKit Sh

theorem wide_cases (n : Int) : (∃ i, i < 4 ∧ n = ((kd i).w : Int)) ∨ ∀ i, i < 4 → n ≠ ((kd i).w : Int) := by
  by_cases h : ∃ i, i < 4 ∧ n = ((kd i).w : Int)
  · exact .inl h
  · exact .inr fun i hi e => h ⟨i, hi, e⟩
/-- A whole block is loaded where a guard says yes. -/
theorem load_blk_g {P : Program} {ops : Array Oper} {rest : List Oper} {o : Oper} {a : Act} {w : World} {Q : Exit → Act → World → Prop} (ty : TypeId) (x : Operand) (g : Nat) (t : TypeId) (cs : List Value) (d : TypeDesc)
    (hw : Region.wanted o (yielded ops a.tmps) = true) (ho : o.op = .load ty x) (hg : Blk w g t cs) (hu : P.underlying ty = some d) (hd : d.isRow = true) (hi : (P.info? ty).map (·.size) = some cs.length)
    (hx : a.eval x = .pointer (some ⟨g, 0, none⟩)) (h : wpList P ops Q rest (a.put o.dst (.agg cs.toArray)) w) : wpList P ops Q (o :: rest) a w :=
  BigFrame.wpList_want hw fun _ hK => wload_part ty x g 0 t [] cs [] d ho (by simpa using hg) rfl hu hd hi hx (hK _ _ h)
theorem size48 (l : List Nat) (h : l.length = 48) : (Tryd.prog.info? 26).map (·.size) = some (u8s l).length := by
  rw [u8s_length, h]
  kernel_rfl
theorem size16 (l : List Nat) (h : l.length = 16) : (Tryd.prog.info? 22).map (·.size) = some (u8s l).length := by
  rw [u8s_length, h]
  kernel_rfl
set_option maxRecDepth 100000 in
set_option maxHeartbeats 1000000 in
theorem args_no (S : List Nat) (q n : Int) (A : Option Addr) (m c : Nat) (w : World) (hk : KI w) (hS : S.length = 48) (hm : m ≤ 100) (hq : Nope q n) (hq2 : q < 0 ∨ 32 ≤ q ∨ (0 ≤ q ∧ q < 32 ∧ ∀ i, i < 4 → n ≠ ((kd i).w : Int))) :
    Calls Tryd.prog 6 #[.agg (u8s S).toArray, .int .i64 q, .int .i64 n, .slice A m c] w fun e w' => e = .returned (.bool true) ∧ Below w.heap.size w w' := by
  have B0 := Lib.hid ((Below.refl w.heap.size w).alloc (Nat.le_refl _) (.cells (u8s S).toArray 26))
  have K0 := Lib.hid (hk.kept B0.out)
  have S0 := Lib.hid (Blk.new w 26 (u8s S))
  have HQ := Lib.hid hq; have HS := Lib.hid hS
  have hm1 : (m : Int) ≤ 100 := by omega
  clear hk hq hS
  rcases hq2 with h | h | ⟨h1, h2, h3⟩
  · go_enter Tryd.func6, Tryd.ntmps6
    go_wp2_with ((with_reducible refine load_blk 26 (.tmp 4) w.heap.size 26 (u8s S) _ rfl rfl ?_ Tryd.underlying26 ?_ ?_ ?_ ?_); exact S0.out; exact rfl; exact size48 _ HS.out; exact rfl)
    refine (public_bad S q n _ K0.out HQ.out).mono ?_
    rintro e w1 ⟨rfl, b1⟩
    have B1 := Lib.hid (B0.out.trans (b1.mono B0.out.size)); have K1 := Lib.hid (K0.out.kept b1); have S1 := Lib.hid (S0.out.below b1 S0.out.lt)
    clear b1 B0 K0 S0
    have R1 := Lib.hid (Blk.new w1 24 (u8s z32))
    have b2 := below_setRow ((Below.refl w1.heap.size w1).alloc (Nat.le_refl _) (.cells (u8s z32).toArray 24)) (Nat.le_refl _) (u8s z32).toArray
    have C1 := Lib.hid (R1.out.setRow (u8s z32)); have B2 := Lib.hid (B1.out.trans (b2.mono B1.out.size)); have K2 := Lib.hid (K1.out.kept b2); have S2 := Lib.hid (S1.out.below b2 S1.out.lt)
    clear b2
    go_wp2_with (first
      | ((with_reducible refine store_blk 24 (.tmp 9) (.tmp 37) w1.heap.size 24 (u8s z32) (u8s z32) rfl rfl ?_ ?_ ?_ ?_ ?_ ?_ ?_); exact R1.out; exact rfl; exact z32_size; exact u8s_one _; exact rfl; exact rfl)
      | ((with_reducible refine load_blk 26 (.tmp 4) w.heap.size 26 (u8s S) _ rfl rfl ?_ Tryd.underlying26 ?_ ?_ ?_ ?_); exact S2.out; exact rfl; exact size48 _ HS.out; exact rfl))
    refine (sign_bad S q n A m c _ K2.out HQ.out).mono ?_
    rintro e w3 ⟨rfl, b3⟩
    have B3 := Lib.hid (B2.out.trans (b3.mono B2.out.size)); have K3 := Lib.hid (K2.out.kept b3); have S3 := Lib.hid (S2.out.below b3 S2.out.lt); have C3 := Lib.hid (C1.out.below b3 C1.out.lt)
    clear b3 B2 K2 S2 R1 C1 B1 K1 S1
    obtain ⟨g1, hg1⟩ : ∃ g, w1.heap.size = g := ⟨_, rfl⟩
    rw [hg1] at C3 ⊢
    clear hg1
    have C3' := Lib.hid (show Blk w3 w.heap.size 26 ([] ++ (u8s (S.take 16) ++ u8s (S.drop 16))) by rw [List.nil_append, ← u8s_app, List.take_append_drop]; exact S3.out)
    go_wp2_with ((with_reducible refine load_part 22 (.tmp 48) w.heap.size 0 26 [] (u8s (S.take 16)) (u8s (S.drop 16)) _ rfl rfl ?_ rfl Tryd.underlying22 ?_ ?_ ?_ ?_); exact C3'.out; exact rfl; exact size16 _ (by rw [List.length_take, HS.out]; rfl); exact rfl)
    refine (cand_bad (S.take 16) q n A none m c 0 0 _ K3.out HQ.out).mono ?_
    rintro e w4 ⟨rfl, b4⟩
    have B4 := Lib.hid (B3.out.trans (b4.mono B3.out.size)); have K4 := Lib.hid (K3.out.kept b4); have C4 := Lib.hid (C3.out.below b4 C3.out.lt)
    clear b4 B3 K3 S3 C3 C3'
    have R4 := Lib.hid (Blk.new w4 24 (u8s z32))
    have b5 := below_setRow ((Below.refl w4.heap.size w4).alloc (Nat.le_refl _) (.cells (u8s z32).toArray 24)) (Nat.le_refl _) (u8s z32).toArray
    have D5 := Lib.hid (R4.out.setRow (u8s z32)); have B5 := Lib.hid (B4.out.trans (b5.mono B4.out.size)); have K5 := Lib.hid (K4.out.kept b5); have C5 := Lib.hid (C4.out.below b5 C4.out.lt)
    clear b5
    go_wp2_with ((with_reducible refine store_blk 24 (.tmp 13) (.tmp 54) w4.heap.size 24 (u8s z32) (u8s z32) rfl rfl ?_ ?_ ?_ ?_ ?_ ?_ ?_); exact R4.out; exact rfl; exact z32_size; exact u8s_one _; exact rfl; exact rfl)
    refine (told_t _ K5.out).mono ?_
    rintro e w6 ⟨rfl, b6⟩
    have B6 := Lib.hid (B5.out.trans (b6.mono B5.out.size)); have C6 := Lib.hid (C5.out.below b6 C5.out.lt); have D6 := Lib.hid (D5.out.below b6 D5.out.lt)
    clear b6 B5 K5 C5 D5 R4 B4 K4 C4
    obtain ⟨g4, hg4⟩ : ∃ g, w4.heap.size = g := ⟨_, rfl⟩
    rw [hg4] at D6 ⊢
    clear hg4
    have he : ∀ W, (binOp .eql 24 (.agg (u8s z32).toArray) (.agg #[.int .u8 0, .int .u8 0, .int .u8 0, .int .u8 0, .int .u8 0, .int .u8 0, .int .u8 0, .int .u8 0, .int .u8 0, .int .u8 0, .int .u8 0, .int .u8 0, .int .u8 0, .int .u8 0, .int .u8 0, .int .u8 0, .int .u8 0, .int .u8 0, .int .u8 0, .int .u8 0, .int .u8 0, .int .u8 0, .int .u8 0, .int .u8 0, .int .u8 0, .int .u8 0, .int .u8 0, .int .u8 0, .int .u8 0, .int .u8 0, .int .u8 0, .int .u8 0])).run Tryd.prog W = .ok (.bool true) W := fun W => eql_same z32 rfl W
    go_wp2_with (first
      | ((with_reducible refine load_blk_g 24 (.tmp 9) g1 24 (u8s z32) _ ?_ rfl ?_ Tryd.underlying24 ?_ ?_ ?_ ?_); kernel_rfl; exact C6.out; exact rfl; exact z32_size; exact rfl)
      | ((with_reducible refine load_blk_g 24 (.tmp 13) g4 24 (u8s z32) _ ?_ rfl ?_ Tryd.underlying24 ?_ ?_ ?_ ?_); kernel_rfl; exact D6.out; exact rfl; exact z32_size; exact rfl))
    go_ret
    exact ⟨rfl, B6.out⟩
  · go_enter Tryd.func6, Tryd.ntmps6
    go_wp2_with ((with_reducible refine load_blk 26 (.tmp 4) w.heap.size 26 (u8s S) _ rfl rfl ?_ Tryd.underlying26 ?_ ?_ ?_ ?_); exact S0.out; exact rfl; exact size48 _ HS.out; exact rfl)
    refine (public_bad S q n _ K0.out HQ.out).mono ?_
    rintro e w1 ⟨rfl, b1⟩
    have B1 := Lib.hid (B0.out.trans (b1.mono B0.out.size)); have K1 := Lib.hid (K0.out.kept b1); have S1 := Lib.hid (S0.out.below b1 S0.out.lt)
    clear b1 B0 K0 S0
    have R1 := Lib.hid (Blk.new w1 24 (u8s z32))
    have b2 := below_setRow ((Below.refl w1.heap.size w1).alloc (Nat.le_refl _) (.cells (u8s z32).toArray 24)) (Nat.le_refl _) (u8s z32).toArray
    have C1 := Lib.hid (R1.out.setRow (u8s z32)); have B2 := Lib.hid (B1.out.trans (b2.mono B1.out.size)); have K2 := Lib.hid (K1.out.kept b2); have S2 := Lib.hid (S1.out.below b2 S1.out.lt)
    clear b2
    go_wp2_with (first
      | ((with_reducible refine store_blk 24 (.tmp 9) (.tmp 37) w1.heap.size 24 (u8s z32) (u8s z32) rfl rfl ?_ ?_ ?_ ?_ ?_ ?_ ?_); exact R1.out; exact rfl; exact z32_size; exact u8s_one _; exact rfl; exact rfl)
      | ((with_reducible refine load_blk 26 (.tmp 4) w.heap.size 26 (u8s S) _ rfl rfl ?_ Tryd.underlying26 ?_ ?_ ?_ ?_); exact S2.out; exact rfl; exact size48 _ HS.out; exact rfl))
    refine (sign_bad S q n A m c _ K2.out HQ.out).mono ?_
    rintro e w3 ⟨rfl, b3⟩
    have B3 := Lib.hid (B2.out.trans (b3.mono B2.out.size)); have K3 := Lib.hid (K2.out.kept b3); have S3 := Lib.hid (S2.out.below b3 S2.out.lt); have C3 := Lib.hid (C1.out.below b3 C1.out.lt)
    clear b3 B2 K2 S2 R1 C1 B1 K1 S1
    obtain ⟨g1, hg1⟩ : ∃ g, w1.heap.size = g := ⟨_, rfl⟩
    rw [hg1] at C3 ⊢
    clear hg1
    have C3' := Lib.hid (show Blk w3 w.heap.size 26 ([] ++ (u8s (S.take 16) ++ u8s (S.drop 16))) by rw [List.nil_append, ← u8s_app, List.take_append_drop]; exact S3.out)
    go_wp2_with ((with_reducible refine load_part 22 (.tmp 48) w.heap.size 0 26 [] (u8s (S.take 16)) (u8s (S.drop 16)) _ rfl rfl ?_ rfl Tryd.underlying22 ?_ ?_ ?_ ?_); exact C3'.out; exact rfl; exact size16 _ (by rw [List.length_take, HS.out]; rfl); exact rfl)
    refine (cand_bad (S.take 16) q n A none m c 0 0 _ K3.out HQ.out).mono ?_
    rintro e w4 ⟨rfl, b4⟩
    have B4 := Lib.hid (B3.out.trans (b4.mono B3.out.size)); have K4 := Lib.hid (K3.out.kept b4); have C4 := Lib.hid (C3.out.below b4 C3.out.lt)
    clear b4 B3 K3 S3 C3 C3'
    have R4 := Lib.hid (Blk.new w4 24 (u8s z32))
    have b5 := below_setRow ((Below.refl w4.heap.size w4).alloc (Nat.le_refl _) (.cells (u8s z32).toArray 24)) (Nat.le_refl _) (u8s z32).toArray
    have D5 := Lib.hid (R4.out.setRow (u8s z32)); have B5 := Lib.hid (B4.out.trans (b5.mono B4.out.size)); have K5 := Lib.hid (K4.out.kept b5); have C5 := Lib.hid (C4.out.below b5 C4.out.lt)
    clear b5
    go_wp2_with ((with_reducible refine store_blk 24 (.tmp 13) (.tmp 54) w4.heap.size 24 (u8s z32) (u8s z32) rfl rfl ?_ ?_ ?_ ?_ ?_ ?_ ?_); exact R4.out; exact rfl; exact z32_size; exact u8s_one _; exact rfl; exact rfl)
    refine (told_t _ K5.out).mono ?_
    rintro e w6 ⟨rfl, b6⟩
    have B6 := Lib.hid (B5.out.trans (b6.mono B5.out.size)); have C6 := Lib.hid (C5.out.below b6 C5.out.lt); have D6 := Lib.hid (D5.out.below b6 D5.out.lt)
    clear b6 B5 K5 C5 D5 R4 B4 K4 C4
    obtain ⟨g4, hg4⟩ : ∃ g, w4.heap.size = g := ⟨_, rfl⟩
    rw [hg4] at D6 ⊢
    clear hg4
    have he : ∀ W, (binOp .eql 24 (.agg (u8s z32).toArray) (.agg #[.int .u8 0, .int .u8 0, .int .u8 0, .int .u8 0, .int .u8 0, .int .u8 0, .int .u8 0, .int .u8 0, .int .u8 0, .int .u8 0, .int .u8 0, .int .u8 0, .int .u8 0, .int .u8 0, .int .u8 0, .int .u8 0, .int .u8 0, .int .u8 0, .int .u8 0, .int .u8 0, .int .u8 0, .int .u8 0, .int .u8 0, .int .u8 0, .int .u8 0, .int .u8 0, .int .u8 0, .int .u8 0, .int .u8 0, .int .u8 0, .int .u8 0, .int .u8 0])).run Tryd.prog W = .ok (.bool true) W := fun W => eql_same z32 rfl W
    go_wp2_with (first
      | ((with_reducible refine load_blk_g 24 (.tmp 9) g1 24 (u8s z32) _ ?_ rfl ?_ Tryd.underlying24 ?_ ?_ ?_ ?_); kernel_rfl; exact C6.out; exact rfl; exact z32_size; exact rfl)
      | ((with_reducible refine load_blk_g 24 (.tmp 13) g4 24 (u8s z32) _ ?_ rfl ?_ Tryd.underlying24 ?_ ?_ ?_ ?_); kernel_rfl; exact D6.out; exact rfl; exact z32_size; exact rfl))
    go_ret
    exact ⟨rfl, B6.out⟩
  · have H3 := Lib.hid h3
    clear h3
    go_enter Tryd.func6, Tryd.ntmps6
    go_wp2_with fail
    refine (chains_no n H3.out _ K0.out).mono ?_
    rintro e w0 ⟨rfl, b0⟩
    have B0' := Lib.hid (B0.out.trans (b0.mono B0.out.size)); have K0' := Lib.hid (K0.out.kept b0); have S0' := Lib.hid (S0.out.below b0 S0.out.lt)
    clear b0 B0 K0 S0
    have B0 := B0'; have K0 := K0'; have S0 := S0'
    clear B0' K0' S0'
    go_wp2_with ((with_reducible refine load_blk 26 (.tmp 4) w.heap.size 26 (u8s S) _ rfl rfl ?_ Tryd.underlying26 ?_ ?_ ?_ ?_); exact S0.out; exact rfl; exact size48 _ HS.out; exact rfl)
    refine (public_bad S q n _ K0.out HQ.out).mono ?_
    rintro e w1 ⟨rfl, b1⟩
    have B1 := Lib.hid (B0.out.trans (b1.mono B0.out.size)); have K1 := Lib.hid (K0.out.kept b1); have S1 := Lib.hid (S0.out.below b1 S0.out.lt)
    clear b1 B0 K0 S0
    have R1 := Lib.hid (Blk.new w1 24 (u8s z32))
    have b2 := below_setRow ((Below.refl w1.heap.size w1).alloc (Nat.le_refl _) (.cells (u8s z32).toArray 24)) (Nat.le_refl _) (u8s z32).toArray
    have C1 := Lib.hid (R1.out.setRow (u8s z32)); have B2 := Lib.hid (B1.out.trans (b2.mono B1.out.size)); have K2 := Lib.hid (K1.out.kept b2); have S2 := Lib.hid (S1.out.below b2 S1.out.lt)
    clear b2
    go_wp2_with (first
      | ((with_reducible refine store_blk 24 (.tmp 9) (.tmp 37) w1.heap.size 24 (u8s z32) (u8s z32) rfl rfl ?_ ?_ ?_ ?_ ?_ ?_ ?_); exact R1.out; exact rfl; exact z32_size; exact u8s_one _; exact rfl; exact rfl)
      | ((with_reducible refine load_blk 26 (.tmp 4) w.heap.size 26 (u8s S) _ rfl rfl ?_ Tryd.underlying26 ?_ ?_ ?_ ?_); exact S2.out; exact rfl; exact size48 _ HS.out; exact rfl))
    refine (sign_bad S q n A m c _ K2.out HQ.out).mono ?_
    rintro e w3 ⟨rfl, b3⟩
    have B3 := Lib.hid (B2.out.trans (b3.mono B2.out.size)); have K3 := Lib.hid (K2.out.kept b3); have S3 := Lib.hid (S2.out.below b3 S2.out.lt); have C3 := Lib.hid (C1.out.below b3 C1.out.lt)
    clear b3 B2 K2 S2 R1 C1 B1 K1 S1
    obtain ⟨g1, hg1⟩ : ∃ g, w1.heap.size = g := ⟨_, rfl⟩
    rw [hg1] at C3 ⊢
    clear hg1
    have C3' := Lib.hid (show Blk w3 w.heap.size 26 ([] ++ (u8s (S.take 16) ++ u8s (S.drop 16))) by rw [List.nil_append, ← u8s_app, List.take_append_drop]; exact S3.out)
    go_wp2_with ((with_reducible refine load_part 22 (.tmp 48) w.heap.size 0 26 [] (u8s (S.take 16)) (u8s (S.drop 16)) _ rfl rfl ?_ rfl Tryd.underlying22 ?_ ?_ ?_ ?_); exact C3'.out; exact rfl; exact size16 _ (by rw [List.length_take, HS.out]; rfl); exact rfl)
    refine (cand_bad (S.take 16) q n A none m c 0 0 _ K3.out HQ.out).mono ?_
    rintro e w4 ⟨rfl, b4⟩
    have B4 := Lib.hid (B3.out.trans (b4.mono B3.out.size)); have K4 := Lib.hid (K3.out.kept b4); have C4 := Lib.hid (C3.out.below b4 C3.out.lt)
    clear b4 B3 K3 S3 C3 C3'
    have R4 := Lib.hid (Blk.new w4 24 (u8s z32))
    have b5 := below_setRow ((Below.refl w4.heap.size w4).alloc (Nat.le_refl _) (.cells (u8s z32).toArray 24)) (Nat.le_refl _) (u8s z32).toArray
    have D5 := Lib.hid (R4.out.setRow (u8s z32)); have B5 := Lib.hid (B4.out.trans (b5.mono B4.out.size)); have K5 := Lib.hid (K4.out.kept b5); have C5 := Lib.hid (C4.out.below b5 C4.out.lt)
    clear b5
    go_wp2_with ((with_reducible refine store_blk 24 (.tmp 13) (.tmp 54) w4.heap.size 24 (u8s z32) (u8s z32) rfl rfl ?_ ?_ ?_ ?_ ?_ ?_ ?_); exact R4.out; exact rfl; exact z32_size; exact u8s_one _; exact rfl; exact rfl)
    refine (told_t _ K5.out).mono ?_
    rintro e w6 ⟨rfl, b6⟩
    have B6 := Lib.hid (B5.out.trans (b6.mono B5.out.size)); have C6 := Lib.hid (C5.out.below b6 C5.out.lt); have D6 := Lib.hid (D5.out.below b6 D5.out.lt)
    clear b6 B5 K5 C5 D5 R4 B4 K4 C4
    obtain ⟨g4, hg4⟩ : ∃ g, w4.heap.size = g := ⟨_, rfl⟩
    rw [hg4] at D6 ⊢
    clear hg4
    have he : ∀ W, (binOp .eql 24 (.agg (u8s z32).toArray) (.agg #[.int .u8 0, .int .u8 0, .int .u8 0, .int .u8 0, .int .u8 0, .int .u8 0, .int .u8 0, .int .u8 0, .int .u8 0, .int .u8 0, .int .u8 0, .int .u8 0, .int .u8 0, .int .u8 0, .int .u8 0, .int .u8 0, .int .u8 0, .int .u8 0, .int .u8 0, .int .u8 0, .int .u8 0, .int .u8 0, .int .u8 0, .int .u8 0, .int .u8 0, .int .u8 0, .int .u8 0, .int .u8 0, .int .u8 0, .int .u8 0, .int .u8 0, .int .u8 0])).run Tryd.prog W = .ok (.bool true) W := fun W => eql_same z32 rfl W
    go_wp2_with (first
      | ((with_reducible refine load_blk_g 24 (.tmp 9) g1 24 (u8s z32) _ ?_ rfl ?_ Tryd.underlying24 ?_ ?_ ?_ ?_); kernel_rfl; exact C6.out; exact rfl; exact z32_size; exact rfl)
      | ((with_reducible refine load_blk_g 24 (.tmp 13) g4 24 (u8s z32) _ ?_ rfl ?_ Tryd.underlying24 ?_ ?_ ?_ ?_); kernel_rfl; exact D6.out; exact rfl; exact z32_size; exact rfl))
    go_ret
    exact ⟨rfl, B6.out⟩
set_option maxRecDepth 100000 in
set_option maxHeartbeats 1000000 in
theorem args_t (S : List Nat) (q n : Int) (A : Option Addr) (m c : Nat) (w : World) (hk : KI w) (hS : S.length = 48) (hmm : m ≤ 9223372036854775807) :
    Calls Tryd.prog 6 #[.agg (u8s S).toArray, .int .i64 q, .int .i64 n, .slice A m c] w fun e w' => e = .returned (.bool true) ∧ Below w.heap.size w w' := by
  have B0 := Lib.hid ((Below.refl w.heap.size w).alloc (Nat.le_refl _) (.cells (u8s S).toArray 26))
  have K0 := Lib.hid (hk.kept B0.out)
  by_cases hm : 100 < m
  · clear hk hS
    go_enter Tryd.func6, Tryd.ntmps6
    go_wp2_with fail
    refine (told_t _ K0.out).mono ?_
    rintro e w2 ⟨rfl, b2⟩
    go_wp2_with fail
    go_ret
    exact ⟨rfl, B0.out.trans (b2.mono B0.out.size)⟩
  · have hm2 : m ≤ 100 := by omega
    by_cases h1 : q < 0
    · exact args_no S q n A m c w hk hS hm2 (.inr (.inl h1)) (.inl h1)
    · by_cases h2 : 32 ≤ q
      · exact args_no S q n A m c w hk hS hm2 (.inr (.inr h2)) (.inr (.inl h2))
      · rcases wide_cases n with ⟨i, hi, rfl⟩ | h3
        · have q1 : 0 ≤ q := by omega
          have q2 : q < 32 := by omega
          have m1 : (m : Int) ≤ 100 := by omega
          have p0 : (0 : Int) < ((kd i).p : Int) := by
            have : i = 0 ∨ i = 1 ∨ i = 2 ∨ i = 3 := by omega
            rcases this with rfl | rfl | rfl | rfl <;> decide
          have CH := Lib.hid (fun W hW => chains_of i hi W hW)
          obtain ⟨n, hn⟩ : ∃ n, ((kd i).w : Int) = n := ⟨_, rfl⟩
          obtain ⟨p, hp⟩ : ∃ p, ((kd i).p : Int) = p := ⟨_, rfl⟩
          rw [hn, hp] at CH
          rw [hp] at p0
          rw [hn]
          clear hk hS hm hm2 h1 h2 hn hp
          go_enter Tryd.func6, Tryd.ntmps6
          go_wp2_with fail
          refine (CH.out _ K0.out).mono ?_
          rintro e w1 ⟨rfl, b1⟩
          have B1 := Lib.hid (B0.out.trans (b1.mono B0.out.size)); have K1 := Lib.hid (K0.out.kept b1)
          clear b1
          go_wp2_with fail
          refine (told_t _ K1.out).mono ?_
          rintro e w2 ⟨rfl, b2⟩
          go_wp2_with fail
          go_ret
          exact ⟨rfl, B1.out.trans (b2.mono B1.out.size)⟩
        · exact args_no S q n A m c w hk hS hm2 (.inl h3) (.inr (.inr ⟨by omega, by omega, h3⟩))
end Go.Proofs.YtbffbglbclkadaaDoor
