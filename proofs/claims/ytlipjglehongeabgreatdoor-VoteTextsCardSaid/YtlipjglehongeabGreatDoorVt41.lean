/-
  What the size of a tree's signature is (picked out of layers
-/
import Derived.Test.YtlipjglehongeabGreatDoorVt13
import Derived.Laws.ResultCell
import Derived.Deep.RegionHeld3
import Derived.WalkSpells
namespace Go.Proofs.YtlipjglehongeabGreatDoor
open Go Go.RowKit Sh

theorem kz_size : (Tryz.prog.info? 115).map (·.size) = some kz.length := by
  show (Tryz.prog.info? 115).map (·.size) = some 4
  kernel_rfl
theorem kz_one : kz.toArray.all (·.oneCell') = true := by simp [kz, Value.oneCell']
set_option maxRecDepth 100000 in
set_option maxHeartbeats 1000000 in
theorem find_t (n : Int) (w : World) (hk : KI w) (R : Ending → World → Prop)
    (hyes : ∀ i w', i < 4 → n = ((kd i).w : Int) → Below w.heap.size w w' → R (.returned (.tuple #[.agg (kv (kd i)).toArray, .bool true])) w')
    (hno : ∀ w', (∀ i, i < 4 → n ≠ ((kd i).w : Int)) → Below w.heap.size w w' → R (.returned (.tuple #[.agg kz.toArray, .bool false])) w') :
    Calls Tryz.prog 68 #[.int .i64 n] w R := by
  have HK := Lib.hid hk; have HY := Lib.hid hyes; have HN := Lib.hid hno
  have R0 := Lib.hid (Blk.new w 115 kz)
  have B0 := Lib.hid ((Below.refl w.heap.size w).alloc (Nat.le_refl _) (.cells kz.toArray 115))
  clear hk hyes hno
  go_enter Tryz.func68, Tryz.ntmps68
  go_wp2_with ((with_reducible refine wpList_load_mid rfl 144 (.global 0) rfl 0 0 ?_ kds _ ?_ Tryz.underlying144 ?_ ?_ ?_); exact rfl; exact (HK.out.kept B0.out).at_; exact rfl; exact kds_size)
  go_loopw [7] (fun i wr => ∃ k : Nat, k ≤ 4 ∧ i = .int .i64 k ∧ (∀ j, j < k → n ≠ ((kd j).w : Int)) ∧ Blk wr w.heap.size 115 kz ∧ Below w.heap.size w wr) (fun i _ => 4 - (intOf i).toNat)
  case atStart => exact ⟨0, by omega, rfl, fun j hj => absurd hj (by omega), R0.out, B0.out⟩
  case round =>
    obtain ⟨k, hk, rfl, hn, hr, hb⟩ := hrel
    have HNK := Lib.hid hn; have HR := Lib.hid hr; have HB := Lib.hid hb
    have b1 := HB.out.size
    have l1 := HR.out.lt
    clear hn hr hb R0 B0
    by_cases hlt : k < 4
    · have hix := kd_index k hlt
      by_cases he : n = ((kd k).w : Int)
      · have he2 : (((kd k).w : Int) == n) = true := by simp [he]
        have HE := Lib.hid he
        clear he
        have RN := Lib.hid (Blk.new wr 115 kz)
        have c1 : (((wr.alloc (.cells #[.int .u64 0, .int .i64 0, .int .i64 0, .int .i64 0] 115)).setRow wr.heap.size (kv (kd k)).toArray)).cell? ⟨wr.heap.size, 1, none⟩ = some (.int .i64 ((kd k).w : Int)) := (RN.out.setRow (kv (kd k))).cell 1
        go_wp2_with (first
          | ((with_reducible refine store_blk 115 (.tmp 5) (.tmp 9) wr.heap.size 115 kz (kv (kd k)) rfl rfl ?_ ?_ ?_ ?_ ?_ ?_ ?_); exact RN.out; exact rfl; exact kv_size _; exact kv_one _; exact rfl; exact rfl)
          | ((with_reducible refine load_blk 115 (.tmp 5) wr.heap.size 115 (kv (kd k)) _ rfl rfl ?_ Tryz.underlying115 ?_ ?_ ?_ ?_); exact RN.out.setRow _; exact rfl; exact kv_size _; exact rfl)
          | ((with_reducible refine store_blk 115 (.tmp 2) (.tmp 14) w.heap.size 115 kz (kv (kd k)) rfl rfl ?_ ?_ ?_ ?_ ?_ ?_ ?_); exact (HR.out.alloc _).setRow_far (by omega) _; exact rfl; exact kv_size _; exact kv_one _; exact rfl; exact rfl))
        refine ret_blk2 (p := 2) (u := 3) (ty := 115) rfl rfl w.heap.size 115 (kv (kd k)) _ rfl (((HR.out.alloc _).setRow_far (by omega) _).setRow _) Tryz.underlying115 rfl (kv_size _) (.bool true) rfl ?_
        exact HY.out k _ hlt HE.out (below_setRow (below_setRow (HB.out.alloc HB.out.size _) (by omega) _) (Nat.le_refl _) _)
      · have he2 : (((kd k).w : Int) == n) = false := by rw [beq_eq_false_iff_ne]; exact fun e => he e.symm
        have HE := Lib.hid he
        clear he
        have RN := Lib.hid (Blk.new wr 115 kz)
        have c1 : (((wr.alloc (.cells #[.int .u64 0, .int .i64 0, .int .i64 0, .int .i64 0] 115)).setRow wr.heap.size (kv (kd k)).toArray)).cell? ⟨wr.heap.size, 1, none⟩ = some (.int .i64 ((kd k).w : Int)) := (RN.out.setRow (kv (kd k))).cell 1
        go_wp2_with (first
          | ((with_reducible refine store_blk 115 (.tmp 5) (.tmp 9) wr.heap.size 115 kz (kv (kd k)) rfl rfl ?_ ?_ ?_ ?_ ?_ ?_ ?_); exact RN.out; exact rfl; exact kv_size _; exact kv_one _; exact rfl; exact rfl))
        go_roundw
        case rel =>
          refine ⟨k + 1, by omega, by go_num, fun j hj => ?_, (HR.out.alloc _).setRow_far (by omega) _, below_setRow (HB.out.alloc HB.out.size _) (by omega) _⟩
          rcases Nat.lt_or_ge j k with h | h
          · exact HNK.out j h
          · obtain rfl : j = k := by omega
            exact HE.out
        case measure => simp [intOf]; omega
    · obtain rfl : k = 4 := by omega
      go_wp2_with ((with_reducible refine store_blk 115 (.tmp 2) (.tmp 16) w.heap.size 115 kz kz rfl rfl ?_ ?_ ?_ ?_ ?_ ?_ ?_); exact HR.out; exact rfl; exact kz_size; exact kz_one; exact rfl; exact rfl)
      refine ret_blk2 (p := 2) (u := 3) (ty := 115) rfl rfl w.heap.size 115 kz _ rfl (HR.out.setRow _) Tryz.underlying115 rfl kz_size (.bool false) rfl ?_
      exact HN.out _ HNK.out (below_setRow HB.out (Nat.le_refl _) _)

theorem kd_p (i : Nat) (hi : i < 4) : (kd i).p ≤ 265 := by
  have : i = 0 ∨ i = 1 ∨ i = 2 ∨ i = 3 := by omega
  rcases this with rfl | rfl | rfl | rfl <;> decide
section
variable {P : Program} {ops : Array Oper} {rest : List Oper} {o : Oper} {a : Act} {Q : Exit → Act → World → Prop} {w : World}
end
set_option maxRecDepth 100000 in
theorem chains_t (n : Int) (w : World) (hk : KI w) (R : Ending → World → Prop)
    (hyes : ∀ i w', i < 4 → n = ((kd i).w : Int) → Below w.heap.size w w' → R (.returned (.int .i64 ((kd i).p : Int))) w')
    (hno : ∀ w', (∀ i, i < 4 → n ≠ ((kd i).w : Int)) → Below w.heap.size w w' → R (.returned (.int .i64 0)) w') : Calls Tryz.prog 67 #[.int .i64 n] w R := by
  have HK := Lib.hid hk; have HY := Lib.hid hyes; have HN := Lib.hid hno
  clear hk hyes hno
  go_enter Tryz.func67, Tryz.ntmps67
  go_wp2_with fail
  refine find_t n w HK.out _ (fun i w1 hi hn b1 => ?_) (fun w1 hn b1 => ?_)
  · have HN' := Lib.hid hn; have B1 := Lib.hid b1; have R1 := Lib.hid (Blk.new w1 115 kz)
    have c1 : ((w1.alloc (.cells #[.int .u64 0, .int .i64 0, .int .i64 0, .int .i64 0] 115)).setRow w1.heap.size (kv (kd i)).toArray).cell? ⟨w1.heap.size, 2, none⟩ = some (.int .i64 ((kd i).p : Int)) := (R1.out.setRow (kv (kd i))).cell 2
    clear hn b1
    go_wp2_with ((with_reducible refine store_blk 115 (.tmp 3) (.tmp 8) w1.heap.size 115 kz (kv (kd i)) rfl rfl ?_ ?_ ?_ ?_ ?_ ?_ ?_); exact R1.out; exact rfl; exact kv_size _; exact kv_one _; exact rfl; exact rfl)
    exact HY.out i _ hi HN'.out (below_setRow (B1.out.alloc B1.out.size _) B1.out.size _)
  · have HN' := Lib.hid hn; have B1 := Lib.hid b1; have R1 := Lib.hid (Blk.new w1 115 kz)
    have c1 : ((w1.alloc (.cells #[.int .u64 0, .int .i64 0, .int .i64 0, .int .i64 0] 115)).setRow w1.heap.size kz.toArray).cell? ⟨w1.heap.size, 2, none⟩ = some (.int .i64 0) := (R1.out.setRow kz).cell 2
    clear hn b1
    go_wp2_with ((with_reducible refine store_blk 115 (.tmp 3) (.tmp 8) w1.heap.size 115 kz kz rfl rfl ?_ ?_ ?_ ?_ ?_ ?_ ?_); exact R1.out; exact rfl; exact kz_size; exact kz_one; exact rfl; exact rfl)
    exact HN.out _ HN'.out (below_setRow (B1.out.alloc B1.out.size _) B1.out.size _)
theorem kd_inj {i j : Nat} (hi : i < 4) (hj : j < 4) (h : (kd i).w = (kd j).w) : i = j := by
  have h1 : i = 0 ∨ i = 1 ∨ i = 2 ∨ i = 3 := by omega
  have h2 : j = 0 ∨ j = 1 ∨ j = 2 ∨ j = 3 := by omega
  rcases h1 with rfl | rfl | rfl | rfl <;> rcases h2 with rfl | rfl | rfl | rfl <;> first | rfl | (exact absurd h (by decide))
theorem chains_of (i : Nat) (hi : i < 4) (w : World) (hk : KI w) : Calls Tryz.prog 67 #[.int .i64 ((kd i).w : Int)] w fun e w' => e = .returned (.int .i64 ((kd i).p : Int)) ∧ Below w.heap.size w w' :=
  chains_t _ w hk _ (fun j _ hj hn b => by
    obtain rfl := kd_inj hi hj (by omega)
    exact ⟨rfl, b⟩) (fun _ hn _ => absurd rfl (hn i hi))
theorem kd_code (i : Nat) (hi : i < 4) : (kd i).code = i + 1 := by
  have : i = 0 ∨ i = 1 ∨ i = 2 ∨ i = 3 := by omega
  rcases this with rfl | rfl | rfl | rfl <;> rfl
set_option maxHeartbeats 400000 in
theorem index_t (g c : Nat) (n : Int) (w : World) (hc : ∀ j, j < 4 → w.cell? ⟨g, j, none⟩ = some (.int .i64 ((kd j).w : Int))) (R : Ending → World → Prop)
    (hyes : ∀ i : Nat, i < 4 → n = ((kd i).w : Int) → R (.returned (.int .i64 (i : Int))) w) (hno : (∀ i, i < 4 → n ≠ ((kd i).w : Int)) → R (.returned (.int .i64 (-1))) w) :
    Calls Tryz.prog 89 #[.slice (some ⟨g, 0, none⟩) 4 c, .int .i64 n] w R := by
  have HC := Lib.hid hc; have HY := Lib.hid hyes; have HN := Lib.hid hno
  clear hc hyes hno
  go_enter Tryz.func89, Tryz.ntmps89
  go_wp2_with fail
  go_loopw [8] (fun i wr => ∃ k : Nat, k ≤ 4 ∧ i = .int .i64 k ∧ (∀ j, j < k → n ≠ ((kd j).w : Int)) ∧ wr = w) (fun i _ => 4 - (intOf i).toNat)
  case atStart => exact ⟨0, by omega, rfl, fun j hj => absurd hj (by omega), by first | rfl | trivial⟩
  case round =>
    obtain ⟨k, hk, rfl, hn, rfl⟩ := hrel
    have HNK := Lib.hid hn
    clear hn
    by_cases hlt : k < 4
    · have c0 := HC.out k hlt
      by_cases he : n = ((kd k).w : Int)
      · have he2 : (n == ((kd k).w : Int)) = true := by simp [he]
        have HE := Lib.hid he
        clear he
        go_wp2_with fail
        exact HY.out k hlt HE.out
      · have he2 : (n == ((kd k).w : Int)) = false := by rw [beq_eq_false_iff_ne]; exact he
        have HE := Lib.hid he
        clear he
        go_wp2_with fail
        go_roundw
        case rel =>
          refine ⟨k + 1, by omega, by go_num, fun j hj => ?_, by first | rfl | trivial⟩
          rcases Nat.lt_or_ge j k with h | h
          · exact HNK.out j h
          · obtain rfl : j = k := by omega
            exact HE.out
        case measure => simp [intOf]; omega
    · obtain rfl : k = 4 := by omega
      go_wp2_with fail
      exact HN.out HNK.out
theorem typeOf_t (n : Int) (w : World) (hk : KI w) (R : Ending → World → Prop)
    (hyes : ∀ i w', i < 4 → n = ((kd i).w : Int) → Below w.heap.size w w' → R (.returned (.int .u64 ((kd i).code : Int))) w')
    (hno : ∀ w', (∀ i, i < 4 → n ≠ ((kd i).w : Int)) → Below w.heap.size w w' → R (.returned (.int .u64 0)) w') : Calls Tryz.prog 66 #[.int .i64 n] w R := by
  have HK := Lib.hid hk; have HY := Lib.hid hyes; have HN := Lib.hid hno
  clear hk hyes hno
  go_enter Tryz.func66, Tryz.ntmps66
  go_wp2_with fail
  refine (types_t w HK.out).mono ?_
  rintro e w1 ⟨v, rfl, o1, b1⟩
  obtain ⟨g1, c1, rfl, hc1, hv1, l1⟩ := own_cell o1 (by decide)
  have V1 := Lib.hid (fun j (hj : j < 4) => (hv1 j hj).trans (by rw [gt_widths j hj])); have B1 := Lib.hid b1
  clear o1 b1 hv1 HK
  go_wp2_with fail
  refine index_t g1 c1 n w1 V1.out _ (fun i hi hn => ?_) (fun hn => ?_)
  · have HI := Lib.hid hn
    have i4 : (i : Int) < 4 := by omega
    clear hn
    go_wp2_with fail
    have := HY.out i w1 hi HI.out B1.out
    rw [kd_code i hi] at this
    exact this
  · have HI := Lib.hid hn
    clear hn
    go_wp2_with fail
    exact HN.out w1 HI.out B1.out
theorem otsSize_t (i : Nat) (hi : i < 4) (w : World) (hk : KI w) :
    Calls Tryz.prog 48 #[.int .i64 ((kd i).w : Int)] w fun e w' => e = .returned (.int .i64 ((36 + 32 * (kd i).p : Nat) : Int)) ∧ Below w.heap.size w w' := by
  have CH := Lib.hid (chains_of i hi w hk)
  have hp := kd_p i hi
  obtain ⟨p, hpp⟩ : ∃ p, (kd i).p = p := ⟨_, rfl⟩
  obtain ⟨v, hv⟩ : ∃ v, (kd i).w = v := ⟨_, rfl⟩
  rw [hpp, hv] at CH
  rw [hpp] at hp
  rw [hpp, hv]
  clear hk hpp hv
  go_enter Tryz.func48, Tryz.ntmps48
  go_wp2_with fail
  refine CH.out.mono ?_
  rintro e w1 ⟨rfl, b1⟩
  have B1 := Lib.hid b1
  clear b1
  go_wp2_with fail
  go_ret
  exact ⟨congrArg (fun z : Int => Ending.returned (.int .i64 z)) (by omega), B1.out⟩
def lszN (i : Nat) : Nat := 204 + 32 * (kd i).p
theorem size_yes (i : Nat) (hi : i < 4) (w : World) (hk : KI w) :
    Calls Tryz.prog 47 #[.int .i64 ((kd i).w : Int)] w fun e w' => e = .returned (.int .i64 ((lszN i : Nat) : Int)) ∧ Below w.heap.size w w' := by
  have OS := Lib.hid (fun W hW => otsSize_t i hi W hW); have HK := Lib.hid hk
  have hp := kd_p i hi
  unfold lszN
  obtain ⟨p, hpp⟩ : ∃ p, (kd i).p = p := ⟨_, rfl⟩
  obtain ⟨v, hv⟩ : ∃ v, (kd i).w = v := ⟨_, rfl⟩
  rw [hpp, hv] at OS
  rw [hpp] at hp
  rw [hpp, hv]
  have HV := Lib.hid hv
  clear hk hpp hv
  go_enter Tryz.func47, Tryz.ntmps47
  go_wp2_with fail
  refine typeOf_t (v : Int) w HK.out _ (fun j w1 hj hn b1 => ?_) (fun _ hn _ => absurd (by rw [HV.out]) (hn i hi))
  have c1 : (((kd j).code : Int) == 0) = false := by rw [beq_eq_false_iff_ne, kd_code j hj]; omega
  have B1 := Lib.hid b1
  obtain ⟨co, hco⟩ : ∃ c, (kd j).code = c := ⟨_, rfl⟩
  rw [hco] at c1 ⊢
  clear hn b1 hco
  go_wp2_with fail
  refine (OS.out w1 (HK.out.kept B1.out)).mono ?_
  rintro e w2 ⟨rfl, b2⟩
  have B2 := Lib.hid (B1.out.trans (b2.mono B1.out.size))
  have q1 : (((36 + 32 * p : Nat)) : Int) ≤ 9000 := by omega
  clear b2
  go_wp2_with fail
  go_ret
  exact ⟨congrArg (fun z : Int => Ending.returned (.int .i64 z)) (by omega), B2.out⟩
end Go.Proofs.YtlipjglehongeabGreatDoor
