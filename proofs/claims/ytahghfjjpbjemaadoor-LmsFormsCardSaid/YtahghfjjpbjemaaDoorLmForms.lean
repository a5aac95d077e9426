/-
  LmsForms walked.
-/
import Derived.Test.YtahghfjjpbjemaaDoorLmD
import Derived.Test.YtahghfjjpbjemaaDoorLmFn
import Derived.Test.YtahghfjjpbjemaaDoorOtH
import Derived.Deep.OwnRows
import Derived.Deep.DeepCutAuto
namespace Go.Proofs.YtahghfjjpbjemaaDoor
open Go Go.RowKit Sh

set_option maxRecDepth 100000 in
set_option maxHeartbeats 4000000 in
theorem lforms_t (n a b at_ : Int) (x : Nat) (w : World) (hx : x < 256) (hki : KI w) :
    Calls Tryd.prog 7 #[.int .i64 n, .int .i64 a, .int .i64 b, .int .i64 at_, .int .u8 (x : Int)] w fun e w' => e = .returned (.bool true) ∧ Below w.heap.size w w' := by
  have HKI := Lib.hid hki; have HX := Lib.hid hx
  obtain ⟨ka, hka, hke⟩ := mod_u 5 (by decide) (by decide) n
  obtain ⟨a8, ha8, hae⟩ := mod_u 8 (by decide) (by decide) a
  obtain ⟨b7, hb7, hbe⟩ := mod_u 7 (by decide) (by decide) b
  rw [show ((5 : Nat) : Int) = 5 from rfl] at hke
  rw [show ((8 : Nat) : Int) = 8 from rfl] at hae
  rw [show ((7 : Nat) : Int) = 7 from rfl] at hbe
  have ka1 : (ka : Int) < 5 := by omega
  have a1 : (a8 : Int) < 8 := by omega
  have b1 : (b7 : Int) < 7 := by omega
  have x1 : (x : Int) < 256 := by omega
  clear hki hx
  go_enter Tryd.func7, Tryd.ntmps7
  go_upto_region 2 with (fail)
  obtain ⟨k, hkk⟩ : ∃ k, 54 + ka = k := ⟨_, rfl⟩
  rw [show (54 : Int) + (ka : Int) = (k : Int) from by omega]
  have k1 : (54 : Int) ≤ (k : Int) := by omega
  have k2 : (k : Int) ≤ 58 := by omega
  have hmk := run_make_row' (P := Tryd.prog) 34 5 (.int .u8 0) 1 Tryd.underlying34 byte_info rfl .i64 .i64 k (by omega) (by omega)
  have HKK := Lib.hid hkk
  clear hke hkk
  go_upto_region 3 with (fail)
  rw [made_zero]
  have bn := Blk.new w 5 (u8s (List.replicate k 0))
  refine world_is (fun X => Blk X w.heap.size 5 (u8s (List.replicate k 0)) ∧ Below w.heap.size w X) ⟨bn, (Below.refl _ _).alloc (Nat.le_refl _) _⟩ ?_
  rintro X ⟨p0, bx⟩
  have c3 : X.cell? ⟨w.heap.size, 3, none⟩ = some (.int .u8 ((gt (List.replicate k 0) 3 : Nat) : Int)) := by rw [p0.cell, u8s_get _ _ (by rw [List.length_replicate]; omega)]
  have c7 : X.cell? ⟨w.heap.size, 7, none⟩ = some (.int .u8 ((gt (List.replicate k 0) 7 : Nat) : Int)) := by rw [p0.cell, u8s_get _ _ (by rw [List.length_replicate]; omega)]
  have f3 := p0.frozen 3
  have f7 := p0.frozen 7
  have P0 := Lib.hid p0; have BX := Lib.hid bx
  clear p0 bx bn hmk
  go_upto_region 4 with (fail)
  clear c3 c7 f3 f7 hae hbe
  have m2 := (P0.out.store 3 (.int .u8 (a8 : Int))).store 7 (.int .u8 (b7 : Int))
  rw [u8s_set, u8s_set, show ((List.replicate k 0).set 3 a8).set 7 b7 = keyP k a8 b7 from rfl] at m2
  refine world_is (fun X => Blk X w.heap.size 5 (u8s (keyP k a8 b7)) ∧ Below w.heap.size w X) ⟨m2, (BX.out.setCell (Nat.le_refl _) _).setCell (Nat.le_refl _) _⟩ ?_
  clear m2 P0 BX
  rintro Y ⟨p0, bx⟩
  have P1 := Lib.hid p0; have BY := Lib.hid bx
  clear p0 bx
  have c3 : Y.cell? ⟨w.heap.size, 3, none⟩ = some (.int .u8 (a8 : Int)) := by rw [P1.out.cell, u8s_get _ _ (by rw [keyP_length]; omega), keyP_3 _ _ _ (by omega)]
  have c7 : Y.cell? ⟨w.heap.size, 7, none⟩ = some (.int .u8 (b7 : Int)) := by rw [P1.out.cell, u8s_get _ _ (by rw [keyP_length]; omega), keyP_7 _ _ _ (by omega)]
  go_cut [13] (fun s13 wx => s13 = .bool (mayN k a8 b7) ∧ wx = Y)
  case first =>
    by_cases h1 : k = 56
    · have t1 : ((k : Int) == 56) = true := by rw [beq_iff_eq]; omega
      by_cases h2 : a8 = 5
      · have t2 : ((a8 : Int) == 5) = true := by rw [beq_iff_eq]; omega
        by_cases h3 : 1 ≤ b7
        · have t3 : (1 : Int) ≤ (b7 : Int) := by omega
          by_cases h4 : b7 ≤ 4
          · have t4 : (b7 : Int) ≤ 4 := by omega
            have HM := Lib.hid (show mayN k a8 b7 = true from decide_eq_true ⟨h1, h2, h3, h4⟩)
            clear h1 h2 h3 h4
            go_wp2_with fail
            go_meet
            exact ⟨by rw [HM.out], rfl⟩
          · have t4 : ¬ ((b7 : Int) ≤ 4) := by omega
            have HM := Lib.hid (show mayN k a8 b7 = false from decide_eq_false (by omega))
            clear h1 h2 h3 h4
            go_wp2_with fail
            go_meet
            exact ⟨by rw [HM.out], rfl⟩
        · have t3 : ¬ ((1 : Int) ≤ (b7 : Int)) := by omega
          have HM := Lib.hid (show mayN k a8 b7 = false from decide_eq_false (by omega))
          clear h1 h2 h3
          go_wp2_with fail
          go_meet
          exact ⟨by rw [HM.out], rfl⟩
      · have t2 : ((a8 : Int) == 5) = false := by rw [beq_eq_false_iff_ne]; omega
        have HM := Lib.hid (show mayN k a8 b7 = false from decide_eq_false (by omega))
        clear h1 h2
        go_wp2_with fail
        go_meet
        exact ⟨by rw [HM.out], rfl⟩
    · have t1 : ((k : Int) == 56) = false := by rw [beq_eq_false_iff_ne]; omega
      have HM := Lib.hid (show mayN k a8 b7 = false from decide_eq_false (by omega))
      clear h1
      go_wp2_with fail
      go_meet
      exact ⟨by rw [HM.out], rfl⟩
  case rest =>
    obtain ⟨rfl, rfl⟩ := hcut
    clear c3 c7
    obtain ⟨i, hi, hie⟩ := mod_u k (by omega) (by omega) at_
    have k0 : ¬ ((k : Int) = 0) := by omega
    have i1 : (i : Int) < (k : Int) := by omega
    have HM2 := Lib.hid (fun j (h3 : j ≠ 3) (h7 : j ≠ 7) => formP k a8 b7 j x ha8 hb7 h3 h7)
    obtain ⟨M, hM⟩ : ∃ M, mayN k a8 b7 = M := ⟨_, rfl⟩
    rw [hM] at HM2 ⊢
    clear hM
    go_upto_region 6 with (fail)
    rw [hie]
    clear hie k0
    go_cut [68] (fun s68 wx => s68 = .bool (decide (i = 3 ∨ i = 7)) ∧ wx = wc)
    case first =>
      by_cases h1 : i = 3
      · have t1 : ((i : Int) == 3) = true := by rw [beq_iff_eq]; omega
        have HD := Lib.hid (show decide (i = 3 ∨ i = 7) = true from decide_eq_true (.inl h1))
        clear h1
        go_wp2_with fail
        go_meet
        exact ⟨by rw [HD.out], rfl⟩
      · have t1 : ((i : Int) == 3) = false := by rw [beq_eq_false_iff_ne]; omega
        by_cases h2 : i = 7
        · have t2 : ((i : Int) == 7) = true := by rw [beq_iff_eq]; omega
          have HD := Lib.hid (show decide (i = 3 ∨ i = 7) = true from decide_eq_true (.inr h2))
          clear h1 h2
          go_wp2_with fail
          go_meet
          exact ⟨by rw [HD.out], rfl⟩
        · have t2 : ((i : Int) == 7) = false := by rw [beq_eq_false_iff_ne]; omega
          have HD := Lib.hid (show decide (i = 3 ∨ i = 7) = false from decide_eq_false (by omega))
          clear h1 h2
          go_wp2_with fail
          go_meet
          exact ⟨by rw [HD.out], rfl⟩
    case rest =>
    obtain ⟨rfl, rfl⟩ := hcut
    go_upto_if 68 with (fail)
    go_cut [14] (fun s14 wx => ∃ j : Nat, s14 = .int .i64 (j : Int) ∧ j < k ∧ j ≠ 3 ∧ j ≠ 7 ∧ wx = wc)
    case first =>
      by_cases h1 : i = 3 ∨ i = 7
      · rw [decide_eq_true h1]
        clear h1
        go_wp2_with fail
        go_meet
        exact ⟨30, rfl, by omega, by decide, by decide, rfl⟩
      · rw [decide_eq_false h1]
        have H1 := Lib.hid h1
        clear h1
        go_wp2_with fail
        go_meet
        exact ⟨i, rfl, hi, fun e => H1.out (.inl e), fun e => H1.out (.inr e), rfl⟩
    case rest =>
      obtain ⟨j, rfl, hj, h3, h7, rfl⟩ := hcut
      have HM3 := Lib.hid (HM2.out j h3 h7)
      have j1 : (j : Int) < (k : Int) := by omega
      have cj : wc.cell? ⟨w.heap.size, j, none⟩ = some (.int .u8 0) := by rw [P1.out.cell, u8s_get _ _ (by rw [keyP_length]; omega), keyP_at _ _ _ _ h3 h7]; rfl
      have fj := P1.out.frozen j
      have hxx := xor_u8 x HX.out
      have HKB := Lib.hid (show (j : Nat) < k from hj)
      clear h3 h7 hj hi i1 HM2
      go_upto_region 9 with (fail)
      clear cj fj hxx
      have m3 := P1.out.store j (.int .u8 (x : Int))
      rw [u8s_set] at m3
      have PB := Lib.hid (show Bytes ((keyP k a8 b7).set j x) from sl_bytes (fun y hy => by
        rcases List.mem_or_eq_of_mem_set hy with h | rfl
        · obtain ⟨q, hq, rfl⟩ := List.getElem_of_mem h
          have := keyP_bytes k a8 b7 (by omega) (by omega) q
          rwa [gt_of_lt hq] at this
        · exact HX.out))
      have PL := Lib.hid (show ((keyP k a8 b7).set j x).length = k by rw [List.length_set, keyP_length])
      obtain ⟨P, hP⟩ : ∃ P, (keyP k a8 b7).set j x = P := ⟨_, rfl⟩
      rw [hP] at m3 PB PL HM3
      refine world_is (fun X => Blk X w.heap.size 5 (u8s P) ∧ Below w.heap.size w X) ⟨m3, BY.out.setCell (Nat.le_refl _) _⟩ ?_
      clear m3 P1 BY hP
      rintro Z ⟨p0, bx⟩
      have P2 := Lib.hid p0; have BZ := Lib.hid bx
      clear p0 bx
      go_cut [13] (fun s13 wx => s13 = .bool (formN P) ∧ wx = Z)
      case first =>
        cases M with
        | false =>
          rw [Bool.false_and] at HM3
          go_wp2_with fail
          go_meet
          exact ⟨by rw [HM3.out], rfl⟩
        | true =>
          rw [Bool.true_and] at HM3
          by_cases h8 : 8 ≤ j
          · have t8 : (8 : Int) ≤ (j : Int) := by omega
            have HM4 := Lib.hid (HM3.out.trans (show _ = true by simp [h8]))
            clear h8
            go_wp2_with fail
            go_meet
            exact ⟨by rw [HM4.out], rfl⟩
          · have t8 : ¬ ((8 : Int) ≤ (j : Int)) := by omega
            by_cases h0 : x = 0
            · have t0 : ((x : Int) == 0) = true := by rw [beq_iff_eq]; omega
              have HM4 := Lib.hid (HM3.out.trans (show _ = true by simp [h0]))
              clear h8 h0
              go_wp2_with fail
              go_meet
              exact ⟨by rw [HM4.out], rfl⟩
            · have t0 : ((x : Int) == 0) = false := by rw [beq_eq_false_iff_ne]; omega
              have HM4 := Lib.hid (HM3.out.trans (show _ = false by simp [h0, h8]))
              clear h8 h0
              go_wp2_with fail
              go_meet
              exact ⟨by rw [HM4.out], rfl⟩
      case rest =>
        obtain ⟨rfl, rfl⟩ := hcut
        clear HM3
        have FM := Lib.hid (fun (X : World) (hB : Blk X w.heap.size 5 (u8s P)) (hW : Below w.heap.size w X) => form_t P (some ⟨w.heap.size, 0, none⟩) k k X PL.out (Sr.of_blk (rest := []) hB (by simp)) PB.out (by omega) (HKI.out.kept hW))
        have VB := Lib.hid (fun (X : World) (hB : Blk X w.heap.size 5 (u8s P)) (hW : Below w.heap.size w X) (hF : formN P = false) => verify_bad P (some ⟨w.heap.size, 0, none⟩) none none k k 0 0 0 0 X PL.out (Sr.of_blk (rest := []) hB (by simp)) PB.out (by omega) (HKI.out.kept hW) hF)
        have VS := Lib.hid (fun (X : World) (hB : Blk X w.heap.size 5 (u8s P)) (hW : Below w.heap.size w X) (hF : formN P = true) => verify_short P (some ⟨w.heap.size, 0, none⟩) none k k 0 0 X PL.out (Sr.of_blk (rest := []) hB (by simp)) PB.out (by omega) (HKI.out.kept hW) hF)
        cases hF : formN P with
        | false =>
          rw [hF] at FM
          have HF := Lib.hid hF
          clear hF
          go_wp2_with fail
          refine (ltold_t _ (HKI.out.kept BZ.out)).mono ?_
          rintro e w1 ⟨rfl, b1⟩
          have Q1 := Lib.hid (P2.out.below b1 P2.out.lt); have C1 := Lib.hid (BZ.out.trans (b1.mono BZ.out.size))
          clear b1
          go_wp2_with fail
          refine (FM.out w1 Q1.out C1.out).mono ?_
          rintro e w2 ⟨rfl, b2⟩
          have Q2 := Lib.hid (Q1.out.below b2 Q1.out.lt); have C2 := Lib.hid (C1.out.trans (b2.mono C1.out.size))
          clear b2
          go_wp2_with fail
          refine (VB.out w2 Q2.out C2.out HF.out).mono ?_
          rintro e w3 ⟨rfl, b3⟩
          have C3 := Lib.hid (C2.out.trans (b3.mono C2.out.size))
          clear b3
          go_wp2_with fail
          go_ret
          exact ⟨rfl, C3.out⟩
        | true =>
          rw [hF] at FM
          have HF := Lib.hid hF
          clear hF
          go_wp2_with fail
          refine (ltold_t _ (HKI.out.kept BZ.out)).mono ?_
          rintro e w1 ⟨rfl, b1⟩
          have Q1 := Lib.hid (P2.out.below b1 P2.out.lt); have C1 := Lib.hid (BZ.out.trans (b1.mono BZ.out.size))
          clear b1
          go_wp2_with fail
          refine (FM.out w1 Q1.out C1.out).mono ?_
          rintro e w2 ⟨rfl, b2⟩
          have Q2 := Lib.hid (Q1.out.below b2 Q1.out.lt); have C2 := Lib.hid (C1.out.trans (b2.mono C1.out.size))
          clear b2
          go_wp2_with fail
          refine (VS.out w2 Q2.out C2.out HF.out).mono ?_
          rintro e w3 ⟨rfl, b3⟩
          have C3 := Lib.hid (C2.out.trans (b3.mono C2.out.size))
          clear b3
          go_wp2_with fail
          go_ret
          exact ⟨rfl, C3.out⟩
end Go.Proofs.YtahghfjjpbjemaaDoor
