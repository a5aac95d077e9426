/-
  THE REFERENCE OF CHAPTER 4
-/
import Derived.Test.YtlipjglehongeaaGreatDoorGa27
import Derived.Test.YtlipjglehongeaaGreatDoorGa34
import Derived.Deep.DeepCutAuto
namespace Go.Proofs.YtlipjglehongeaaGreatDoor
open Go Go.RowKit Sh

theorem slice_mid {P : Program} {t e : TypeId} (hu : P.underlying t = some (.slice e)) (hs : (P.info? e).map (·.size) = some 1) (p : Option Addr) (n c l h : Nat) (h1 : l ≤ h) (hc : h ≤ c) :
    ∃ p2, (l < c → ∀ g off, p = some ⟨g, off, none⟩ → p2 = some ⟨g, off + l, none⟩) ∧ ∀ W, (Instr.slice t (.slice p n c) (some (.int .i64 (l : Int))) (some (.int .i64 (h : Int))) none).run P W = .ok (.slice p2 (h - l) (c - l)) W := by
  have hz : ∀ W, (sizeOf e).run P W = .ok 1 W := by
    cases hq : P.info? e with
    | none => simp [hq] at hs
    | some i => simp [hq] at hs; intro W; simp [sizeOf, typeInfo, hq, hs]
  have e1 : ∀ W, (Instr.sliceBound (.int .i64 (l : Int)) h .sliceB).run P W = .ok l W := fun W => by
    simp [Instr.sliceBound, asIntOf, h1]
  have e2 : ∀ W, (Instr.sliceBound (.int .i64 (h : Int)) c .sliceAcap).run P W = .ok h W := fun W => by
    simp [Instr.sliceBound, asIntOf, hc]
  refine ⟨if c = l then p else p.map (·.add l), fun hl g off hp => ?_, fun W => ?_⟩
  · rw [if_neg (by omega), hp]; simp [Addr.add_mid]
  · simp [Instr.slice, run_underlying hu, Instr.sliceBounds, e1, e2, hz, Result.andThen]

theorem fresh_op {w w' : World} {v : Value} {l : List Nat} (h : Fresh 5 w w' v l) : ∃ A c, v = .slice A l.length c ∧ l.length ≤ c ∧ Sr w' A l ∧ Below w.heap.size w w' := by
  obtain ⟨A, c, rfl, hc⟩ := own_form h.1
  exact ⟨A, c, rfl, hc, Sr.of_own h.1, h.2⟩
theorem refcode_t (i : Nat) (hi : i < 4) (w : World) : Calls Tryz.prog 150 #[.int .i64 ((kd i).w : Int)] w fun e w' => e = .returned (.int .u64 ((kd i).code : Int)) ∧ w = w' := by
  have : i = 0 ∨ i = 1 ∨ i = 2 ∨ i = 3 := by omega
  rcases this with rfl | rfl | rfl | rfl
  · change Calls Tryz.prog 150 #[.int .i64 1] w _
    go_enter Tryz.func150, Tryz.ntmps150
    go_wp2
    go_ret
    exact ⟨rfl, rfl⟩
  · change Calls Tryz.prog 150 #[.int .i64 2] w _
    go_enter Tryz.func150, Tryz.ntmps150
    go_wp2
    go_ret
    exact ⟨rfl, rfl⟩
  · change Calls Tryz.prog 150 #[.int .i64 4] w _
    go_enter Tryz.func150, Tryz.ntmps150
    go_wp2
    go_ret
    exact ⟨rfl, rfl⟩
  · change Calls Tryz.prog 150 #[.int .i64 8] w _
    go_enter Tryz.func150, Tryz.ntmps150
    go_wp2
    go_ret
    exact ⟨rfl, rfl⟩
theorem kd_w8b (i : Nat) : (kd i).w ≤ 8 ∧ 1 ≤ (kd i).w := by
  rcases i with _ | _ | _ | i <;> simp [kd]

theorem beN_val : ∀ (n : Nat) (l : List Nat), l.length = n → Bytes l → beN (val l) n = l
  | 0, l, h, _ => by obtain rfl := List.eq_nil_of_length_eq_zero h; rfl
  | n + 1, l, h, hb => by
    have hne : l ≠ [] := fun e => by rw [e] at h; simp at h
    obtain ⟨l', b, rfl⟩ : ∃ l' b, l = l' ++ [b] := ⟨l.dropLast, l.getLast hne, (List.dropLast_concat_getLast hne).symm⟩
    have hb1 : b < 256 := by
      have := hb l'.length
      rw [gt_app_right (Nat.le_refl _)] at this
      simpa [gt] using this
    have hl' : l'.length = n := by simpa using h
    have hb' : Bytes l' := fun j => by
      rcases Nat.lt_or_ge j l'.length with hj | hj
      · have := hb j; rwa [gt_app_left hj] at this
      · rw [gt_out hj]; decide
    rw [beN_snoc, val_snoc, show (val l' * 256 + b) / 256 = val l' from by omega, show (val l' * 256 + b) % 256 = b from by omega, beN_val n l' hl' hb']
theorem code_eq (xs : List Nat) (c : Nat) (hl : 4 ≤ xs.length) (hb : Bytes xs) (hc : c < 4294967296) : (xs.take 4 = beN c 4) ↔ val (xs.take 4) = c := by
  constructor
  · intro h
    rw [h, val_beN]
    omega
  · intro h
    rw [← h, beN_val 4 _ (by rw [List.length_take]; omega) (bytes_take hb 4)]
def widN (b : List Nat) : Nat := if 1 ≤ val b ∧ val b ≤ 4 then (kd (val b - 1)).w else 0
theorem kd_pow : ∀ j : Nat, j < 4 → (kd j).w = 2 ^ j := by decide
theorem kd_codeB : ∀ j : Nat, j < 4 → (kd j).code = j + 1 := by decide
theorem pow_le8 : ∀ j : Nat, j < 4 → 2 ^ j ≤ 8 ∧ 2 * 2 ^ j = 2 ^ (j + 1) ∧ 1 ≤ 2 ^ j := by decide
set_option maxRecDepth 100000 in
set_option maxHeartbeats 2000000 in
theorem refwidth_t (xs : List Nat) (A : Option Addr) (c : Nat) (w : World) (hx : xs.length = 4) (hp : Sr w A xs) (hb : Bytes xs) :
    Calls Tryz.prog 103 #[.slice A 4 c] w fun e w' => e = .returned (.int .i64 (widN xs : Nat)) ∧ Below w.heap.size w w' := by
  have HX := Lib.hid hx; have HP := Lib.hid hp; have HB := Lib.hid hb
  have CO := Lib.hid (fun j (hj : j < 4) W => show Calls Tryz.prog 150 #[.int .i64 ((2 ^ j : Nat) : Int)] W fun e w' => e = .returned (.int .u64 ((j + 1 : Nat) : Int)) ∧ W = w' by
    have h := refcode_t j hj W
    rw [kd_pow j hj, kd_codeB j hj] at h; exact h)
  have SAME := Lib.hid (fun j (hj : j < 4) => show decide (xs = beN (j + 1) 4) = decide (val xs = j + 1) by
    have h := code_eq xs (j + 1) (by omega) hb (by omega)
    rw [List.take_of_length_le (by omega)] at h
    exact decide_eq_decide.2 h)
  clear hx hp hb
  go_enter Tryz.func103, Tryz.ntmps103
  go_upto_region 2 with (fail)
  go_loopw [3] (fun s wr => ∃ j : Nat, j ≤ 4 ∧ s = .int .i64 ((2 ^ j : Nat) : Int) ∧ (∀ k, k < j → val xs ≠ k + 1) ∧ Below w.heap.size w wr) (fun s _ => 17 - (intOf s).toNat)
  case atStart => exact ⟨0, by omega, rfl, fun k hk => by omega, Below.refl _ _⟩
  case round =>
    obtain ⟨j, hj, rfl, hno, b0⟩ := hrel
    have B0 := Lib.hid b0; have HNO := Lib.hid hno
    clear b0 hno
    by_cases hlt : j < 4
    · have hpw := pow_le8 j hlt
      have COj := Lib.hid (CO.out j hlt); have SMj := Lib.hid (SAME.out j hlt)
      have HNX := Lib.hid (show ((2 ^ (j + 1) : Nat) : Int) = 2 * ((2 ^ j : Nat) : Int) by rw [← hpw.2.1]; omega)
      have hkw := Lib.hid (kd_pow j hlt)
      obtain ⟨v, hv⟩ : ∃ x, 2 ^ j = x := ⟨_, rfl⟩
      rw [hv] at COj HNX hkw hpw ⊢
      have v8 : (v : Int) ≤ 8 := by omega
      have v1 : (1 : Int) ≤ (v : Int) := by omega
      have e1 : IntKind.i64.wrap (2 * (v : Int)) = 2 * (v : Int) := IntWalk.i64_in _ (by omega)
      clear hv hpw
      go_wp2_with fail
      refine (COj.out _).mono ?_
      rintro e w1 ⟨rfl, rfl⟩
      go_wp2_with fail
      refine (refnum_t (j + 1) 4 _ (by decide) (by decide)).mono ?_
      rintro e w2 ⟨u, rfl, f2⟩
      obtain ⟨A2, c2, rfl, hc2, s2, b2⟩ := fresh_op f2
      rw [beN_length] at hc2 ⊢
      have B2 := Lib.hid (B0.out.trans (b2.mono B0.out.size)); have S2 := Lib.hid s2
      clear f2 hc2 s2 b2 B0
      go_wp2_with fail
      refine (same_textsTX xs (beN (j + 1) 4) A A2 4 4 c c2 w2 HX.out (beN_length _ _) (HP.out.below B2.out) S2.out HB.out (beN_bytes _ _)).mono ?_
      rintro e w3 ⟨rfl, rfl⟩
      rw [SMj.out]
      by_cases hc : val xs = j + 1
      · rw [decide_eq_true hc]
        have HE := Lib.hid (show widN xs = v by unfold widN; rw [if_pos (by omega), hc, Nat.add_sub_cancel]; exact hkw.out)
        clear e1
        go_wp2_with fail
        go_ret
        exact ⟨by rw [HE.out]; rfl, B2.out⟩
      · rw [decide_eq_false hc]
        have HC := Lib.hid hc
        clear hc
        go_wp2_with fail
        go_roundw
        case rel =>
          refine ⟨j + 1, by omega, by rw [HNX.out], fun k hk => ?_, B2.out⟩
          rcases Nat.lt_or_ge k j with h | h
          · exact HNO.out k h
          · obtain rfl : k = j := by omega
            exact HC.out
        case measure => simp [intOf]; omega
    · obtain rfl : j = 4 := by omega
      have HE := Lib.hid (show widN xs = 0 by unfold widN; rw [if_neg (fun h => HNO.out (val xs - 1) (by omega) (by omega))])
      go_wp2_with fail
      go_ret
      exact ⟨by rw [HE.out]; rfl, B0.out⟩
set_option maxRecDepth 100000 in
set_option maxHeartbeats 2000000 in
theorem refform_no (xs : List Nat) (A : Option Addr) (m c : Nat) (w : World) (hx : xs.length = m) (_ : m ≤ 9223372036854775807) (h56 : m ≠ 56) :
    Calls Tryz.prog 46 #[.slice A m c] w fun e w' => e = .returned (.bool (formN xs)) ∧ Below w.heap.size w w' := by
  have HX := Lib.hid hx
  have hne : ((m : Int) == 56) = false := by rw [beq_eq_false_iff_ne]; omega
  clear hx
  have B0 := Lib.hid ((Below.refl w.heap.size w).drew)
  go_enter Tryz.func46, Tryz.ntmps46
  go_upto_region 1 with (fail)
  refine wp_region_held (S := fun _ => True) (by kernel_rfl) ?_
  change wpAnyH _ _ _ _ _ _ _ _ w.drew
  obtain ⟨V, hV⟩ : ∃ V, w.drew = V := ⟨_, rfl⟩
  rw [hV] at B0 ⊢
  clear hV
  refine wpAnyH_take (i := 0) (v := ?_) rfl (by kernel_rfl) (by kernel_rfl) (by kernel_rfl) (fun _ _ _ h => h) (Or.inl ⟨by kernel_rfl, ?_⟩) trivial ?_
  rotate_left 1
  · (intro w hS; clear hS; go_simp; try (with_reducible rfl))
  refine wpAnyH_take (i := 1) (v := ?_) rfl (by kernel_rfl) (by kernel_rfl) (by kernel_rfl) (fun _ _ _ h => h) (Or.inl ⟨by kernel_rfl, ?_⟩) trivial ?_
  rotate_left 1
  · (intro w hS; clear hS; go_simp; try (with_reducible rfl))
  refine wpAnyH_take (i := 2) (v := ?_) rfl (by kernel_rfl) (by kernel_rfl) (by kernel_rfl) (fun _ _ _ h => h) (Or.inl ⟨by kernel_rfl, ?_⟩) trivial ?_
  rotate_left 1
  · (intro w hS; clear hS; go_simp; try (with_reducible rfl))
  refine wpAnyH_take (i := 3) (v := ?_) rfl (by kernel_rfl) (by kernel_rfl) (by kernel_rfl) (fun _ _ _ h => h) (Or.inl ⟨by kernel_rfl, ?_⟩) trivial ?_
  rotate_left 1
  · (intro w hS; clear hS; go_simp; try (with_reducible rfl))
  refine wpAnyH_take (i := 4) (v := undef) rfl (by kernel_rfl) (by kernel_rfl) (by kernel_rfl) (fun _ _ _ h => h) (Or.inr ⟨by kernel_rfl, rfl⟩) trivial ?_
  refine wpAnyH_take (i := 5) (v := undef) rfl (by kernel_rfl) (by kernel_rfl) (by kernel_rfl) (fun _ _ _ h => h) (Or.inr ⟨by kernel_rfl, rfl⟩) trivial ?_
  refine wpAnyH_take (i := 6) (v := undef) rfl (by kernel_rfl) (by kernel_rfl) (by kernel_rfl) (fun _ _ _ h => h) (Or.inr ⟨by kernel_rfl, rfl⟩) trivial ?_
  refine wpAnyH_take (i := 7) (v := undef) rfl (by kernel_rfl) (by kernel_rfl) (by kernel_rfl) (fun _ _ _ h => h) (Or.inr ⟨by kernel_rfl, rfl⟩) trivial ?_
  refine wpAnyH_take (i := 8) (v := ?_) rfl (by kernel_rfl) (by kernel_rfl) (by kernel_rfl) (fun _ _ _ h => h) (Or.inl ⟨by kernel_rfl, ?_⟩) trivial ?_
  rotate_left 1
  · (intro w hS; clear hS; go_simp; try (with_reducible rfl))
  refine wpAnyH_take (i := 9) (v := ?_) rfl (by kernel_rfl) (by kernel_rfl) (by kernel_rfl) (fun _ _ _ h => h) (Or.inl ⟨by kernel_rfl, ?_⟩) trivial ?_
  rotate_left 1
  · (intro w hS; clear hS; go_simp; try (with_reducible rfl))
  refine wpAnyH_take (i := 10) (v := undef) rfl (by kernel_rfl) (by kernel_rfl) (by kernel_rfl) (fun _ _ _ h => h) (Or.inr ⟨by kernel_rfl, rfl⟩) trivial ?_
  refine wpAnyH_take (i := 11) (v := undef) rfl (by kernel_rfl) (by kernel_rfl) (by kernel_rfl) (fun _ _ _ h => h) (Or.inr ⟨by kernel_rfl, rfl⟩) trivial ?_
  refine wpAnyH_take (i := 12) (v := undef) rfl (by kernel_rfl) (by kernel_rfl) (by kernel_rfl) (fun _ _ _ h => h) (Or.inr ⟨by kernel_rfl, rfl⟩) trivial ?_
  refine wpAnyH_take (i := 13) (v := undef) rfl (by kernel_rfl) (by kernel_rfl) (by kernel_rfl) (fun _ _ _ h => h) (Or.inr ⟨by kernel_rfl, rfl⟩) trivial ?_
  refine wpAnyH_take (i := 14) (v := ?_) rfl (by kernel_rfl) (by kernel_rfl) (by kernel_rfl) (fun _ _ _ h => h) (Or.inl ⟨by kernel_rfl, ?_⟩) trivial ?_
  rotate_left 1
  · (intro w hS; clear hS; go_simp; try (with_reducible rfl))
  refine wpAnyH_take (i := 15) (v := ?_) rfl (by kernel_rfl) (by kernel_rfl) (by kernel_rfl) (fun _ _ _ h => h) (Or.inl ⟨by kernel_rfl, ?_⟩) trivial ?_
  rotate_left 1
  · (intro w hS; clear hS; go_simp; try (with_reducible rfl))
  refine wpAnyH_done (by kernel_rfl) ?_ _
  go_simp
  go_wp2_with fail
  go_ret
  exact ⟨by rw [show formN xs = false from decide_eq_false (fun h => h56 (by rw [← HX.out]; exact h.1))]; rfl, B0.out⟩
set_option maxRecDepth 100000 in
set_option maxHeartbeats 2000000 in
theorem refform_yes (xs : List Nat) (A : Option Addr) (c : Nat) (w : World) (hx : xs.length = 56) (hp : Sr w A xs) (hb : Bytes xs) (hc : 56 ≤ c) :
    Calls Tryz.prog 46 #[.slice A 56 c] w fun e w' => e = .returned (.bool (formN xs)) ∧ Below w.heap.size w w' := by
  have HX := Lib.hid hx; have HP := Lib.hid hp; have HB := Lib.hid hb
  have HT4 := Lib.hid (show (xs.take 4).length = 4 ∧ Bytes (xs.take 4) from ⟨by rw [List.length_take]; omega, bytes_take hb 4⟩)
  have HT8 := Lib.hid (show ((xs.drop 4).take 4).length = 4 ∧ Bytes ((xs.drop 4).take 4) from ⟨by rw [List.length_take, List.length_drop]; omega, bytes_take (bytes_drop hb 4) 4⟩)
  have HC5 := Lib.hid (code_eq xs 5 (by omega) hb (by omega))
  have hs4 := slice_high (P := Tryz.prog) (t := 23) (e := 5) Tryz.underlying23 byte_size A 56 c .i64 4 (by omega)
  rw [show ((4 : Nat) : Int) = 4 from rfl] at hs4
  obtain ⟨p2, hp2, hs8⟩ := slice_mid (P := Tryz.prog) (t := 23) (e := 5) Tryz.underlying23 byte_size A 56 c 4 8 (by omega) (by omega)
  rw [show ((4 : Nat) : Int) = 4 from rfl, show ((8 : Nat) : Int) = 8 from rfl, show 8 - 4 = 4 from rfl] at hs8
  have SP := Lib.hid (fun W (h : Sr W A xs) => show Sr W p2 ((xs.drop 4).take 4) from (h.drop (p2 := p2) (n := 4) (fun _ => hp2 (by omega))).take 4)
  obtain ⟨c8, hc8⟩ : ∃ x, c - 4 = x := ⟨_, rfl⟩
  rw [hc8] at hs8
  clear hx hp hb hp2 hc8
  have B0 := Lib.hid ((Below.refl w.heap.size w).drew)
  go_enter Tryz.func46, Tryz.ntmps46
  go_upto_region 1 with (fail)
  refine wp_region_held (S := fun _ => True) (by kernel_rfl) ?_
  change wpAnyH _ _ _ _ _ _ _ _ w.drew
  obtain ⟨V, hV⟩ : ∃ V, w.drew = V := ⟨_, rfl⟩
  rw [hV] at B0 ⊢
  clear hV
  refine wpAnyH_take (i := 0) (v := ?_) rfl (by kernel_rfl) (by kernel_rfl) (by kernel_rfl) (fun _ _ _ h => h) (Or.inl ⟨by kernel_rfl, ?_⟩) trivial ?_
  rotate_left 1
  · (intro w hS; clear hS; go_simp; try (with_reducible rfl))
  refine wpAnyH_take (i := 1) (v := ?_) rfl (by kernel_rfl) (by kernel_rfl) (by kernel_rfl) (fun _ _ _ h => h) (Or.inl ⟨by kernel_rfl, ?_⟩) trivial ?_
  rotate_left 1
  · (intro w hS; clear hS; go_simp; try (with_reducible rfl))
  refine wpAnyH_take (i := 2) (v := ?_) rfl (by kernel_rfl) (by kernel_rfl) (by kernel_rfl) (fun _ _ _ h => h) (Or.inl ⟨by kernel_rfl, ?_⟩) trivial ?_
  rotate_left 1
  · (intro w hS; clear hS; go_simp; try (with_reducible rfl))
  refine wpAnyH_take (i := 3) (v := ?_) rfl (by kernel_rfl) (by kernel_rfl) (by kernel_rfl) (fun _ _ _ h => h) (Or.inl ⟨by kernel_rfl, ?_⟩) trivial ?_
  rotate_left 1
  · (intro w hS; clear hS; go_simp; try (with_reducible rfl))
  refine wpAnyH_take (i := 4) (v := ?_) rfl (by kernel_rfl) (by kernel_rfl) (by kernel_rfl) (fun _ _ _ h => h) (Or.inl ⟨by kernel_rfl, ?_⟩) trivial ?_
  rotate_left 1
  · (intro w hS; clear hS; go_simp; try (with_reducible rfl))
  refine wpAnyH_take (i := 5) (v := ?_) rfl (by kernel_rfl) (by kernel_rfl) (by kernel_rfl) (fun _ _ _ h => h) (Or.inl ⟨by kernel_rfl, ?_⟩) trivial ?_
  rotate_left 1
  · (intro w hS; clear hS; go_simp; try (with_reducible rfl))
  by_cases h5 : val (xs.take 4) = 5
  · skip
    refine wpAnyH_ready (rs := [6]) (by kernel_rfl) (by simp) ?_
    refine AllReadyH.cons rfl (fun K hK => ?_) AllReadyH.nil
    go_simp
    refine (refnum_t 5 4 V (by decide) (by decide)).mono ?_
    rintro e w5 ⟨u, rfl, f5⟩
    obtain ⟨A5, c5, rfl, hc5, s5, b5⟩ := fresh_op f5
    rw [beN_length] at hc5 ⊢
    have B5 := Lib.hid (B0.out.trans (b5.mono B0.out.size)); have S5 := Lib.hid s5
    clear f5 hc5 s5 b5 B0
    refine hK.out _ _ trivial (fun _ => ?_)
    clear hK K
    refine wpAnyH_ready (rs := [7]) (by kernel_rfl) (by simp) ?_
    refine AllReadyH.cons rfl (fun K hK => ?_) AllReadyH.nil
    go_simp
    refine (same_textsTX (xs.take 4) (beN 5 4) A A5 4 4 c c5 w5 HT4.out.1 (beN_length _ _) ((HP.out.below B5.out).take 4) S5.out HT4.out.2 (beN_bytes _ _)).mono ?_
    rintro e w6 ⟨rfl, rfl⟩
    rw [show decide (xs.take 4 = beN 5 4) = true from decide_eq_true (HC5.out.2 h5)]
    refine hK.out _ _ trivial (fun _ => ?_)
    clear hK K
    refine wpAnyH_take (i := 8) (v := ?_) rfl (by kernel_rfl) (by kernel_rfl) (by kernel_rfl) (fun _ _ _ h => h) (Or.inl ⟨by kernel_rfl, ?_⟩) trivial ?_
    rotate_left 1
    · (intro w hS; clear hS; go_simp; try (with_reducible rfl))
    refine wpAnyH_take (i := 9) (v := ?_) rfl (by kernel_rfl) (by kernel_rfl) (by kernel_rfl) (fun _ _ _ h => h) (Or.inl ⟨by kernel_rfl, ?_⟩) trivial ?_
    rotate_left 1
    · (intro w hS; clear hS; go_simp; try (with_reducible rfl))
    refine wpAnyH_take (i := 10) (v := ?_) rfl (by kernel_rfl) (by kernel_rfl) (by kernel_rfl) (fun _ _ _ h => h) (Or.inl ⟨by kernel_rfl, ?_⟩) trivial ?_
    rotate_left 1
    · (intro w hS; clear hS; go_simp; try (with_reducible rfl))
    refine wpAnyH_take (i := 11) (v := ?_) rfl (by kernel_rfl) (by kernel_rfl) (by kernel_rfl) (fun _ _ _ h => h) (Or.inl ⟨by kernel_rfl, ?_⟩) trivial ?_
    rotate_left 1
    · (intro w hS; clear hS; go_simp; try (with_reducible rfl))
    refine wpAnyH_ready (rs := [12]) (by kernel_rfl) (by simp) ?_
    refine AllReadyH.cons rfl (fun K hK => ?_) AllReadyH.nil
    go_simp
    refine (refwidth_t ((xs.drop 4).take 4) p2 c8 w5 HT8.out.1 (SP.out _ (HP.out.below B5.out)) HT8.out.2).mono ?_
    rintro e w6 ⟨rfl, b6⟩
    have B6 := Lib.hid (B5.out.trans (b6.mono B5.out.size))
    have HF := Lib.hid (show decide (0 < widN ((xs.drop 4).take 4)) = formN xs from by
      unfold formN widN
      refine decide_eq_decide.2 ?_
      have h8 := HX.out
      by_cases hv : 1 ≤ val ((xs.drop 4).take 4) ∧ val ((xs.drop 4).take 4) ≤ 4
      · rw [if_pos hv]
        have := (kd_w8b (val ((xs.drop 4).take 4) - 1)).2
        exact ⟨fun _ => ⟨h8, h5, hv⟩, fun _ => by omega⟩
      · rw [if_neg hv]
        exact ⟨fun h => absurd h (by decide), fun h => absurd h.2.2 hv⟩)
    obtain ⟨u, hu⟩ : ∃ x, widN ((xs.drop 4).take 4) = x := ⟨_, rfl⟩
    rw [hu] at HF ⊢
    clear b6 B5 hu
    refine hK.out _ _ trivial (fun _ => ?_)
    clear hK K
    refine wpAnyH_take (i := 13) (v := ?_) rfl (by kernel_rfl) (by kernel_rfl) (by kernel_rfl) (fun _ _ _ h => h) (Or.inl ⟨by kernel_rfl, ?_⟩) trivial ?_
    rotate_left 1
    · (intro w hS; clear hS; go_simp; try (with_reducible rfl))
    refine wpAnyH_take (i := 14) (v := ?_) rfl (by kernel_rfl) (by kernel_rfl) (by kernel_rfl) (fun _ _ _ h => h) (Or.inl ⟨by kernel_rfl, ?_⟩) trivial ?_
    rotate_left 1
    · (intro w hS; clear hS; go_simp; try (with_reducible rfl))
    refine wpAnyH_take (i := 15) (v := ?_) rfl (by kernel_rfl) (by kernel_rfl) (by kernel_rfl) (fun _ _ _ h => h) (Or.inl ⟨by kernel_rfl, ?_⟩) trivial ?_
    rotate_left 1
    · (intro w hS; clear hS; go_simp; try (with_reducible rfl))
    refine wpAnyH_done (by kernel_rfl) ?_ _
    go_simp
    go_wp2_with fail
    go_ret
    exact ⟨by rw [← HF.out]; rfl, B6.out⟩
  · skip
    refine wpAnyH_ready (rs := [6]) (by kernel_rfl) (by simp) ?_
    refine AllReadyH.cons rfl (fun K hK => ?_) AllReadyH.nil
    go_simp
    refine (refnum_t 5 4 V (by decide) (by decide)).mono ?_
    rintro e w5 ⟨u, rfl, f5⟩
    obtain ⟨A5, c5, rfl, hc5, s5, b5⟩ := fresh_op f5
    rw [beN_length] at hc5 ⊢
    have B5 := Lib.hid (B0.out.trans (b5.mono B0.out.size)); have S5 := Lib.hid s5
    clear f5 hc5 s5 b5 B0
    refine hK.out _ _ trivial (fun _ => ?_)
    clear hK K
    refine wpAnyH_ready (rs := [7]) (by kernel_rfl) (by simp) ?_
    refine AllReadyH.cons rfl (fun K hK => ?_) AllReadyH.nil
    go_simp
    refine (same_textsTX (xs.take 4) (beN 5 4) A A5 4 4 c c5 w5 HT4.out.1 (beN_length _ _) ((HP.out.below B5.out).take 4) S5.out HT4.out.2 (beN_bytes _ _)).mono ?_
    rintro e w6 ⟨rfl, rfl⟩
    rw [show decide (xs.take 4 = beN 5 4) = false from decide_eq_false (fun h => h5 (HC5.out.1 h))]
    refine hK.out _ _ trivial (fun _ => ?_)
    clear hK K
    refine wpAnyH_take (i := 8) (v := ?_) rfl (by kernel_rfl) (by kernel_rfl) (by kernel_rfl) (fun _ _ _ h => h) (Or.inl ⟨by kernel_rfl, ?_⟩) trivial ?_
    rotate_left 1
    · (intro w hS; clear hS; go_simp; try (with_reducible rfl))
    refine wpAnyH_take (i := 9) (v := ?_) rfl (by kernel_rfl) (by kernel_rfl) (by kernel_rfl) (fun _ _ _ h => h) (Or.inl ⟨by kernel_rfl, ?_⟩) trivial ?_
    rotate_left 1
    · (intro w hS; clear hS; go_simp; try (with_reducible rfl))
    refine wpAnyH_take (i := 10) (v := undef) rfl (by kernel_rfl) (by kernel_rfl) (by kernel_rfl) (fun _ _ _ h => h) (Or.inr ⟨by kernel_rfl, rfl⟩) trivial ?_
    refine wpAnyH_take (i := 11) (v := undef) rfl (by kernel_rfl) (by kernel_rfl) (by kernel_rfl) (fun _ _ _ h => h) (Or.inr ⟨by kernel_rfl, rfl⟩) trivial ?_
    refine wpAnyH_take (i := 12) (v := undef) rfl (by kernel_rfl) (by kernel_rfl) (by kernel_rfl) (fun _ _ _ h => h) (Or.inr ⟨by kernel_rfl, rfl⟩) trivial ?_
    refine wpAnyH_take (i := 13) (v := undef) rfl (by kernel_rfl) (by kernel_rfl) (by kernel_rfl) (fun _ _ _ h => h) (Or.inr ⟨by kernel_rfl, rfl⟩) trivial ?_
    refine wpAnyH_take (i := 14) (v := ?_) rfl (by kernel_rfl) (by kernel_rfl) (by kernel_rfl) (fun _ _ _ h => h) (Or.inl ⟨by kernel_rfl, ?_⟩) trivial ?_
    rotate_left 1
    · (intro w hS; clear hS; go_simp; try (with_reducible rfl))
    refine wpAnyH_take (i := 15) (v := ?_) rfl (by kernel_rfl) (by kernel_rfl) (by kernel_rfl) (fun _ _ _ h => h) (Or.inl ⟨by kernel_rfl, ?_⟩) trivial ?_
    rotate_left 1
    · (intro w hS; clear hS; go_simp; try (with_reducible rfl))
    refine wpAnyH_done (by kernel_rfl) ?_ _
    go_simp
    go_wp2_with fail
    go_ret
    exact ⟨by rw [show formN xs = false from decide_eq_false (fun h => h5 h.2.1)]; rfl, B5.out⟩
theorem refform_t (xs : List Nat) (A : Option Addr) (m c : Nat) (w : World) (hx : xs.length = m) (hp : Sr w A xs) (hb : Bytes xs) (hml : m ≤ 9223372036854775807) (hc : m ≤ c) :
    Calls Tryz.prog 46 #[.slice A m c] w fun e w' => e = .returned (.bool (formN xs)) ∧ Below w.heap.size w w' := by
  by_cases h56 : m = 56
  · subst h56; exact refform_yes xs A c w hx hp hb hc
  · exact refform_no xs A m c w hx hml h56
end Go.Proofs.YtlipjglehongeaaGreatDoor
