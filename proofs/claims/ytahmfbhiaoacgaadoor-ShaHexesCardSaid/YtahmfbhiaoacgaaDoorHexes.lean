import Derived.Test.YtahmfbhiaoacgaaDoorTold
namespace Go.Proofs.YtahmfbhiaoacgaaDoor
open Go.RowKit Sh

theorem str_size (l : List Nat) : (str l).size = l.length := by simp [str, strOfNums_size]
theorem str_index (l : List Nat) (hl : Bytes l) (i : Nat) (hi : i < l.length) (w : World) : (Instr.index 9 (.string (str l)) (.int .i64 (i : Int))).run Tryd.prog w = .ok (.int .u8 ((gt l i : Nat) : Int)) w := by
  have h : (str l)[i]? = some (UInt8.ofNat (gt l i)) := by
    have h2 : i < (str l).size := by rw [str_size]; exact hi
    rw [getElem?_pos (str l) i h2]
    congr 1
    show (str l).data[i] = _
    simp [str, strOfNums, gt_of_lt hi]
  have hb := hl i
  simp [Instr.index, asIntOf, run_underlying Tryd.underlying9, h, Result.andThen]
  omega
theorem hex_length (xs : List Nat) (hx : xs.length = 32) : (Sh.hex xs).length = 64 := by rw [hex_hexN xs hx, hexN_length]
theorem hexN_gt (xs : List Nat) : ∀ n k, k < n → gt (hexN xs n) (2 * k) = Sh.hexDigit (gt xs k / 16) ∧ gt (hexN xs n) (2 * k + 1) = Sh.hexDigit (gt xs k % 16)
  | 0, _, h => absurd h (by omega)
  | n + 1, k, h => by
    unfold hexN
    rcases Nat.lt_or_ge k n with hk | hk
    · rw [gt_app_left (by rw [hexN_length]; omega), gt_app_left (by rw [hexN_length]; omega)]
      exact hexN_gt xs n k hk
    · obtain rfl : k = n := by omega
      rw [gt_app_right (by rw [hexN_length]; omega), gt_app_right (by rw [hexN_length]; omega), hexN_length]
      simp [gt]
/-- Which half of which byte the i-th digit is of. -/
def half (xs : List Nat) (i : Nat) : Nat := if i % 2 = 0 then gt xs (i / 2) / 16 else gt xs (i / 2) % 16
theorem hex_gt (xs : List Nat) (hx : xs.length = 32) (i : Nat) (hi : i < 64) : gt (Sh.hex xs) i = Sh.hexDigit (half xs i) := by
  rw [hex_hexN xs hx]
  obtain ⟨k, rfl | rfl⟩ : ∃ k, i = 2 * k ∨ i = 2 * k + 1 := ⟨i / 2, by omega⟩
  · rw [(hexN_gt xs 32 k (by omega)).1]
    unfold half
    rw [if_pos (by omega), show 2 * k / 2 = k by omega]
  · rw [(hexN_gt xs 32 k (by omega)).2]
    unfold half
    rw [if_neg (by omega), show (2 * k + 1) / 2 = k by omega]
theorem hex_bytes (xs : List Nat) (hx : xs.length = 32) (hb : Bytes xs) : Bytes (Sh.hex xs) := by
  intro i
  rcases Nat.lt_or_ge i 64 with hi | hi
  · rw [hex_gt xs hx i hi]
    refine hexDigit_lt _ ?_
    unfold half
    have := hb (i / 2)
    split <;> omega
  · rw [gt_out (by rw [hex_length xs hx]; omega)]; decide

theorem and1 : ∀ k : Nat, k < 64 → bits .and .i64 (k : Int) 1 = ((k % 2 : Nat) : Int) := by decide +kernel
set_option maxRecDepth 100000 in
set_option maxHeartbeats 2000000 in
theorem hexes_t (xs : List Nat) (w : World) (hx : xs.length = 32) (hb : Bytes xs) (hk : KAt w) :
    Calls Tryd.prog 6 #[.agg (u8s xs).toArray] w fun e w' => e = .returned (.bool true) ∧ Below w.heap.size w w' := by
  have HX := Lib.hid hx; have HB := Lib.hid hb; have HKW := Lib.hid hk; have HLT := Lib.hid hk.lt
  have hl : (Tryd.prog.info? 25).map (·.size) = some (u8s xs).length := by rw [u8s_length, hx]; exact s25
  have HL := Lib.hid hl
  clear hx hb hl hk
  go_enter Tryd.func6, Tryd.ntmps6
  go_wp2_with ((with_reducible refine load_blk 25 (.tmp 1) w.heap.size 25 (u8s xs) _ rfl rfl ?_ Tryd.underlying25 ?_ ?_ ?_ ?_); exact Blk.new w 25 _; exact rfl; exact HL.out; exact rfl)
  refine (hex_t xs _ HX.out HB.out).mono ?_
  rintro e w1 ⟨rfl, hb⟩
  have hbl : Below w.heap.size w w1 := ((Below.refl _ _).alloc (Nat.le_refl _) _).trans (hb.mono (by simp))
  have BL := Lib.hid hbl
  have G := Lib.hid ((Blk.new w 25 (u8s xs)).below hb (by simp))
  clear hbl hb
  have hsz : (str (Sh.hex xs)).size = 64 := by rw [str_size, hex_length xs HX.out]
  have hidx : ∀ i : Nat, i < 64 → ∀ w, (Instr.index 9 (.string (str (Sh.hex xs))) (.int .i64 (i : Int))).run Tryd.prog w = .ok (.int .u8 ((Sh.hexDigit (half xs i) : Nat) : Int)) w := fun i hi w => by
    rw [← hex_gt xs HX.out i hi]
    exact str_index _ (hex_bytes xs HX.out HB.out) i (by rw [hex_length xs HX.out]; exact hi) w
  generalize str (Sh.hex xs) = S at *
  have t64 : ((S.size : Int) != 64) = false := by rw [hsz]; rfl
  have HIDX := Lib.hid hidx
  clear hidx hsz
  go_wp2_with fail
  go_loop [4] (fun i => ∃ k : Nat, k ≤ 64 ∧ i = .int .i64 k) (fun i => 64 - (intOf i).toNat)
  case atStart => exact ⟨0, by omega, rfl⟩
  case round =>
    obtain ⟨k, hk, rfl⟩ := hrel
    by_cases hlt : k < 64
    · have hidx := HIDX.out k hlt
      have hc : w1.cell? ⟨w.heap.size, k / 2, none⟩ = some (.int .u8 ((gt xs (k / 2) : Nat) : Int)) := by
        rw [G.out.cell, u8s_get _ _ (by have := HX.out; omega)]
      have hb := HB.out (k / 2)
      have hh : half xs k = if k % 2 = 0 then gt xs (k / 2) / 16 else gt xs (k / 2) % 16 := rfl
      have hd : Sh.hexDigit (half xs k) = if half xs k < 10 then 48 + half xs k else 87 + half xs k := rfl
      generalize gt xs (k / 2) = b at *
      generalize half xs k = h at *
      generalize Sh.hexDigit h = c at *
      have hh16 : h < 16 := by rw [hh]; split <;> omega
      by_cases hev : k % 2 = 0
      · have hbit : bits .and .i64 (k : Int) 1 = 0 := by rw [and1 k hlt]; omega
        rw [if_pos hev] at hh
        by_cases h10 : h < 10
        · rw [if_pos h10] at hd
          have q : ((c : Int) - 48 != (b : Int) / 16) = false := by rw [bne_eq_false_iff_eq]; omega
          have c1 : (48 : Int) ≤ (c : Int) := by omega
          have c2 : (c : Int) ≤ 57 := by omega
          clear hd hh hev h10 hh16
          go_wp2
          go_round
          case rel => exact ⟨k + 1, by omega, by go_num⟩
          case measure => simp [intOf]; omega
        · rw [if_neg h10] at hd
          have q : ((c : Int) - 97 + 10 != (b : Int) / 16) = false := by rw [bne_eq_false_iff_eq]; omega
          have c1 : (97 : Int) ≤ (c : Int) := by omega
          have c2 : (c : Int) ≤ 102 := by omega
          clear hd hh hev h10 hh16
          go_wp2
          go_round
          case rel => exact ⟨k + 1, by omega, by go_num⟩
          case measure => simp [intOf]; omega
      · have hbit : bits .and .i64 (k : Int) 1 = 1 := by rw [and1 k hlt]; omega
        rw [if_neg hev] at hh
        by_cases h10 : h < 10
        · rw [if_pos h10] at hd
          have q : ((c : Int) - 48 != (b : Int) % 16) = false := by rw [bne_eq_false_iff_eq]; omega
          have c1 : (48 : Int) ≤ (c : Int) := by omega
          have c2 : (c : Int) ≤ 57 := by omega
          clear hd hh hev h10 hh16
          go_wp2
          go_round
          case rel => exact ⟨k + 1, by omega, by go_num⟩
          case measure => simp [intOf]; omega
        · rw [if_neg h10] at hd
          have q : ((c : Int) - 97 + 10 != (b : Int) % 16) = false := by rw [bne_eq_false_iff_eq]; omega
          have c1 : (97 : Int) ≤ (c : Int) := by omega
          have c2 : (c : Int) ≤ 102 := by omega
          clear hd hh hev h10 hh16
          go_wp2
          go_round
          case rel => exact ⟨k + 1, by omega, by go_num⟩
          case measure => simp [intOf]; omega
    · obtain rfl : k = 64 := by omega
      clear hk hlt
      go_wp2_with fail
      refine (told_t w1 (HKW.out.below BL.out HLT.out)).mono ?_
      rintro e w2 ⟨rfl, hb⟩
      have B2 := Lib.hid (BL.out.trans (hb.mono BL.out.size))
      clear hb
      go_wp2_with fail
      go_ret
      exact ⟨rfl, B2.out⟩
end Go.Proofs.YtahmfbhiaoacgaaDoor
