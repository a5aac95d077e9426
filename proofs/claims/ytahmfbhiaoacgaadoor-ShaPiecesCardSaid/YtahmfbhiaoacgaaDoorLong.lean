/-
  ShaLong walked.
-/
import Derived.Test.YtahmfbhiaoacgaaDoorTold
import Derived.Test.YtahmfbhiaoacgaaDoorRefS
namespace Go.Proofs.YtahmfbhiaoacgaaDoor
open Go.RowKit Sh

theorem Sl.of_sr {w : World} {p : Option Addr} {xs : List Nat} (h : Sr w p xs) (g : Nat) (hg : w.heap.size ≤ g) : Sl w w.heap.size g p xs := fun hx => by
  obtain ⟨b, o, e, h1, h2⟩ := h hx
  exact ⟨b, o, e, h1, by omega, h2⟩
theorem long_of (n : Int) (_ : -9223372036854775808 ≤ n ∧ n ≤ 9223372036854775807) : ∃ k : Nat, k ≤ 300 ∧ wrap64 ((IntKind.u64.wrap n).tmod 301) = (k : Int) := by
  have h0 : 0 ≤ IntKind.u64.wrap n := by simp [IntKind.wrap, IntKind.bits, IntKind.signed]; omega
  rw [Int.tmod_eq_emod_of_nonneg h0]
  generalize IntKind.u64.wrap n = m at *
  refine ⟨(m % 301).toNat, by omega, ?_⟩
  unfold wrap64
  omega
theorem madeU8 (m : Nat) : (madeCells (Value.int .u8 0).cells (m * 1)).toList = u8s (List.replicate m 0) := by
  rw [Nat.mul_one]
  have := toList_madeCells_one (.int .u8 0) m
  simpa [u8s, Value.cells] using this
set_option maxRecDepth 100000 in
set_option maxHeartbeats 1000000 in
theorem long_t (n : Int) (c : Nat) (w : World) (hn : -9223372036854775808 ≤ n ∧ n ≤ 9223372036854775807) (_ : c < 256) (hk : KAt w) :
    Calls Tryd.prog 4 #[.int .i64 n, .int .u8 c] w fun e w' => e = .returned (.bool true) ∧ Below w.heap.size w w' := by
  obtain ⟨m, hm3, hmn⟩ := long_of n hn
  obtain ⟨i0, hi0, hz0, hs0, hb0⟩ := info_parts byte_info
  obtain ⟨w1, hmk, ho, hg⟩ := run_make_full (P := Tryd.prog) w w.heap.size 22 5 i0 (.int .u8 0) 1 Tryd.underlying22 hi0 hz0 hs0 .i64 .i64 m (by rw [hb0]; omega) (by unfold maxLen; omega) (Nat.le_refl _)
  rw [← hmn] at hmk
  have HMN := Lib.hid hmn; have HKW := Lib.hid hk; have HO := Lib.hid ho; have HG := Lib.hid hg
  clear hmn hn hk ho hg hi0 hz0 hs0 hb0
  go_enter Tryd.func4, Tryd.ntmps4
  go_wp2_with fail
  rw [HMN.out] at hmk ⊢
  have hbw : Below w.heap.size w w1 := (Below.refl _ _).grown HG.out (Nat.le_refl _) (fun k e => by cases e)
  have ho1 : w1.ownsRow w.heap.size 5 1 (.slice (some ⟨w.heap.size, 0, none⟩) m m) m (u8s (List.replicate m 0)) := by rw [← madeU8]; exact HO.out
  have HBW := Lib.hid hbw; have HO1 := Lib.hid ho1
  clear hbw ho1 HO HG hmk
  go_loopw [6] (fun i wr => ∃ (j : Nat) (ys : List Nat), j ≤ m ∧ i = .int .i64 j ∧ wr.ownsRow w.heap.size 5 1 (.slice (some ⟨w.heap.size, 0, none⟩) m m) m (u8s ys) ∧ Bytes ys ∧ Below w.heap.size w wr) (fun i _ => m - (intOf i).toNat)
  case atStart => exact ⟨0, _, by omega, rfl, HO1.out, zeros_bytes m, HBW.out⟩
  case round =>
    clear HBW HO1
    obtain ⟨j, ys, hj, rfl, ho, hy, hw⟩ := hrel
    by_cases hlt : j < m
    · have hyl : ys.length = m := by have := ho.1; rw [u8s_length] at this; omega
      have d0 : wr.cell? ⟨w.heap.size, j, none⟩ = some (.int .u8 ((gt ys j : Nat) : Int)) := by rw [ho.cellAt j (by omega), u8s_get _ _ (by omega)]
      have f0 : wr.frozen? ⟨w.heap.size, j, none⟩ = false := ho.frozenAt j
      have i0 : (j : Int) < (m : Int) := by omega
      have i1 : (m : Int) ≤ 300 := by omega
      have HO := Lib.hid ho; have HY := Lib.hid hy; have HW := Lib.hid hw
      clear ho hy hw
      go_wp2
      go_roundw
      case rel =>
        obtain ⟨s1, s2⟩ := HO.out.stored j (.int .u8 (((c + j) % 256 : Nat) : Int))
        rw [u8s_set] at s1
        have e : ((c : Int) + (j : Int)) % 256 = (((c + j) % 256 : Nat) : Int) := by omega
        rw [e]
        refine ⟨j + 1, _, by omega, by go_num, s1, fun i => ?_, HW.out.setCell (by simp) _⟩
        rcases Nat.lt_or_ge i ys.length with h | h
        · by_cases ei : j = i
          · subst ei; rw [gt_of_lt (by simpa using h)]; simp; omega
          · have : gt (ys.set j ((c + j) % 256)) i = gt ys i := by simp [gt, List.getD_eq_getElem?_getD, ei]
            rw [this]; exact HY.out i
        · rw [gt_out (by simpa using h)]; decide
      case measure => simp [intOf]; omega
    · obtain rfl : j = m := by omega
      have hyl : ys.length = j := by have := ho.1; rw [u8s_length] at this; omega
      have HY := Lib.hid hy; have HW := Lib.hid hw
      subst hyl
      have HO := Lib.hid ho
      have he := eql_same (sum ys) (sum_length _)
      obtain ⟨S, hS⟩ : ∃ S, sum ys = S := ⟨_, rfl⟩
      rw [hS] at he
      have HS := Lib.hid hS
      clear ho hy hw hS hlt hj
      go_wp2_with (first
        | (go_at_call 9; refine (told_t wr (HKW.out.below HW.out HKW.out.lt)).mono ?_; rintro e w2 ⟨rfl, b2⟩; have O2 := Lib.hid (own_below HO.out b2); have B2 := Lib.hid (HW.out.trans (b2.mono HW.out.size)); clear b2)
        | (go_at_call 10; refine (sum_t ys (some ⟨w.heap.size, 0, none⟩) ys.length w2 HY.out (fun g hg => Sl.of_sr (Sr.of_own O2.out) g hg) (Nat.le_refl _) (by omega) (HKW.out.below B2.out HKW.out.lt)).mono ?_; rintro e w3 ⟨rfl, b3⟩; rw [HS.out]; have O3 := Lib.hid (own_below O2.out b3); have B3 := Lib.hid (B2.out.trans (b3.mono B2.out.size)); clear b3)
        | (go_at_call 11; refine (refsum_t ys (some ⟨w.heap.size, 0, none⟩) ys.length ys.length w3 rfl (Sr.of_own O3.out) HY.out (by omega)).mono ?_; rintro e w4 ⟨rfl, b4⟩; rw [HS.out]; have B4 := Lib.hid (B3.out.trans (b4.mono B3.out.size)); clear b4))
      go_ret
      exact ⟨rfl, B4.out⟩
end Go.Proofs.YtahmfbhiaoacgaaDoor
