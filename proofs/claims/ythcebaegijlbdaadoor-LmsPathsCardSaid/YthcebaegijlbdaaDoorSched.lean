import Derived.Test.YthcebaegijlbdaaDoorLeaf
import Derived.Test.YthcebaegijlbdaaDoorMem
import Derived.BigRegion
import Derived.Outline
import Derived.StillTailTactics
import Derived.Deep.MidRow
import Derived.Lib.Hide
namespace Go.Proofs.YthcebaegijlbdaaDoor
open Go.RowKit

open Sh
set_option maxRecDepth 100000 in
set_option maxHeartbeats 1000000 in
theorem schedule_t (l : List Nat) (bb ob : Nat) (w : World) (hl : l.length = 64) (hb : Bytes l) (hc : BytesAt w bb ob l) (hbb : bb < w.heap.size) :
    Calls Tryd.prog 86 #[.pointer (some ⟨bb, ob, none⟩)] w fun e w' => e = .returned (.agg (u32s (Sh.sched l 0)).toArray) ∧ Below w.heap.size w w' := by
  have HL := Lib.hid hl; have HB := Lib.hid hb; have HC := Lib.hid hc
  clear hl hb hc
  go_enter Tryd.func86, Tryd.ntmps86
  go_wp2
  go_loopw [7] (fun i wr => ∃ k : Nat, k ≤ 16 ∧ i = .int .i64 k ∧ Blk wr (w.heap.size + 1) 141 (u32s (Sh.first l 0 k ++ List.replicate (64 - k) 0)) ∧ Blk wr w.heap.size 141 (u32s (List.replicate 64 0)) ∧ Below w.heap.size w wr ∧ wr.heap.size = w.heap.size + 2) (fun i _ => 16 - (intOf i).toNat)
  case atStart =>
    refine ⟨0, by omega, rfl, Blk.new2 _ _ _ _, (Blk.new _ _ _).alloc _, ((Below.refl _ _).alloc (by simp) _).alloc (by simp) _, by simp⟩
  case round =>
    obtain ⟨k, hk, rfl, h1, h2, h3, h4⟩ := hrel
    by_cases hlt : k < 16
    · have hg := HC.out.below h3 hbb
      have c0 := hg (4 * k) (by have := HL.out; omega)
      have c1 := hg (4 * k + 1) (by have := HL.out; omega)
      have c2 := hg (4 * k + 2) (by have := HL.out; omega)
      have c3 := hg (4 * k + 3) (by have := HL.out; omega)
      have b0 := HB.out (4 * k)
      have b1 := HB.out (4 * k + 1)
      have b2 := HB.out (4 * k + 2)
      have b3 := HB.out (4 * k + 3)
      obtain ⟨v, d⟩ : ∃ v, wr.cell? ⟨w.heap.size + 1, k, none⟩ = some v := by
        rw [h1.cell]; exact ⟨_, List.getElem?_eq_getElem (by simp [u32s]; omega)⟩
      have f := h1.frozen k
      have H1 := Lib.hid h1; have H2 := Lib.hid h2; have H3 := Lib.hid h3; have H4 := Lib.hid h4
      clear h1 h2 h3 h4 hg
      go_wp2
      go_region
      go_wp2
      go_roundw
      case rel =>
        refine ⟨k + 1, by omega, by go_num, ?_, ?_, ?_, ?_⟩
        · rw [be_int _ _ _ _ b0 b1 b2 b3]
          have := (H1.out.store k (.int .u32 ((word l 0 k : Nat) : Int))).drew
          rw [u32s_set, show 64 - k = (64 - (k + 1)) + 1 from by omega, first_set] at this
          simp only [word, Nat.zero_add] at this
          exact this
        · exact (H2.out.drew).far (by simp) _
        · exact (H3.out.drew).setCell (by simp) _
        · simpa using H4.out
      case measure => simp [intOf]; omega
    · obtain rfl : k = 16 := by omega
      clear hk hlt
      have H1 := Lib.hid h1; have H2 := Lib.hid h2; have H3 := Lib.hid h3; have H4 := Lib.hid h4
      clear h1 h2 h3 h4
      rw [show ((16 : Nat) : Int) = (16 : Int) from rfl]
      go_wp2
      go_loopw [6] (fun i wr => ∃ k : Nat, k ≤ 48 ∧ i = .int .i64 ((k + 16 : Nat) : Int) ∧ Blk wr (w.heap.size + 1) 141 (u32s (Sh.sch (Sh.first l 0 16) k ++ List.replicate (48 - k) 0)) ∧ Blk wr w.heap.size 141 (u32s (List.replicate 64 0)) ∧ Below w.heap.size w wr ∧ wr.heap.size = w.heap.size + 2) (fun i _ => 64 - (intOf i).toNat)
      case atStart => exact ⟨0, by omega, rfl, H1.out, H2.out, H3.out, H4.out⟩
      case round =>
        clear H1 H2 H3 H4
        obtain ⟨k, hk, rfl, h1, h2, h3, h4⟩ := hrel
        by_cases hlt : k < 48
        · have W := sch_words l HB.out k
          have len : (sch (first l 0 16) k).length = k + 16 := by rw [sch_length, first_length]; omega
          have c : ∀ j, j < k + 16 → wr.cell? ⟨w.heap.size + 1, j, none⟩ = some (.int .u32 ((gt (sch (first l 0 16) k) j : Nat) : Int)) := fun j hj => by
            rw [h1.cell, u32s_get _ _ (by simp [len]; omega), gt_app_left (by omega)]
          have c2 := c (k + 16 - 2) (by omega)
          have c7 := c (k + 16 - 7) (by omega)
          have c15 := c (k + 16 - 15) (by omega)
          have c16 := c (k + 16 - 16) (by omega)
          obtain ⟨v, d⟩ : ∃ v, wr.cell? ⟨w.heap.size + 1, k + 16, none⟩ = some v := by
            rw [h1.cell]; exact ⟨_, List.getElem?_eq_getElem (by simp [u32s, len]; omega)⟩
          have f := h1.frozen (k + 16)
          have H1 := Lib.hid h1; have H2 := Lib.hid h2; have H3 := Lib.hid h3; have H4 := Lib.hid h4; have Hl := Lib.hid len
          clear h1 h2 h3 h4 c len
          generalize hi : k + 16 = i at *
          have Hi := Lib.hid hi
          have i1 : 16 ≤ i := by omega
          have i2 : i < 64 := by omega
          clear hi
          have W2 := W (i - 2)
          have W15 := W (i - 15)
          generalize hm : sch (first l 0 16) k = m at *
          have Hm := Lib.hid hm
          clear hm
          clear W
          have b2 : (2 : Int) ≤ (i : Int) := by omega
          have b2' : (i : Int) - 2 < 64 := by omega
          have b7 : (7 : Int) ≤ (i : Int) := by omega
          have b7' : (i : Int) - 7 < 64 := by omega
          have b15 : (15 : Int) ≤ (i : Int) := by omega
          have b15' : (i : Int) - 15 < 64 := by omega
          have b16 : (16 : Int) ≤ (i : Int) := by omega
          have b16' : (i : Int) - 16 < 64 := by omega
          have b0 : (i : Int) < 64 := by omega
          go_wp2
          refine wp_region_still_tail 23 (by kernel_rfl) (by kernel_rfl) ?_
          simp only [List.take_succ_cons, List.take_zero, List.drop_succ_cons, List.drop_zero]
          repeat (refine wpStill_step (fun K hK => ?_); go_simp; (try go_bits); refine hK _ ?_; clear hK K)
          (refine wpStill_step (fun K hK => ?_); go_simp; (try go_bits); refine ⟨_, (flip (smallSigma1_t _ _ W2)), hK _ ?_⟩; clear hK K)
          repeat (refine wpStill_step (fun K hK => ?_); go_simp; (try go_bits); refine hK _ ?_; clear hK K)
          (refine wpStill_step (fun K hK => ?_); go_simp; (try go_bits); refine ⟨_, (flip (smallSigma0_t _ _ W15)), hK _ ?_⟩; clear hK K)
          repeat (refine wpStill_step (fun K hK => ?_); go_simp; (try go_bits); refine hK _ ?_; clear hK K)
          refine wpStill_nil ?_
          go_wp2
          go_roundw
          case rel =>
            have hl := Hl.out
            have hi := Hi.out
            refine ⟨k + 1, by omega, ?_, ?_, ?_, ?_, ?_⟩
            · rw [← hi]; go_num
            · rw [add4_int]
              have := (H1.out.store i (.int .u32 ((nw m i : Nat) : Int))).drew
              rw [u32s_set, show 48 - k = (48 - (k + 1)) + 1 from by omega] at this
              have e := set_next m (48 - (k + 1)) (nw m i)
              rw [hl] at e
              rw [e] at this
              rw [← Hm.out, ← hi] at this
              rw [← Hm.out, ← hi]
              exact this
            · exact (H2.out.far (by simp) _).drew
            · exact (H3.out.setCell (by simp) _).drew
            · simpa using H4.out
          case measure => simp [intOf]; omega
        · obtain rfl : k = 48 := by omega
          clear hk hlt
          have H1 := Lib.hid h1; have H2 := Lib.hid h2; have H3 := Lib.hid h3; have H4 := Lib.hid h4
          clear h1 h2 h3 h4
          have hlen : (u32s (sch (first l 0 16) 48 ++ List.replicate (48 - 48) 0)).length = 64 := by rw [u32s_length, List.length_append, sch_length, first_length]; rfl
          have Hlen := Lib.hid hlen
          clear hlen
          go_wp2_with (first
            | (refine wpList_load_row rfl 141 (.tmp 3) rfl (w.heap.size + 1) rfl 141 _ (0, 0) _ H1.out Tryd.underlying141 rfl (by rw [List.size_toArray, Hlen.out]; kernel_rfl) ?_)
            | (refine wpList_store_row rfl 141 (.tmp 2) (.tmp 75) rfl w.heap.size _ rfl rfl 141 _ H2.out (by rw [List.size_toArray, Hlen.out]; kernel_rfl) (by rw [List.size_toArray, List.size_toArray, Hlen.out]; rfl) (u32s_one _) ?_))
          refine ret_blk (p := 2) (ty := 141) rfl rfl w.heap.size 141 _ _ rfl (H2.out.setRow _) Tryd.underlying141 rfl (by rw [Hlen.out]; kernel_rfl) ⟨?_, ?_⟩
          · simp [Sh.sched]
          · exact below_setRow H3.out (Nat.le_refl _) _
end Go.Proofs.YthcebaegijlbdaaDoor
