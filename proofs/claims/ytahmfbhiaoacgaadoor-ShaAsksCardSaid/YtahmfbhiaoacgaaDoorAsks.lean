/-
  ShaAsks walked.
-/
import Derived.Test.YtahmfbhiaoacgaaDoorLong
import Derived.Test.YtahmfbhiaoacgaaDoorRefH
import Derived.Deep.RegionHeld3
namespace Go.Proofs.YtahmfbhiaoacgaaDoor
open Go.RowKit Sh

theorem range_of_blk {w : World} {g : Nat} {t : TypeId} {cs : List Value} (h : Blk w g t cs) : w.rangeAt g 0 cs := fun j v hv => by rw [Nat.zero_add, h.cell, hv]
set_option maxRecDepth 100000 in
set_option maxHeartbeats 1000000 in
theorem asks_t (xs : List Nat) (p : Option Addr) (n c : Nat) (w : World) (hn : xs.length = n) (hp : Sr w p xs) (hb : Bytes xs) (hc : n ≤ c) (hm : n ≤ 9223372036854775807) (hk : KAt w) :
    Calls Tryd.prog 3 #[.slice p n c] w fun e w' => e = .returned (.bool true) ∧ Below w.heap.size w w' := by
  subst hn
  by_cases hl : 1000 < xs.length
  · go_enter Tryd.func3, Tryd.ntmps3
    go_wp2_with (go_at_call 9; refine (told_t _ hk).mono ?_; rintro e w2 ⟨rfl, b2⟩)
    go_ret
    exact ⟨rfl, b2⟩
  · have hl2 : xs.length ≤ 1000 := by omega
    have HP := Lib.hid hp; have HB := Lib.hid hb; have HK := Lib.hid hk; have HC := Lib.hid hc
    have he := eql_same (sum xs) (sum_length _)
    have hsb := sum_bytes xs hb
    have hsl := sum_length xs
    have z1 := zs25 xs
    obtain ⟨S, hS⟩ : ∃ S, sum xs = S := ⟨_, rfl⟩
    rw [hS] at he hsb hsl z1
    have HS := Lib.hid hS; have HSB := Lib.hid hsb; have HSL := Lib.hid hsl; have Z1 := Lib.hid z1
    clear hp hb hk hc hl hS hsb hsl z1
    go_enter Tryd.func3, Tryd.ntmps3
    go_wp2_with fail
    refine (sum_t xs p c w HB.out (fun g hg => Sl.of_sr HP.out g hg) HC.out (by omega) HK.out).mono ?_
    rintro e w1 ⟨rfl, b1⟩
    rw [HS.out]
    have B1 := Lib.hid b1
    clear b1
    have hz32 : (u8s (List.replicate 32 0)).length = (u8s S).length := by rw [u8s_length, u8s_length, HSL.out, List.length_replicate]
    have HZ32 := Lib.hid hz32
    clear hz32
    go_wp2_with ((with_reducible refine store_blk 25 (.tmp 3) (.tmp 9) w1.heap.size 25 (u8s (List.replicate 32 0)) (u8s S) rfl rfl ?_ ?_ ?_ ?_ ?_ ?_ ?_); exact Blk.new w1 _ _; exact HZ32.out; exact Z1.out; exact u8s_one _; exact rfl; exact rfl)
    have k0 := (Blk.new w1 25 (u8s (List.replicate 32 0))).setRow (u8s S)
    have bb := below_setRow (B1.out.alloc B1.out.size (.cells (u8s (List.replicate 32 0)).toArray 25)) B1.out.size (u8s S).toArray
    obtain ⟨w2, hw2⟩ : ∃ x : World, x = (w1.alloc (.cells (u8s (List.replicate 32 0)).toArray 25)).setRow w1.heap.size (u8s S).toArray := ⟨_, rfl⟩
    change Code.wp _ _ _ _ ((w1.alloc (.cells (u8s (List.replicate 32 0)).toArray 25)).setRow w1.heap.size (u8s S).toArray)
    rw [← hw2] at k0 bb ⊢
    have K2 := Lib.hid k0; have B2 := Lib.hid bb
    have heq : ((str (Sh.hex S)).toList == (str (Sh.hex S)).toList) = true := beq_self_eq_true _
    clear hw2 k0 bb
    obtain ⟨g, hg⟩ : ∃ g, w1.heap.size = g := ⟨_, rfl⟩
    rw [hg] at K2 ⊢
    clear hg
    refine wp_region_held (S := fun W => W.rangeAt g 0 (u8s S)) (by kernel_rfl) ?_
    change wpAnyH _ _ _ _ _ _ _ _ w2.drew
    refine wpAnyH_ready (rs := [0]) (by kernel_rfl) (by simp) ?_
    refine AllReadyH.cons rfl (fun K hK => ?_) AllReadyH.nil
    go_simp
    refine (told_t w2.drew (HK.out.below B2.out.drew HK.out.lt)).mono ?_
    rintro e w3 ⟨rfl, b3⟩
    have K3 := Lib.hid (K2.out.drew.below b3 K2.out.lt)
    have B3 := Lib.hid (B2.out.drew.trans (b3.mono B2.out.size))
    have r3 := range_of_blk K3.out
    clear b3 B2 K2
    refine hK.out _ _ r3 (fun _ => ?_)
    clear hK K
    refine wpAnyH_take (i := 1) (v := ?_) rfl (by kernel_rfl) (by kernel_rfl) (by kernel_rfl) (fun _ _ _ h => h) (Or.inl ⟨by kernel_rfl, ?_⟩) r3 ?_
    rotate_left 1
    · (intro w hS; clear hS; go_simp; try (with_reducible rfl))
    refine wpAnyH_take (i := 2) (v := .agg (u8s S).toArray) rfl (by kernel_rfl) (by kernel_rfl) (by kernel_rfl) (fun _ _ _ h => h) (yieldsIf_load_mid (by kernel_rfl) 25 (.tmp 3) rfl g 0 (by go_simp) (u8s S) _ (fun _ h => h) Tryd.underlying25 rfl Z1.out) r3 ?_
    refine wpAnyH_take (i := 3) (v := ?_) rfl (by kernel_rfl) (by kernel_rfl) (by kernel_rfl) (fun _ _ _ h => h) (Or.inl ⟨by kernel_rfl, ?_⟩) r3 ?_
    rotate_left 1
    · (intro w hS; clear hS; go_simp; try (with_reducible rfl))
    refine wpAnyH_ready (rs := [4]) (by kernel_rfl) (by simp) ?_
    refine AllReadyH.cons rfl (fun K hK => ?_) AllReadyH.nil
    go_simp
    refine (refsum_t xs p xs.length c w3 rfl (HP.out.below B3.out) HB.out (by omega)).mono ?_
    rintro e w4 ⟨rfl, b4⟩
    rw [HS.out]
    have K4 := Lib.hid (K3.out.below b4 K3.out.lt)
    have B4 := Lib.hid (B3.out.trans (b4.mono B3.out.size))
    have r4 := range_of_blk K4.out
    clear b4 B3 K3 r3
    refine hK.out _ _ r4 (fun _ => ?_)
    clear hK K
    refine wpAnyH_take (i := 5) (v := ?_) rfl (by kernel_rfl) (by kernel_rfl) (by kernel_rfl) (fun _ _ _ h => h) (Or.inl ⟨by kernel_rfl, ?_⟩) r4 ?_
    rotate_left 1
    · (intro w hS; clear hS; go_simp; try (with_reducible rfl))
    refine wpAnyH_take (i := 6) (v := ?_) rfl (by kernel_rfl) (by kernel_rfl) (by kernel_rfl) (fun _ _ _ h => h) (Or.inl ⟨by kernel_rfl, ?_⟩) r4 ?_
    rotate_left 1
    · (intro w hS; clear hS; go_simp; try (with_reducible rfl))
    refine wpAnyH_take (i := 7) (v := ?_) rfl (by kernel_rfl) (by kernel_rfl) (by kernel_rfl) (fun _ _ _ h => h) (Or.inl ⟨by kernel_rfl, ?_⟩) r4 ?_
    rotate_left 1
    · (intro w hS; clear hS; go_simp; try (with_reducible rfl))
    refine wpAnyH_take (i := 8) (v := .agg (u8s S).toArray) rfl (by kernel_rfl) (by kernel_rfl) (by kernel_rfl) (fun _ _ _ h => h) (yieldsIf_load_mid (by kernel_rfl) 25 (.tmp 3) rfl g 0 (by go_simp) (u8s S) _ (fun _ h => h) Tryd.underlying25 rfl Z1.out) r4 ?_
    refine wpAnyH_take (i := 10) (v := .agg (u8s S).toArray) rfl (by kernel_rfl) (by kernel_rfl) (by kernel_rfl) (fun _ _ _ h => h) (yieldsIf_load_mid (by kernel_rfl) 25 (.tmp 3) rfl g 0 (by go_simp) (u8s S) _ (fun _ h => h) Tryd.underlying25 rfl Z1.out) r4 ?_
    refine wpAnyH_ready (rs := [9]) (by kernel_rfl) (by simp) ?_
    refine AllReadyH.cons rfl (fun K hK => ?_) AllReadyH.nil
    go_simp
    refine (hex_t S w4 HSL.out HSB.out).mono ?_
    rintro e w5 ⟨rfl, b5⟩
    have K5 := Lib.hid (K4.out.below b5 K4.out.lt)
    have B5 := Lib.hid (B4.out.trans (b5.mono B4.out.size))
    have r5 := range_of_blk K5.out
    clear b5 B4 K4 r4
    refine hK.out _ _ r5 (fun _ => ?_)
    clear hK K
    refine wpAnyH_ready (rs := [11]) (by kernel_rfl) (by simp) ?_
    refine AllReadyH.cons rfl (fun K hK => ?_) AllReadyH.nil
    go_simp
    refine (refhex_t S w5 HSL.out HSB.out).mono ?_
    rintro e w6 ⟨rfl, b6⟩
    have K6 := Lib.hid (K5.out.below b6 K5.out.lt)
    have B6 := Lib.hid (B5.out.trans (b6.mono B5.out.size))
    have r6 := range_of_blk K6.out
    clear b6 B5 K5 r5
    refine hK.out _ _ r6 (fun _ => ?_)
    clear hK K
    refine wpAnyH_take (i := 12) (v := ?_) rfl (by kernel_rfl) (by kernel_rfl) (by kernel_rfl) (fun _ _ _ h => h) (Or.inl ⟨by kernel_rfl, ?_⟩) r6 ?_
    rotate_left 1
    · (intro w hS; clear hS; go_simp; try (with_reducible rfl))
    refine wpAnyH_take (i := 13) (v := ?_) rfl (by kernel_rfl) (by kernel_rfl) (by kernel_rfl) (fun _ _ _ h => h) (Or.inl ⟨by kernel_rfl, ?_⟩) r6 ?_
    rotate_left 1
    · (intro w hS; clear hS; go_simp; try (with_reducible rfl))
    refine wpAnyH_take (i := 14) (v := ?_) rfl (by kernel_rfl) (by kernel_rfl) (by kernel_rfl) (fun _ _ _ h => h) (Or.inl ⟨by kernel_rfl, ?_⟩) r6 ?_
    rotate_left 1
    · (intro w hS; clear hS; go_simp; try (with_reducible rfl))
    refine wpAnyH_done (by kernel_rfl) ?_ _
    go_simp
    go_wp2_with fail
    go_ret
    exact ⟨rfl, B6.out⟩
end Go.Proofs.YtahmfbhiaoacgaaDoor
