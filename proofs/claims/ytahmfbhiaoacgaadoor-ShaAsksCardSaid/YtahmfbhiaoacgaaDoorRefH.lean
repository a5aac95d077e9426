/-
  The reference's Hex.
-/
import Derived.Test.YtahmfbhiaoacgaaDoorRefS
import Derived.Test.YtahmfbhiaoacgaaDoorMore
import Derived.Deep.RegionHeld3
namespace Go.Proofs.YtahmfbhiaoacgaaDoor
open Go Go.RowKit Sh

set_option maxRecDepth 100000 in
theorem and15 : ∀ v : Nat, v < 256 → bits .and .u8 (v : Int) 15 = ((v % 16 : Nat) : Int) := by decide +kernel
set_option maxRecDepth 100000 in
set_option maxHeartbeats 1000000 in
theorem refhex_t (xs : List Nat) (w : World) (hx : xs.length = 32) (hb : Bytes xs) :
    Calls Tryd.prog 13 #[.agg (u8s xs).toArray] w fun e w' => e = .returned (.string (str (Sh.hex xs))) ∧ Below w.heap.size w w' := by
  have HX := Lib.hid hx; have HB := Lib.hid hb
  have hl : (Tryd.prog.info? 25).map (·.size) = some (u8s xs).length := by rw [u8s_length, hx]; exact s25
  have HL := Lib.hid hl
  clear hx hb hl
  go_enter Tryd.func13, Tryd.ntmps13
  go_wp2_with fail
  go_loopw [3, 4] (fun o i wr => ∃ k : Nat, k ≤ 32 ∧ i = .int .i64 k ∧ wr.ownsRow w.heap.size 5 1 o (2 * k) (u8s (hexN xs k)) ∧ Blk wr w.heap.size 25 (u8s xs) ∧ Below w.heap.size w wr) (fun _ i _ => 32 - (intOf i).toNat)
  case atStart => exact ⟨0, by omega, rfl, nil_own _ _, Blk.new w _ _, (Below.refl _ _).alloc (Nat.le_refl _) _⟩
  case round =>
    obtain ⟨k, hk, rfl, ho, hr, hw⟩ := hrel
    by_cases hlt : k < 32
    · have hb := HB.out k
      have c0 := (hr.cell k).trans (u8s_get _ _ (by rw [HX.out]; exact hlt))
      obtain ⟨v, hv⟩ : ∃ v, gt xs k = v := ⟨_, rfl⟩
      rw [hv] at hb c0
      have HV := Lib.hid hv
      clear hv
      have d1 := digit_run (v / 16) (by omega)
      have d2 := digit_run (v % 16) (by omega)
      have q1 : (((v / 16 : Nat) : Int)) = (v : Int) / 16 := by omega
      have q2 : (((v % 16 : Nat) : Int)) = (v : Int) % 16 := by omega
      rw [q1] at d1
      rw [q2] at d2
      have ha := and15 v hb
      rw [q2] at ha
      clear q1 q2
      unfold digits at d1 d2
      have HO := Lib.hid ho; have HR := Lib.hid hr; have HW := Lib.hid hw
      have i0 : (k : Int) < 32 := by omega
      clear ho hr hw
      go_wp2_with fail
      refine wp_region_held (S := fun W => W.cell? ⟨w.heap.size, k, none⟩ = some (.int .u8 (v : Int))) (by kernel_rfl) ?_
      change wpAnyH _ _ _ _ _ _ _ _ wr.drew
      refine wpAnyH_take (i := 0) (v := ?_) rfl (by kernel_rfl) (by kernel_rfl) (by kernel_rfl) (fun _ _ _ h => h) (Or.inl ⟨by kernel_rfl, ?_⟩) c0 ?_
      rotate_left 1
      · (intro w hS; go_simp; try (with_reducible rfl))
      refine wpAnyH_take (i := 1) (v := ?_) rfl (by kernel_rfl) (by kernel_rfl) (by kernel_rfl) (fun _ _ _ h => h) (Or.inl ⟨by kernel_rfl, ?_⟩) c0 ?_
      rotate_left 1
      · (intro w hS; go_simp; try (with_reducible rfl))
      refine wpAnyH_take (i := 2) (v := ?_) rfl (by kernel_rfl) (by kernel_rfl) (by kernel_rfl) (fun _ _ _ h => h) (Or.inl ⟨by kernel_rfl, ?_⟩) c0 ?_
      rotate_left 1
      · (intro w hS; go_simp; try (with_reducible rfl))
      refine wpAnyH_take (i := 3) (v := ?_) rfl (by kernel_rfl) (by kernel_rfl) (by kernel_rfl) (fun _ _ _ h => h) (Or.inl ⟨by kernel_rfl, ?_⟩) c0 ?_
      rotate_left 1
      · (intro w hS; go_simp; try (with_reducible rfl))
      refine wpAnyH_take (i := 4) (v := ?_) rfl (by kernel_rfl) (by kernel_rfl) (by kernel_rfl) (fun _ _ _ h => h) (Or.inl ⟨by kernel_rfl, ?_⟩) c0 ?_
      rotate_left 1
      · (intro w hS; go_simp; try (with_reducible rfl))
      refine wpAnyH_take (i := 5) (v := ?_) rfl (by kernel_rfl) (by kernel_rfl) (by kernel_rfl) (fun _ _ _ h => h) (Or.inl ⟨by kernel_rfl, ?_⟩) c0 ?_
      rotate_left 1
      · (intro w hS; go_simp; try (with_reducible rfl))
      refine wpAnyH_take (i := 6) (v := ?_) rfl (by kernel_rfl) (by kernel_rfl) (by kernel_rfl) (fun _ _ _ h => h) (Or.inl ⟨by kernel_rfl, ?_⟩) c0 ?_
      rotate_left 1
      · (intro w hS; go_simp; try (with_reducible rfl))
      refine wpAnyH_take (i := 7) (v := ?_) rfl (by kernel_rfl) (by kernel_rfl) (by kernel_rfl) (fun _ _ _ h => h) (Or.inl ⟨by kernel_rfl, ?_⟩) c0 ?_
      rotate_left 1
      · (intro w hS; go_simp; try (with_reducible rfl))
      refine wpAnyH_take (i := 8) (v := ?_) rfl (by kernel_rfl) (by kernel_rfl) (by kernel_rfl) (fun _ _ _ h => h) (Or.inl ⟨by kernel_rfl, ?_⟩) c0 ?_
      rotate_left 1
      · (intro w hS; go_simp; try (with_reducible rfl))
      refine wpAnyH_take (i := 9) (v := ?_) rfl (by kernel_rfl) (by kernel_rfl) (by kernel_rfl) (fun _ _ _ h => h) (Or.inl ⟨by kernel_rfl, ?_⟩) c0 ?_
      rotate_left 1
      · (intro w hS; go_simp; try (with_reducible rfl))
      refine wpAnyH_take (i := 10) (v := ?_) rfl (by kernel_rfl) (by kernel_rfl) (by kernel_rfl) (fun _ _ _ h => h) (Or.inl ⟨by kernel_rfl, ?_⟩) c0 ?_
      rotate_left 1
      · (intro w hS; go_simp; try (with_reducible rfl))
      refine wpAnyH_ready (rs := [11]) (by kernel_rfl) (by simp) ?_
      refine AllReadyH.cons rfl (fun K hK => ?_) AllReadyH.nil
      go_simp
      have hwl : w.heap.size < wr.heap.size := HR.out.lt
      have c1 : ((wr.alloc (.cells #[.int .u8 ((Sh.hexDigit (v / 16) : Nat) : Int), .int .u8 ((Sh.hexDigit (v % 16) : Nat) : Int)] 5)).drew).cell? ⟨w.heap.size, k, none⟩ = some (.int .u8 (v : Int)) := (World.cell?_alloc_lt _ _ ⟨w.heap.size, k, none⟩ hwl).trans c0
      refine hK.out _ _ c1 (fun _ => ?_)
      clear hK K
      refine wpAnyH_ready (rs := [12]) (by kernel_rfl) (by simp) ?_
      refine AllReadyH.cons rfl (fun K hK => ?_) AllReadyH.nil
      have hal : Below wr.heap.size wr ((wr.alloc (.cells #[.int .u8 ((Sh.hexDigit (v / 16) : Nat) : Int), .int .u8 ((Sh.hexDigit (v % 16) : Nat) : Int)] 5)).drew) := ((Below.refl _ _).alloc (Nat.le_refl _) _).drew
      have ow := own_below HO.out hal
      have sr : Sr ((wr.alloc (.cells #[.int .u8 ((Sh.hexDigit (v / 16) : Nat) : Int), .int .u8 ((Sh.hexDigit (v % 16) : Nat) : Int)] 5)).drew) (some ⟨wr.heap.size, 0, none⟩) [Sh.hexDigit (v / 16), Sh.hexDigit (v % 16)] := Sr.made [Sh.hexDigit (v / 16), Sh.hexDigit (v % 16)] wr _ _
      refine wp_append_bytes (.tmp 9) (.tmp 20) 22 ?_ 5 Tryd.underlying22 byte_info w.heap.size _ (2 * k) (hexN xs k) [Sh.hexDigit (v / 16), Sh.hexDigit (v % 16)] ?_ ow (some ⟨wr.heap.size, 0, none⟩) 2 2 ?_ rfl sr (by omega) (by simp; omega) ?_
      · rfl
      · go_simp
      · go_simp
      intro v5 w5 e1 e2 e3
      have hr5 : Blk w5 w.heap.size 25 (u8s xs) := by
        have h3 := HR.out.below hal HR.out.lt
        exact (e2.out.block _ h3.lt (fun e => own_apart ow h3 (by decide) e.symm)).trans h3
      have hb5 : Below w.heap.size w w5 := (HW.out.trans (hal.mono HW.out.size)).grown e2.out (by have := HW.out.size; simp; omega) (fun q e => (HO.out.lt q e).1)
      have c5 := (hr5.cell k).trans (u8s_get xs k (by rw [HX.out]; exact hlt))
      rw [HV.out] at c5
      refine hK.out _ _ c5 (fun _ => ?_)
      clear hK K
      refine wpAnyH_take (i := 13) (v := ?_) rfl (by kernel_rfl) (by kernel_rfl) (by kernel_rfl) (fun _ _ _ h => h) (Or.inl ⟨by kernel_rfl, ?_⟩) c5 ?_
      rotate_left 1
      · (intro w hS; go_simp; try (with_reducible rfl))
      refine wpAnyH_done (by kernel_rfl) ?_ _
      have R5 := Lib.hid hr5; have B5 := Lib.hid hb5
      clear hr5 hb5 c5 c1 c0 ow sr hal hwl
      go_simp
      go_wp2
      go_roundw
      case rel =>
        refine ⟨k + 1, by omega, by go_num, ?_, R5.out, B5.out⟩
        have o5 := e1.out
        unfold hexN
        rw [HV.out, show 2 * (k + 1) = 2 * k + 2 from by omega]
        exact o5
      case measure => simp [intOf]; omega
    · obtain rfl : k = 32 := by omega
      have hh : hexN xs 32 = Sh.hex xs := (hex_hexN xs HX.out).symm
      rw [hh] at ho
      obtain ⟨A, c, rfl, _⟩ := own_form ho
      have hl : (Sh.hex xs).length = 2 * 32 := by rw [hex_hexN xs HX.out, hexN_length]
      have hcv := conv_bytes (P := Tryd.prog) wr 22 5 9 Tryd.underlying22 Tryd.underlying5 Tryd.underlying9 A (2 * 32) c (Sh.hex xs) hl fun h => by obtain ⟨b, o, e, _, h2⟩ := Sr.of_own ho h; exact ⟨b, o, e, h2⟩
      have HW := Lib.hid hw
      clear ho hr hw hh hl
      go_wp2
      go_ret
      exact ⟨rfl, HW.out⟩
end Go.Proofs.YtahmfbhiaoacgaaDoor
