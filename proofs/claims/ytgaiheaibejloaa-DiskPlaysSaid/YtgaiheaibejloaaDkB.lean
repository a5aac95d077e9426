/-
  PACKAGE disk: Write, Read.
-/
import Derived.Test.YtgaiheaibejloaaDkA
import Derived.Deep.CutRange
import Derived.Deep.CutBlock
import Derived.Deep.DeepCutAuto
import Derived.Deep.RegionHeld3
import Derived.Deep.RegionWith
namespace Go.Proofs.Ytgaiheaibejloaa
open Go Go.RowKit Go.Maps Go.ChangeMaps Go.MapKept Sh

theorem sec_size : (Try.prog.info? 54).map (·.size) = some 64 := by kernel_rfl
/-- What was written last. -/
def isS (S : Nat → List Nat) (M : Nat → Option (List Nat)) (j : Nat) : List Nat := (M j).getD (S j)
section
variable {w w' : World} {g bs bm k n : Nat} {S : Nat → List Nat} {M : Nat → Option (List Nat)}
theorem DK.is_sec (h : DK w g bs bm k n S M) (j : Nat) : Sec (isS S M j) := by
  unfold isS
  cases hc : M j with
  | none => exact h.sS j
  | some l => exact (h.mS j l hc).1
theorem mi_out (h : DK w g bs bm k n S M) {x : Int} (hx : ¬ (0 ≤ x ∧ x < (k : Int))) : mi M x = none := by
  unfold mi
  split
  · rfl
  · cases hc : M x.toNat with
    | none => rfl
    | some l => have := (h.mS _ _ hc).2; omega
set_option maxRecDepth 100000 in
set_option maxHeartbeats 1000000 in
theorem dRead_t (j : Nat) (hj : j < k) (h : DK w g bs bm k n S M) : Calls Try.prog 12 #[.pointer (some ⟨g, 0, none⟩), .int .i64 (j : Int)] w fun e w' => e = .returned (.tuple #[.slice (some ⟨w.heap.size, 0, none⟩) 64 64, .int .i64 0]) ∧ Blk w' w.heap.size 54 (u8s (isS S M j)) ∧ Below w.heap.size w w' := by
  have HA := Lib.hid (dhas_t (j : Int) h)
  have c0 := h.c0; have c1 := h.c1
  have jk : (j : Int) < (k : Int) := by omega
  have k1 : (k : Int) ≤ 4096 := by have := h.kk; omega
  have LK := h.m.look (x := (j : Int)) ⟨by omega, by have := h.kk; omega⟩
  rw [mi_nat] at LK
  have HS := Lib.hid h.s; have HB := Lib.hid h.b
  have HI := Lib.hid (h.is_sec j)
  have Hj := Lib.hid (h.sS j)
  have hX : ((M j).getD zeroL).length = 64 := by
    cases hc : M j with
    | none => rfl
    | some l => exact (h.mS j l hc).1.1
  obtain ⟨X, hXe⟩ : ∃ x, (M j).getD zeroL = x := ⟨_, rfl⟩
  obtain ⟨B, hBe⟩ : ∃ x, (M j).isSome = x := ⟨_, rfl⟩
  rw [hXe] at LK hX
  rw [hBe] at LK
  simp only [secV] at LK
  have HX := Lib.hid hX; have HXE := Lib.hid hXe; have HBE := Lib.hid hBe
  have SX := Lib.hid (show (u8s X).toArray.size = 64 by rw [List.size_toArray, u8s_length, hX])
  have F1 := Lib.hid (u8s_one X)
  obtain ⟨C, hc1, _⟩ := flatS_cut S j k hj
  have HC := Lib.hid hc1
  have HFL := Lib.hid (flatS_length S (fun i => (h.sS i).1) j)
  clear h hX hXe hBe hc1
  go_enter Try.func12, Try.ntmps12
  go_upto_region 4 with (first
    | (go_at_call 21; refine HA.out.mono ?_; rintro e w' ⟨rfl, rfl⟩)
    | ((with_reducible refine at_op (.store 54 (.tmp 6) (.tmp 19)) rfl ?_); refine store_blk 54 (.tmp 6) (.tmp 19) _ 54 _ (u8s X) rfl rfl (Blk.new _ _ _) (by rw [u8s_length, HX.out]; rfl) (by rw [u8s_length, HX.out]; exact sec_size) F1.out rfl rfl ?_; rw [World.setRow_alloc_new]))
  have B1 := Lib.hid ((Below.refl w'.heap.size w').alloc (Nat.le_refl _) (.cells (u8s X).toArray 54))
  have SA := sliceAt_all (P := Try.prog) Try.underlying54 byte_size w'.heap.size 0
  cases B with
  | true =>
    have e : isS S M j = X := by
      unfold isS
      rw [← HXE.out]
      have hb := HBE.out
      cases hc : M j with
      | none => rw [hc] at hb; cases hb
      | some l => rfl
    have R1 := Lib.hid (show Blk (w'.alloc (.cells (u8s X).toArray 54)) w'.heap.size 54 (u8s (isS S M j)) from by rw [e]; exact Blk.new w' 54 (u8s X))
    clear HS HI e HB
    go_wp2_with fail
    go_ret2
    exact ⟨rfl, R1.out, B1.out⟩
  | false =>
    have e : isS S M j = S j := by
      unfold isS
      have hb := HBE.out
      cases hc : M j with
      | none => rfl
      | some l => rw [hc] at hb; cases hb
    have hs1 := HS.out.alloc (.cells (u8s X).toArray 54)
    rw [HC.out, u8s_app, u8s_app] at hs1
    have H1 := Lib.hid hs1
    have R1 := Lib.hid (show Blk (w'.alloc (.cells (u8s (S j)).toArray 54)) w'.heap.size 54 (u8s (isS S M j)) from by rw [e]; exact Blk.new w' 54 (u8s (S j)))
    have B2 := Lib.hid ((Below.refl w'.heap.size w').alloc (Nat.le_refl _) (.cells (u8s (S j)).toArray 54))
    have F2 := Lib.hid (u8s_one (S j))
    have c0' : (w'.alloc (.cells (u8s X).toArray 54)).cell? ⟨g, 0, none⟩ = some (.slice (some ⟨bs, 0, none⟩) k k) := by rw [(HB.out.alloc _).cell]; rfl
    clear hs1 HS HI e B1 c0 HB
    go_wp2_with (first
      | ((with_reducible refine at_op (.load 54 (.tmp 28)) rfl ?_); refine load_part 54 (.tmp 28) bs _ 54 (u8s (flatS S j)) (u8s (S j)) (u8s C) _ rfl rfl H1.out (by rw [u8s_length, HFL.out]) Try.underlying54 rfl (by rw [u8s_length, Hj.out.1]; exact sec_size) rfl ?_)
      | ((with_reducible refine at_op (.store 54 (.tmp 6) (.tmp 29)) rfl ?_); refine store_blk 54 (.tmp 6) (.tmp 29) _ 54 _ (u8s (S j)) rfl rfl (Blk.new _ _ _) (by rw [u8s_length, u8s_length, HX.out, Hj.out.1]) (by rw [u8s_length, Hj.out.1]; exact sec_size) F2.out rfl rfl ?_; rw [World.setRow_alloc_new]))
    go_ret2
    exact ⟨rfl, R1.out, B2.out⟩
end
end Go.Proofs.Ytgaiheaibejloaa
