/-
  PACKAGE disk: Write; what Read and Write answer where there is no such sector.
-/
import Derived.Test.YtgaiheaibejloaaDkB
namespace Go.Proofs.Ytgaiheaibejloaa
open Go Go.RowKit Go.Maps Go.ChangeMaps Go.MapKept Sh

section
variable {w w' : World} {g bs bm k n : Nat} {S : Nat → List Nat} {M : Nat → Option (List Nat)}
theorem DK.drew (h : DK w g bs bm k n S M) : DK w.drew g bs bm k n S M := ⟨h.b, h.s, h.m.of_block rfl, h.sS, h.mS, h.kk⟩
theorem DK.but {x : Nat} (h : DK w g bs bm k n S M) (hb : But w.heap.size x w w') (h1 : g ≠ x) (h2 : bs ≠ x) (h3 : bm ≠ x) : DK w' g bs bm k n S M :=
  ⟨h.b.but hb h.b.lt h1, h.s.but hb h.s.lt h2, h.m.of_block (hb.block bm h.m.lt h3), h.sS, h.mS, h.kk⟩
theorem Blk.row {t : TypeId} {cs : List Value} (h : Blk w g t cs) : w.rangeAt g 0 cs := fun j v hv => by rw [Nat.zero_add, h.cell j]; exact hv
theorem dRead_no (x : Int) (hx : ¬ (0 ≤ x ∧ x < (k : Int))) (h : DK w g bs bm k n S M) : Calls Try.prog 12 #[.pointer (some ⟨g, 0, none⟩), .int .i64 x] w fun e w' => e = .returned (.tuple #[.slice none 0 0, .int .i64 6]) ∧ w' = w := by
  have HA := Lib.hid (dhas_t x h)
  rw [decide_eq_false hx] at HA
  clear h hx
  go_enter Try.func12, Try.ntmps12
  go_wp2_with ((go_at_call 21; refine HA.out.mono ?_; rintro e w' ⟨rfl, rfl⟩))
  go_ret2
  exact ⟨rfl, rfl⟩
theorem dRead_nil (w : World) : Calls Try.prog 12 #[.pointer none, .int .i64 0] w fun e w' => e = .returned (.tuple #[.slice none 0 0, .int .i64 6]) ∧ w' = w := by
  have HA := Lib.hid (dhas_nil w)
  go_enter Try.func12, Try.ntmps12
  go_wp2_with ((go_at_call 21; refine HA.out.mono ?_; rintro e w' ⟨rfl, rfl⟩))
  go_ret2
  exact ⟨rfl, rfl⟩
theorem dWrite_none (x : Int) (V : Value) (hx : ¬ (0 ≤ x ∧ x < (k : Int))) (h : DK w g bs bm k n S M) : Calls Try.prog 8 #[.pointer (some ⟨g, 0, none⟩), .int .i64 x, V] w fun e w' => e = .returned (.int .i64 6) ∧ w' = w := by
  have HA := Lib.hid (dhas_t x h)
  rw [decide_eq_false hx] at HA
  clear h hx
  go_enter Try.func8, Try.ntmps8
  go_wp2_with ((go_at_call 21; refine HA.out.mono ?_; rintro e w' ⟨rfl, rfl⟩))
  go_ret
  exact ⟨rfl, rfl⟩
theorem dWrite_nil (V : Value) (w : World) : Calls Try.prog 8 #[.pointer none, .int .i64 0, V] w fun e w' => e = .returned (.int .i64 6) ∧ w' = w := by
  have HA := Lib.hid (dhas_nil w)
  go_enter Try.func8, Try.ntmps8
  go_wp2_with ((go_at_call 21; refine HA.out.mono ?_; rintro e w' ⟨rfl, rfl⟩))
  go_ret
  exact ⟨rfl, rfl⟩
theorem dWrite_long (x : Int) (A : Option Addr) (q c : Nat) (hx : 0 ≤ x ∧ x < (k : Int)) (hq : 64 < q) (hm : q ≤ maxLen) (h : DK w g bs bm k n S M) : Calls Try.prog 8 #[.pointer (some ⟨g, 0, none⟩), .int .i64 x, .slice A q c] w fun e w' => e = .returned (.int .i64 1) ∧ w' = w := by
  have HA := Lib.hid (dhas_t x h)
  rw [decide_eq_true hx] at HA
  have q1 : (64 : Int) < (q : Int) := by omega
  have q2 : (q : Int) ≤ 9223372036854775807 := by unfold maxLen at hm; omega
  clear h hx hm hq
  go_enter Try.func8, Try.ntmps8
  go_wp2_with ((go_at_call 21; refine HA.out.mono ?_; rintro e w' ⟨rfl, rfl⟩))
  go_ret
  exact ⟨rfl, rfl⟩
set_option maxRecDepth 100000 in
set_option maxHeartbeats 1000000 in
theorem dWrite_ok (j : Nat) (A : Option Addr) (q c : Nat) (xs : List Nat) (hj : j < k) (hq : q ≤ 64) (hx : xs.length = q) (hs : Sr w A xs) (hb : Bytes xs) (hn : n < 1000) (h : DK w g bs bm k n S M) : Calls Try.prog 8 #[.pointer (some ⟨g, 0, none⟩), .int .i64 (j : Int), .slice A q c] w fun e w' => e = .returned (.int .i64 0) ∧ DK w' g bs bm k (n + 1) S (upd M j (some (pad xs))) ∧ Kept (fun b => b = bm) w w' := by
  have HA := Lib.hid (dhas_t (j : Int) h)
  rw [decide_eq_true (⟨by omega, by omega⟩ : (0 : Int) ≤ (j : Int) ∧ (j : Int) < (k : Int))] at HA
  have q1 : (q : Int) ≤ 64 := by omega
  have SA := sliceAt_all (P := Try.prog) Try.underlying54 byte_size w.heap.size 0
  have Y0 := Lib.hid (Blk.new w 54 (u8s zeroL)); have B0 := Lib.hid ((Below.refl w.heap.size w).alloc (Nat.le_refl _) (.cells (u8s zeroL).toArray 54))
  have HD := Lib.hid h; have HX := Lib.hid hx; have HSR := Lib.hid hs; have HBX := Lib.hid hb; have HN := Lib.hid hn; have HJ := Lib.hid hj; have HQ := Lib.hid hq
  have jk := h.kk
  obtain ⟨P, hP⟩ : ∃ z, pad xs = z := ⟨_, rfl⟩
  rw [hP]
  have HP := Lib.hid hP
  clear h hs hb hx hn hj hq hP
  go_enter Try.func8, Try.ntmps8
  go_upto_region 6 with ((go_at_call 21; refine HA.out.mono ?_; rintro e w' ⟨rfl, rfl⟩))
  change Code.wp _ _ _ _ (w'.alloc (.cells (u8s zeroL).toArray 54))
  obtain ⟨W, hW⟩ : ∃ x, w'.alloc (.cells (u8s zeroL).toArray 54) = x := ⟨_, rfl⟩
  rw [hW] at Y0 B0 ⊢
  clear hW
  have hz : u8s zeroL = [] ++ (u8s (List.replicate q 0) ++ u8s (List.replicate (64 - q) 0)) := by
    rw [List.nil_append, ← u8s_app, List.replicate_append_replicate]
    show u8s (List.replicate 64 0) = _
    rw [show q + (64 - q) = 64 by have := HQ.out; omega]
  rw [hz] at Y0
  have D1 := Lib.hid (HD.out.below B0.out)
  have SR1 := Lib.hid (HSR.out.below B0.out)
  have L1 := Lib.hid (show (u8s xs).length = q by rw [u8s_length, HX.out])
  have L2 := Lib.hid (show (u8s (List.replicate q 0)).length = (u8s xs).length by rw [u8s_length, L1.out, List.length_replicate])
  have L3 := Lib.hid (show (u8s xs).length = Nat.min q 64 by rw [L1.out]; exact (Nat.min_eq_left HQ.out).symm)
  have CP := Lib.hid (show 0 < (u8s xs).length → (some ⟨w'.heap.size, 0, none⟩ : Option Addr) = some ⟨w'.heap.size, 0, none⟩ ∧ ∃ ad, A = some ad ∧ ∀ j v, (u8s xs)[j]? = some v → W.cell? (ad.add j) = some v from fun h0 => ⟨rfl, SR1.out.cells (by rw [L1.out] at h0; rw [HX.out]; exact h0)⟩)
  have U8 := Lib.hid (u8s_each xs)
  clear hz
  go_upto_region 7 with (refine copy_part (.tmp 15) (.tmp 16) 26 26 5 w'.heap.size 0 64 64 q c q _ A 54 [] (u8s (List.replicate q 0)) (u8s (List.replicate (64 - q) 0)) (u8s xs) rfl rfl Try.underlying26 byte_size Y0.out rfl L2.out L3.out rfl rfl CP.out U8.out L1.out ?_; intro w2 hb2 hbt2 hs2)
  have hp2 : [] ++ (u8s xs ++ u8s (List.replicate (64 - q) 0)) = u8s (pad xs) := by rw [List.nil_append, ← u8s_app]; unfold pad; rw [HX.out]
  rw [hp2] at hb2
  have PL := Lib.hid (pad_length (l := xs) (by rw [HX.out]; exact HQ.out))
  have PB := Lib.hid (show Bytes (pad xs) from app_bytes HBX.out (sl_bytes (fun x hx => by rw [List.eq_of_mem_replicate hx]; decide)))
  have lt1 := HD.out.b.lt; have lt2 := HD.out.s.lt; have lt3 := HD.out.m.lt
  have D2 := Lib.hid (D1.out.but hbt2.out (by omega) (by omega) (by omega))
  have B2 := Lib.hid (B0.out.trans (hbt2.out.below (Nat.le_refl _) B0.out.size))
  rw [HP.out] at hb2 PL PB
  obtain ⟨V, hV⟩ : ∃ V, w2.drew = V := ⟨_, rfl⟩
  have D3 := Lib.hid (show DK V g bs bm k n S M from by rw [← hV]; exact D2.out.drew)
  have B3 := Lib.hid (show Below w'.heap.size w' V from by rw [← hV]; exact B2.out.drew)
  have P3 := Lib.hid (show Blk V w'.heap.size 54 (u8s P) from by rw [← hV]; exact hb2.out.drew)
  obtain ⟨w3, hrun, hm3, ht3⟩ := D3.out.m.put (by have := HN.out; unfold maxLen; omega) j ⟨by omega, by have := HJ.out; omega⟩ P
  have HM3 := Lib.hid hm3; have HT3 := Lib.hid ht3
  have s0 : V.cell? ⟨g, 1, none⟩ = some (.map (some bm)) ∧ Blk V w'.heap.size 54 (u8s P) := ⟨D3.out.c1, P3.out⟩
  simp only [secV] at hrun
  clear Y0 B0 D1 SR1 L1 L2 L3 CP U8 hb2 hbt2 hs2 D2 B2 SA HA hm3 ht3 lt1 lt2 lt3
  go_simp
  refine wp_region_held (S := fun Y => Y.cell? ⟨g, 1, none⟩ = some (.map (some bm)) ∧ Blk Y w'.heap.size 54 (u8s P)) (by kernel_rfl) ?_
  change wpAnyH _ _ _ _ _ _ _ _ w2.drew
  rw [hV]
  clear hV
  refine wpAnyH_take (i := 0) (v := ?_) rfl (by kernel_rfl) (by kernel_rfl) (by kernel_rfl) (fun _ _ _ h => h) (Or.inl ⟨by kernel_rfl, ?_⟩) s0 ?_
  rotate_left 1
  · (intro w hS; clear hS; go_simp; try (with_reducible rfl))
  refine wpAnyH_take (i := 1) (v := ?_) rfl (by kernel_rfl) (by kernel_rfl) (by kernel_rfl) (fun _ _ _ h => h) (Or.inl ⟨by kernel_rfl, ?_⟩) s0 ?_
  rotate_left 1
  · (intro w hS; clear hS; go_simp; try (with_reducible rfl))
  refine wpAnyH_take (i := 2) (v := ?_) rfl (by kernel_rfl) (by kernel_rfl) (by kernel_rfl) (fun _ _ _ h => h) (Or.inl ⟨by kernel_rfl, ?_⟩) s0 ?_
  rotate_left 1
  · (intro w hS; clear hS; go_simp; try (with_reducible rfl))
  refine wpAnyH_take (i := 3) (v := ?_) rfl (by kernel_rfl) (by kernel_rfl) (by kernel_rfl) (fun _ _ _ h => h) (Or.inl ⟨by kernel_rfl, ?_⟩) s0 ?_
  rotate_left 1
  · (intro w hS; have hs := hS.1; clear hS; go_simp; try (with_reducible rfl))
  refine wpAnyH_take (i := 4) (v := ?_) rfl (by kernel_rfl) (by kernel_rfl) (by kernel_rfl) (fun _ _ _ h => h) (Or.inl ⟨by kernel_rfl, ?_⟩) s0 ?_
  rotate_left 1
  · (intro w hS; clear hS; go_simp; try (with_reducible rfl))
  refine wpAnyH_take (i := 5) (v := .agg (u8s P).toArray) rfl (by kernel_rfl) (by kernel_rfl) (by kernel_rfl) (fun _ _ _ h => h) (yieldsIf_load_mid (by kernel_rfl) 54 (.tmp 7) rfl w'.heap.size 0 (by go_simp) (u8s P) _ (fun _ h => h.2.row) Try.underlying54 rfl (by rw [u8s_length, PL.out]; exact sec_size)) s0 ?_
  refine wpAnyH_ready (rs := [6]) (by kernel_rfl) (by simp) ?_
  refine AllReadyH.cons rfl (fun K hK => ?_) AllReadyH.nil
  rw [if_pos (by kernel_rfl)]
  go_simp
  have bk3 := D3.out.b.turned HT3.out (fun e => D3.out.m.apart D3.out.b e.symm)
  have D4 := Lib.hid (show DK w3 g bs bm k (n + 1) S (upd M j (some P)) from
    ⟨bk3, D3.out.s.turned HT3.out (fun e => D3.out.m.apart D3.out.s e.symm), HM3.out, D3.out.sS, fun i l hl => by
      by_cases e : i = j
      · subst e
        rw [upd_same] at hl
        cases hl
        exact ⟨⟨PL.out, PB.out⟩, HJ.out⟩
      · rw [upd_other _ _ e] at hl
        exact D3.out.mS i l hl, D3.out.kk⟩)
  have hlm := HD.out.m.lt
  have K4 := Lib.hid (show Kept (fun b => b = bm) w' w3 from (Kept.of_below B3.out).grown HT3.out.grown (fun j hj => by cases hj; exact .inl rfl))
  have C4 := Lib.hid (show w3.cell? ⟨g, 1, none⟩ = some (.map (some bm)) ∧ Blk w3 w'.heap.size 54 (u8s P) from ⟨D4.out.c1, P3.out.turned HT3.out (by omega)⟩)
  clear bk3 s0 hrun D3 B3 P3 HM3 HT3
  refine hK.out _ _ C4.out (fun _ => ?_)
  clear hK K
  refine wpAnyH_done (by kernel_rfl) ?_ _
  go_simp
  go_wp2_with fail
  go_ret
  exact ⟨rfl, D4.out, K4.out⟩
end
end Go.Proofs.Ytgaiheaibejloaa
