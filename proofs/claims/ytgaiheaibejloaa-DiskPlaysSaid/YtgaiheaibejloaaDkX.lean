/-
  THE REFERENCE OF CHAPTER 16: Write.
-/
import Derived.Test.YtgaiheaibejloaaDkR
namespace Go.Proofs.Ytgaiheaibejloaa
open Go Go.RowKit Go.Maps Go.ChangeMaps Go.MapKept Sh

section
variable {w w' : World} {rb rl k : Nat} {I W : Nat → List Nat} {D : Nat → Bool}
theorem arr_size : (Try.prog.info? 53).map (·.size) = some 64 := by kernel_rfl
theorem rWrite_none (x : Int) (V : Value) (hx : ¬ (0 ≤ x ∧ x < (k : Int))) (h : RK w rb rl k I W D) : Calls Try.prog 15 #[.pointer (some ⟨rb, 0, none⟩), .int .i64 x, V] w fun e w' => e = .returned (.int .i64 6) ∧ w' = w := by
  have c0 := h.c0
  by_cases h0 : x < 0
  · clear h hx
    go_enter Try.func15, Try.ntmps15
    go_wp2
    go_ret
    exact ⟨rfl, rfl⟩
  · have h1 : (k : Int) ≤ x := by omega
    clear h hx
    go_enter Try.func15, Try.ntmps15
    go_wp2
    go_ret
    exact ⟨rfl, rfl⟩
theorem rWrite_long (x : Int) (A : Option Addr) (q c : Nat) (hx : 0 ≤ x ∧ x < (k : Int)) (hq : 64 < q) (hm : q ≤ maxLen) (h : RK w rb rl k I W D) : Calls Try.prog 15 #[.pointer (some ⟨rb, 0, none⟩), .int .i64 x, .slice A q c] w fun e w' => e = .returned (.int .i64 1) ∧ w' = w := by
  have c0 := h.c0
  obtain ⟨x0, x1⟩ := hx
  have x2 : ¬ (k : Int) ≤ x := by omega
  have x3 : ¬ x < 0 := by omega
  have q1 : (64 : Int) < (q : Int) := by omega
  have q2 : (q : Int) ≤ 9223372036854775807 := by unfold maxLen at hm; omega
  clear h hm hq
  go_enter Try.func15, Try.ntmps15
  go_wp2
  go_ret
  exact ⟨rfl, rfl⟩
set_option maxRecDepth 100000 in
set_option maxHeartbeats 2000000 in
theorem rWrite_ok (j : Nat) (A : Option Addr) (q c : Nat) (xs : List Nat) (hj : j < k) (hq : q ≤ 64) (hx : xs.length = q) (hs : Sr w A xs) (hb : Bytes xs) (h : RK w rb rl k I W D) : Calls Try.prog 15 #[.pointer (some ⟨rb, 0, none⟩), .int .i64 (j : Int), .slice A q c] w fun e w' => e = .returned (.int .i64 0) ∧ RK w' rb rl k (upd I j (pad xs)) W (upd D j true) ∧ Kept (fun b => b = rl) w w' := by
  have q1 : (q : Int) ≤ 64 := by omega
  have SA := sliceAt_all (P := Try.prog) Try.underlying53 byte_size w.heap.size 0
  have Y0 := Lib.hid (Blk.new w 53 (u8s zeroL)); have B0 := Lib.hid ((Below.refl w.heap.size w).alloc (Nat.le_refl _) (.cells (u8s zeroL).toArray 53))
  have HD := Lib.hid h; have HX := Lib.hid hx; have HSR := Lib.hid hs; have HBX := Lib.hid hb; have HJ := Lib.hid hj; have HQ := Lib.hid hq
  have jk := h.kk
  have c0 := h.c0
  have j1 : (j : Int) < (k : Int) := by omega
  have j2 : ¬ (k : Int) ≤ (j : Int) := by omega
  obtain ⟨P, hP⟩ : ∃ z, pad xs = z := ⟨_, rfl⟩
  rw [hP]
  have HP := Lib.hid hP
  clear h hs hb hx hj hq hP
  go_enter Try.func15, Try.ntmps15
  go_upto_region 6 with (fail)
  change Code.wp _ _ _ _ (w.alloc (.cells (u8s zeroL).toArray 53))
  obtain ⟨U, hU⟩ : ∃ x, w.alloc (.cells (u8s zeroL).toArray 53) = x := ⟨_, rfl⟩
  rw [hU] at Y0 B0 ⊢
  clear hU c0
  have hz := zero_row HQ.out
  rw [hz] at Y0
  have D1 := Lib.hid (HD.out.below B0.out)
  have L1 := Lib.hid (show (u8s xs).length = q by rw [u8s_length, HX.out])
  have L2 := Lib.hid (rep_len HX.out)
  have L3 := Lib.hid (min_len HX.out HQ.out)
  have CP := Lib.hid (cp_from (gx := w.heap.size) (HSR.out.below B0.out))
  have U8 := Lib.hid (u8s_each xs)
  clear hz
  go_upto_region 7 with (refine copy_part (.tmp 22) (.tmp 23) 26 26 5 w.heap.size 0 64 64 q c q _ A 53 [] (u8s (List.replicate q 0)) (u8s (List.replicate (64 - q) 0)) (u8s xs) rfl rfl Try.underlying26 byte_size Y0.out rfl L2.out L3.out rfl rfl CP.out U8.out L1.out ?_; intro w2 hb2 hbt2 hs2)
  rw [pad_row HX.out] at hb2
  have PL := Lib.hid (pad_length (l := xs) (by rw [HX.out]; exact HQ.out))
  have PB := Lib.hid (show Bytes (pad xs) from app_bytes HBX.out (rep_bytes (by decide) _))
  have lt1 := HD.out.b.lt; have lt2 := HD.out.r.lt
  rw [HP.out] at hb2 PL PB
  have B2 := Lib.hid (B0.out.trans (hbt2.out.below (Nat.le_refl _) B0.out.size))
  obtain ⟨V, hV⟩ : ∃ V, w2.drew = V := ⟨_, rfl⟩
  have D3 := Lib.hid (show RK V rb rl k I W D by rw [← hV]; exact (HD.out.below B2.out).drew)
  have B3 := Lib.hid (show Below w.heap.size w V by rw [← hV]; exact B2.out.drew)
  have P3 := Lib.hid (show Blk V w.heap.size 53 (u8s P) by rw [← hV]; exact hb2.out.drew)
  have s0 : V.cell? ⟨rb, 0, none⟩ = some (.slice (some ⟨rl, 0, none⟩) k k) ∧ Blk V w.heap.size 53 (u8s P) := ⟨D3.out.c0, P3.out⟩
  clear Y0 B0 D1 L1 L2 L3 CP U8 hb2 hbt2 hs2 B2 SA
  go_simp
  refine wp_region_held (S := fun Y => Y.cell? ⟨rb, 0, none⟩ = some (.slice (some ⟨rl, 0, none⟩) k k) ∧ Blk Y w.heap.size 53 (u8s P)) (by kernel_rfl) ?_
  change wpAnyH _ _ _ _ _ _ _ _ w2.drew
  rw [hV]
  clear hV
  refine wpAnyH_take (i := 0) (v := ?_) rfl (by kernel_rfl) (by kernel_rfl) (by kernel_rfl) (fun _ _ _ h => h) (Or.inl ⟨by kernel_rfl, ?_⟩) s0 ?_
  rotate_left 1
  · (intro w hS; clear hS; go_simp; try (with_reducible rfl))
  refine wpAnyH_take (i := 1) (v := ?_) rfl (by kernel_rfl) (by kernel_rfl) (by kernel_rfl) (fun _ _ _ h => h) (Or.inl ⟨by kernel_rfl, ?_⟩) s0 ?_
  rotate_left 1
  · (intro w hS; clear hS; go_simp; try (with_reducible rfl))
  refine wpAnyH_take (i := 2) (v := ?_) rfl (by kernel_rfl) (by kernel_rfl) (by kernel_rfl) (fun _ _ _ h => h) (Or.inl ⟨by kernel_rfl, ?_⟩) s0 ?_
  rotate_left 1
  · (intro w hS; clear hS; go_simp; try (with_reducible rfl))
  refine wpAnyH_take (i := 3) (v := ?_) rfl (by kernel_rfl) (by kernel_rfl) (by kernel_rfl) (fun _ _ _ h => h) (Or.inl ⟨by kernel_rfl, ?_⟩) s0 ?_
  rotate_left 1
  · (intro w hS; have hs := hS.1; clear hS; go_simp; try (with_reducible rfl))
  refine wpAnyH_take (i := 4) (v := ?_) rfl (by kernel_rfl) (by kernel_rfl) (by kernel_rfl) (fun _ _ _ h => h) (Or.inl ⟨by kernel_rfl, ?_⟩) s0 ?_
  rotate_left 1
  · (intro w hS; clear hS; go_simp; try (with_reducible rfl))
  refine wpAnyH_take (i := 5) (v := ?_) rfl (by kernel_rfl) (by kernel_rfl) (by kernel_rfl) (fun _ _ _ h => h) (Or.inl ⟨by kernel_rfl, ?_⟩) s0 ?_
  rotate_left 1
  · (intro w hS; clear hS; go_simp; try (with_reducible rfl))
  refine wpAnyH_take (i := 6) (v := ?_) rfl (by kernel_rfl) (by kernel_rfl) (by kernel_rfl) (fun _ _ _ h => h) (Or.inl ⟨by kernel_rfl, ?_⟩) s0 ?_
  rotate_left 1
  · (intro w hS; clear hS; go_simp; try (with_reducible rfl))
  refine wpAnyH_take (i := 7) (v := ?_) rfl (by kernel_rfl) (by kernel_rfl) (by kernel_rfl) (fun _ _ _ h => h) (Or.inl ⟨by kernel_rfl, ?_⟩) s0 ?_
  rotate_left 1
  · (intro w hS; clear hS; go_simp; try (with_reducible rfl))
  refine wpAnyH_take (i := 8) (v := ?_) rfl (by kernel_rfl) (by kernel_rfl) (by kernel_rfl) (fun _ _ _ h => h) (Or.inl ⟨by kernel_rfl, ?_⟩) s0 ?_
  rotate_left 1
  · (intro w hS; have hs := hS.1; clear hS; go_simp; try (with_reducible rfl))
  refine wpAnyH_take (i := 9) (v := ?_) rfl (by kernel_rfl) (by kernel_rfl) (by kernel_rfl) (fun _ _ _ h => h) (Or.inl ⟨by kernel_rfl, ?_⟩) s0 ?_
  rotate_left 1
  · (intro w hS; clear hS; go_simp; try (with_reducible rfl))
  refine wpAnyH_take (i := 10) (v := .agg (u8s P).toArray) rfl (by kernel_rfl) (by kernel_rfl) (by kernel_rfl) (fun _ _ _ h => h) (yieldsIf_load_mid (by kernel_rfl) 53 (.tmp 7) rfl w.heap.size 0 (by go_simp) (u8s P) _ (fun _ h => h.2.row) Try.underlying53 rfl (by rw [u8s_length, PL.out]; exact arr_size)) s0 ?_
  refine wpAnyH_take (i := 11) (v := ?_) rfl (by kernel_rfl) (by kernel_rfl) (by kernel_rfl) (fun _ _ _ h => h) (Or.inl ⟨by kernel_rfl, ?_⟩) s0 ?_
  rotate_left 1
  · (intro w hS; clear hS; go_simp; try (with_reducible rfl))
  refine wpAnyH_take (i := 12) (v := ?_) rfl (by kernel_rfl) (by kernel_rfl) (by kernel_rfl) (fun _ _ _ h => h) (Or.inl ⟨by kernel_rfl, ?_⟩) s0 ?_
  rotate_left 1
  · (intro w hS; clear hS; go_simp; try (with_reducible rfl))
  obtain ⟨Z, hb4, hrow⟩ := D3.out.cutI HJ.out
  have HB4 := Lib.hid hb4; have HRW := Lib.hid (hrow P)
  have L0 := Lib.hid (show j * 129 = (flatV (secC I W D) j).length by rw [D3.out.len])
  have L5 := Lib.hid (show (u8s (I j)).length = (u8s P).length by rw [u8s_length, u8s_length, (D3.out.iS j).1, PL.out])
  have U9 := Lib.hid (u8s_one P)
  clear hb4 hrow
  go_simp
  refine wpAnyH_ready (rs := [13]) (by kernel_rfl) (by simp) ?_
  refine AllReadyH.cons rfl (fun K hK => ?_) AllReadyH.nil
  rw [if_pos (by kernel_rfl)]
  refine wstore_part 53 (.tmp 37) (.tmp 35) rl (j * 129) 65 (flatV (secC I W D) j) (u8s (I j)) Z (u8s P) rfl HB4.out L0.out L5.out (by rw [u8s_length, PL.out]; exact arr_size) U9.out (by go_simp) (by go_simp) ?_
  intro w3 hb3 hbt3 hs3
  rw [← HRW.out] at hb3
  have D4 := Lib.hid (show RK w3 rb rl k (upd I j P) W D from ⟨D3.out.b.but hbt3.out D3.out.b.lt (fun e => D3.out.ne e.symm), hb3.out, fun i => by
    by_cases e : i = j
    · subst e; rw [upd_same]; exact ⟨PL.out, PB.out⟩
    · rw [upd_other _ _ e]; exact D3.out.iS i, D3.out.wS, D3.out.kk⟩)
  have ge : rl < w.heap.size := lt2
  have P4 := Lib.hid (P3.out.but hbt3.out P3.out.lt (by omega))
  have K4 := Lib.hid (show Kept (fun b => b = rl) w w3 from (Kept.of_below B3.out).trans ⟨hbt3.out.os, hbt3.out.tape, hbt3.out.output, hbt3.out.size, fun i hi hf => hbt3.out.block i hi hf⟩)
  have s1 : w3.cell? ⟨rb, 0, none⟩ = some (.slice (some ⟨rl, 0, none⟩) k k) ∧ Blk w3 w.heap.size 53 (u8s P) := ⟨D4.out.c0, P4.out⟩
  clear HB4 HRW L0 L5 U9 hb3 hbt3 hs3 D3 P3 B3 s0
  refine hK.out _ _ s1 (fun _ => ?_)
  clear hK K
  go_simp
  refine wpAnyH_take (i := 14) (v := ?_) rfl (by kernel_rfl) (by kernel_rfl) (by kernel_rfl) (fun _ _ _ h => h) (Or.inl ⟨by kernel_rfl, ?_⟩) s1 ?_
  rotate_left 1
  · (intro w hS; clear hS; go_simp; try (with_reducible rfl))
  refine wpAnyH_take (i := 15) (v := ?_) rfl (by kernel_rfl) (by kernel_rfl) (by kernel_rfl) (fun _ _ _ h => h) (Or.inl ⟨by kernel_rfl, ?_⟩) s1 ?_
  rotate_left 1
  · (intro w hS; clear hS; go_simp; try (with_reducible rfl))
  have cd := D4.out.dirty HJ.out
  have fd := D4.out.r.frozen (j * 129 + 128)
  have D5 := Lib.hid (D4.out.setD HJ.out true)
  have K5 := Lib.hid (K4.out.setCell (p := ⟨rl, j * 129 + 128, none⟩) (.inl rfl) (.bool true))
  have s2 : (w3.setCell ⟨rl, j * 129 + 128, none⟩ (.bool true)).cell? ⟨rb, 0, none⟩ = some (.slice (some ⟨rl, 0, none⟩) k k) ∧ Blk (w3.setCell ⟨rl, j * 129 + 128, none⟩ (.bool true)) w.heap.size 53 (u8s P) := ⟨D5.out.c0, P4.out.far (p := ⟨rl, j * 129 + 128, none⟩) (by show w.heap.size ≠ rl; omega) _⟩
  clear D4 K4 P4 s1
  go_simp
  refine wpAnyH_ready (rs := [16]) (by kernel_rfl) (by simp) ?_
  refine AllReadyH.cons rfl (fun K hK => ?_) AllReadyH.nil
  rw [if_pos (by kernel_rfl)]
  go_simp
  refine hK.out _ _ s2 (fun _ => ?_)
  clear hK K
  refine wpAnyH_done (by kernel_rfl) ?_ _
  go_simp
  go_wp2_with fail
  go_ret
  exact ⟨rfl, D5.out, K5.out⟩
end
end Go.Proofs.Ytgaiheaibejloaa
