/-
  THE REFERENCE OF CHAPTER 16: Sync.
-/
import Derived.Test.YtgaiheaibejloaaDkX
namespace Go.Proofs.Ytgaiheaibejloaa
open Go Go.RowKit Go.Maps Go.ChangeMaps Go.MapKept Sh

/-- The one up to i, the other from there on. -/
def syF {α : Type} (F G : Nat → α) (i j : Nat) : α := if j < i then F j else G j
theorem syF_zero {α : Type} (F G : Nat → α) : syF F G 0 = G := funext fun j => by unfold syF; rw [if_neg (Nat.not_lt_zero _)]
theorem syF_at {α : Type} (F G : Nat → α) (i : Nat) : syF F G i i = G i := by unfold syF; rw [if_neg (Nat.lt_irrefl _)]
theorem syF_succ {α : Type} (F G : Nat → α) (i : Nat) : upd (syF F G i) i (F i) = syF F G (i + 1) := by
  funext j
  by_cases e : j = i
  · subst e; rw [upd_same]; unfold syF; rw [if_pos (by omega)]
  · rw [upd_other _ _ e]
    unfold syF
    by_cases h : j < i
    · rw [if_pos h, if_pos (by omega)]
    · rw [if_neg h, if_neg (by omega)]
section
variable {w w' : World} {rb rl k : Nat} {I W : Nat → List Nat} {D : Nat → Bool}
theorem RK.rangeI (h : RK w rb rl k I W D) {j : Nat} (hj : j < k) : w.rangeAt rl (j * 129) (u8s (I j)) := by
  obtain ⟨Z, hb, _⟩ := h.cutI hj
  have := range_of hb
  rwa [h.len] at this
theorem RK.rangeW (h : RK w rb rl k I W D) {j : Nat} (hj : j < k) : w.rangeAt rl (j * 129 + 64) (u8s (W j)) := by
  obtain ⟨Z, hb, _⟩ := h.cutW hj
  have := range_of hb
  rwa [List.length_append, h.len, u8s_length, (h.iS j).1] at this
theorem RK.congr {I' W' : Nat → List Nat} {D' : Nat → Bool} (h : RK w rb rl k I W D) (hI : ∀ j, j < k → I j = I' j) (hW : ∀ j, j < k → W j = W' j) (hD : ∀ j, j < k → D j = D' j) (sI : ∀ j, Sec (I' j)) (sW : ∀ j, Sec (W' j)) : RK w rb rl k I' W' D' :=
  ⟨h.b, by
    have e : flatV (secC I' W' D') k = flatV (secC I W D) k := flatV_congr k (fun j hj => by unfold secC; rw [hI j hj, hW j hj, hD j hj])
    rw [e]; exact h.r, sI, sW, h.kk⟩
theorem upd_sec {F : Nat → List Nat} (h : ∀ j, Sec (F j)) {j : Nat} {x : List Nat} (hx : Sec x) : ∀ i, Sec (upd F j x i) := fun i => by
  by_cases e : i = j
  · subst e; rw [upd_same]; exact hx
  · rw [upd_other _ _ e]; exact h i
set_option maxRecDepth 100000 in
set_option maxHeartbeats 2000000 in
theorem rSync_t (h : RK w rb rl k I W D) : Calls Try.prog 16 #[.pointer (some ⟨rb, 0, none⟩)] w fun e w' => e = .returned (.tuple #[]) ∧ RK w' rb rl k I I (fun _ => false) ∧ Kept (fun b => b = rl) w w' := by
  have H0 := Lib.hid h
  have jk := h.kk
  have k1 : (k : Int) ≤ 4096 := by omega
  clear h
  go_enter Try.func16, Try.ntmps16
  go_wp2_with fail
  go_loopw [2] (fun s2 wr => ∃ i : Nat, i ≤ k ∧ s2 = .int .i64 (i : Int) ∧ RK wr rb rl k I (syF I W i) (syF (fun _ => false) D i) ∧ Kept (fun b => b = rl) w wr) (fun s _ => k - (intOf s).toNat)
  case atStart => exact ⟨0, Nat.zero_le _, rfl, by rw [syF_zero, syF_zero]; exact H0.out, Kept.refl _ _⟩
  case round =>
    obtain ⟨i, hi, rfl, hr, hk⟩ := hrel
    have H1 := Lib.hid hr; have K1 := Lib.hid hk
    clear hr hk
    have c0 := H1.out.c0
    by_cases hlt : i < k
    · have i1 : (i : Int) < (k : Int) := by omega
      go_upto_region 3 with (fail)
      obtain ⟨V, hV⟩ : ∃ V, wr.drew = V := ⟨_, rfl⟩
      have D3 := Lib.hid (show RK V rb rl k I (syF I W i) (syF (fun _ => false) D i) by rw [← hV]; exact H1.out.drew)
      have K3 := Lib.hid (show Kept (fun b => b = rl) w V by rw [← hV]; exact K1.out.drew)
      have s0 : V.cell? ⟨rb, 0, none⟩ = some (.slice (some ⟨rl, 0, none⟩) k k) ∧ V.rangeAt rl (i * 129) (u8s (I i)) := ⟨D3.out.c0, D3.out.rangeI hlt⟩
      have LI := Lib.hid (H0.out.iS i)
      clear H1 K1 c0
      refine wp_region_held (S := fun Y => Y.cell? ⟨rb, 0, none⟩ = some (.slice (some ⟨rl, 0, none⟩) k k) ∧ Y.rangeAt rl (i * 129) (u8s (I i))) (by kernel_rfl) ?_
      change wpAnyH _ _ _ _ _ _ _ _ wr.drew
      rw [hV]
      clear hV
      refine wpAnyH_take (i := 0) (v := ?_) rfl (by kernel_rfl) (by kernel_rfl) (by kernel_rfl) (fun _ _ _ h => h) (Or.inl ⟨by kernel_rfl, ?_⟩) s0 ?_
      rotate_left 1
      · (intro w hS; clear hS; go_simp; try (with_reducible rfl))
      refine wpAnyH_take (i := 1) (v := ?_) rfl (by kernel_rfl) (by kernel_rfl) (by kernel_rfl) (fun _ _ _ h => h) (Or.inl ⟨by kernel_rfl, ?_⟩) s0 ?_
      rotate_left 1
      · (intro w hS; clear hS; go_simp; try (with_reducible rfl))
      refine wpAnyH_take (i := 2) (v := ?_) rfl (by kernel_rfl) (by kernel_rfl) (by kernel_rfl) (fun _ _ _ h => h) (Or.inl ⟨by kernel_rfl, ?_⟩) s0 ?_
      rotate_left 1
      · (intro w hS; clear hS; go_simp; try (with_reducible rfl))
      refine wpAnyH_take (i := 3) (v := ?_) rfl (by kernel_rfl) (by kernel_rfl) (by kernel_rfl) (fun _ _ _ h => h) (Or.inl ⟨by kernel_rfl, ?_⟩) s0 ?_
      rotate_left 1
      · (intro w hS; have hs := hS.1; clear hS; go_simp; try (with_reducible rfl))
      refine wpAnyH_take (i := 4) (v := ?_) rfl (by kernel_rfl) (by kernel_rfl) (by kernel_rfl) (fun _ _ _ h => h) (Or.inl ⟨by kernel_rfl, ?_⟩) s0 ?_
      rotate_left 1
      · (intro w hS; clear hS; go_simp; try (with_reducible rfl))
      refine wpAnyH_take (i := 5) (v := ?_) rfl (by kernel_rfl) (by kernel_rfl) (by kernel_rfl) (fun _ _ _ h => h) (Or.inl ⟨by kernel_rfl, ?_⟩) s0 ?_
      rotate_left 1
      · (intro w hS; clear hS; go_simp; try (with_reducible rfl))
      refine wpAnyH_take (i := 6) (v := ?_) rfl (by kernel_rfl) (by kernel_rfl) (by kernel_rfl) (fun _ _ _ h => h) (Or.inl ⟨by kernel_rfl, ?_⟩) s0 ?_
      rotate_left 1
      · (intro w hS; clear hS; go_simp; try (with_reducible rfl))
      refine wpAnyH_take (i := 7) (v := ?_) rfl (by kernel_rfl) (by kernel_rfl) (by kernel_rfl) (fun _ _ _ h => h) (Or.inl ⟨by kernel_rfl, ?_⟩) s0 ?_
      rotate_left 1
      · (intro w hS; clear hS; go_simp; try (with_reducible rfl))
      refine wpAnyH_take (i := 8) (v := ?_) rfl (by kernel_rfl) (by kernel_rfl) (by kernel_rfl) (fun _ _ _ h => h) (Or.inl ⟨by kernel_rfl, ?_⟩) s0 ?_
      rotate_left 1
      · (intro w hS; have hs := hS.1; clear hS; go_simp; try (with_reducible rfl))
      refine wpAnyH_take (i := 9) (v := ?_) rfl (by kernel_rfl) (by kernel_rfl) (by kernel_rfl) (fun _ _ _ h => h) (Or.inl ⟨by kernel_rfl, ?_⟩) s0 ?_
      rotate_left 1
      · (intro w hS; clear hS; go_simp; try (with_reducible rfl))
      refine wpAnyH_take (i := 10) (v := ?_) rfl (by kernel_rfl) (by kernel_rfl) (by kernel_rfl) (fun _ _ _ h => h) (Or.inl ⟨by kernel_rfl, ?_⟩) s0 ?_
      rotate_left 1
      · (intro w hS; clear hS; go_simp; try (with_reducible rfl))
      refine wpAnyH_take (i := 11) (v := ?_) rfl (by kernel_rfl) (by kernel_rfl) (by kernel_rfl) (fun _ _ _ h => h) (Or.inl ⟨by kernel_rfl, ?_⟩) s0 ?_
      rotate_left 1
      · (intro w hS; clear hS; go_simp; try (with_reducible rfl))
      refine wpAnyH_take (i := 12) (v := ?_) rfl (by kernel_rfl) (by kernel_rfl) (by kernel_rfl) (fun _ _ _ h => h) (Or.inl ⟨by kernel_rfl, ?_⟩) s0 ?_
      rotate_left 1
      · (intro w hS; clear hS; go_simp; try (with_reducible rfl))
      refine wpAnyH_take (i := 13) (v := ?_) rfl (by kernel_rfl) (by kernel_rfl) (by kernel_rfl) (fun _ _ _ h => h) (Or.inl ⟨by kernel_rfl, ?_⟩) s0 ?_
      rotate_left 1
      · (intro w hS; have hs := hS.1; clear hS; go_simp; try (with_reducible rfl))
      refine wpAnyH_take (i := 14) (v := ?_) rfl (by kernel_rfl) (by kernel_rfl) (by kernel_rfl) (fun _ _ _ h => h) (Or.inl ⟨by kernel_rfl, ?_⟩) s0 ?_
      rotate_left 1
      · (intro w hS; clear hS; go_simp; try (with_reducible rfl))
      refine wpAnyH_take (i := 15) (v := ?_) rfl (by kernel_rfl) (by kernel_rfl) (by kernel_rfl) (fun _ _ _ h => h) (Or.inl ⟨by kernel_rfl, ?_⟩) s0 ?_
      rotate_left 1
      · (intro w hS; clear hS; go_simp; try (with_reducible rfl))
      refine wpAnyH_take (i := 16) (v := ?_) rfl (by kernel_rfl) (by kernel_rfl) (by kernel_rfl) (fun _ _ _ h => h) (Or.inl ⟨by kernel_rfl, ?_⟩) s0 ?_
      rotate_left 1
      · (intro w hS; clear hS; go_simp; try (with_reducible rfl))
      go_simp
      refine wpAnyH_take (i := 17) (v := .agg (u8s (I i)).toArray) rfl (by kernel_rfl) (by kernel_rfl) (by kernel_rfl) (fun _ _ _ h => h) (yieldsIf_load_mid (by kernel_rfl) 53 (.tmp 28) rfl rl (i * 129) (by go_simp) (u8s (I i)) _ (fun _ h => h.2) Try.underlying53 rfl (by rw [u8s_length, LI.out.1]; exact arr_size)) s0 ?_
      refine wpAnyH_take (i := 18) (v := ?_) rfl (by kernel_rfl) (by kernel_rfl) (by kernel_rfl) (fun _ _ _ h => h) (Or.inl ⟨by kernel_rfl, ?_⟩) s0 ?_
      rotate_left 1
      · (intro w hS; clear hS; go_simp; try (with_reducible rfl))
      refine wpAnyH_take (i := 19) (v := ?_) rfl (by kernel_rfl) (by kernel_rfl) (by kernel_rfl) (fun _ _ _ h => h) (Or.inl ⟨by kernel_rfl, ?_⟩) s0 ?_
      rotate_left 1
      · (intro w hS; clear hS; go_simp; try (with_reducible rfl))
      obtain ⟨Z, hb4, hrow⟩ := D3.out.cutW hlt
      have HB4 := Lib.hid hb4; have HRW := Lib.hid (hrow (I i))
      have L0 := Lib.hid (show i * 129 + 64 = (flatV (secC I (syF I W i) (syF (fun _ => false) D i)) i ++ u8s (I i)).length by rw [List.length_append, D3.out.len, u8s_length, LI.out.1])
      have L5 := Lib.hid (show (u8s (syF I W i i)).length = (u8s (I i)).length by rw [u8s_length, u8s_length, (D3.out.wS i).1, LI.out.1])
      have U9 := Lib.hid (u8s_one (I i))
      clear hb4 hrow
      go_simp
      refine wpAnyH_ready (rs := [20]) (by kernel_rfl) (by simp) ?_
      refine AllReadyH.cons rfl (fun K hK => ?_) AllReadyH.nil
      rw [if_pos (by kernel_rfl)]
      refine wstore_part 53 (.tmp 31) (.tmp 29) rl (i * 129 + 64) 65 (flatV (secC I (syF I W i) (syF (fun _ => false) D i)) i ++ u8s (I i)) (u8s (syF I W i i)) Z (u8s (I i)) rfl HB4.out L0.out L5.out (by rw [u8s_length, LI.out.1]; exact arr_size) U9.out (by go_simp) (by go_simp) ?_
      intro w3 hb3 hbt3 hs3
      rw [← HRW.out, syF_succ] at hb3
      have D4 := Lib.hid (show RK w3 rb rl k I (syF I W (i + 1)) (syF (fun _ => false) D i) from ⟨D3.out.b.but hbt3.out D3.out.b.lt (fun e => D3.out.ne e.symm), hb3.out, D3.out.iS, fun j => by
        rw [← syF_succ]; exact upd_sec D3.out.wS LI.out j, D3.out.kk⟩)
      have K4 := Lib.hid (show Kept (fun b => b = rl) w w3 from K3.out.trans ⟨hbt3.out.os, hbt3.out.tape, hbt3.out.output, hbt3.out.size, fun i hi hf => hbt3.out.block i hi hf⟩)
      have s1 : w3.cell? ⟨rb, 0, none⟩ = some (.slice (some ⟨rl, 0, none⟩) k k) ∧ w3.rangeAt rl (i * 129) (u8s (I i)) := ⟨D4.out.c0, D4.out.rangeI hlt⟩
      clear HB4 HRW L0 L5 U9 hb3 hbt3 hs3 D3 K3 s0
      refine hK.out _ _ s1 (fun _ => ?_)
      clear hK K
      go_simp
      refine wpAnyH_take (i := 21) (v := ?_) rfl (by kernel_rfl) (by kernel_rfl) (by kernel_rfl) (fun _ _ _ h => h) (Or.inl ⟨by kernel_rfl, ?_⟩) s1 ?_
      rotate_left 1
      · (intro w hS; clear hS; go_simp; try (with_reducible rfl))
      refine wpAnyH_take (i := 22) (v := ?_) rfl (by kernel_rfl) (by kernel_rfl) (by kernel_rfl) (fun _ _ _ h => h) (Or.inl ⟨by kernel_rfl, ?_⟩) s1 ?_
      rotate_left 1
      · (intro w hS; clear hS; go_simp; try (with_reducible rfl))
      have cd := D4.out.dirty hlt
      have fd := D4.out.r.frozen (i * 129 + 128)
      have d5 := D4.out.setD hlt false
      have he : upd (syF (fun _ => false) D i) i false = syF (fun _ => false) D (i + 1) := syF_succ (fun _ => false) D i
      rw [he] at d5
      have D5 := Lib.hid d5
      have K5 := Lib.hid (K4.out.setCell (p := ⟨rl, i * 129 + 128, none⟩) (.inl rfl) (.bool false))
      have s2 : (w3.setCell ⟨rl, i * 129 + 128, none⟩ (.bool false)).cell? ⟨rb, 0, none⟩ = some (.slice (some ⟨rl, 0, none⟩) k k) ∧ (w3.setCell ⟨rl, i * 129 + 128, none⟩ (.bool false)).rangeAt rl (i * 129) (u8s (I i)) := ⟨D5.out.c0, D5.out.rangeI hlt⟩
      clear D4 K4 s1 d5 he
      go_simp
      refine wpAnyH_ready (rs := [23]) (by kernel_rfl) (by simp) ?_
      refine AllReadyH.cons rfl (fun K hK => ?_) AllReadyH.nil
      rw [if_pos (by kernel_rfl)]
      go_simp
      refine hK.out _ _ s2 (fun _ => ?_)
      clear hK K s2 cd fd
      refine wpAnyH_done (by kernel_rfl) ?_ _
      go_simp
      go_wp2_with fail
      go_roundw
      case rel => exact ⟨i + 1, hlt, by go_num, D5.out, K5.out⟩
      case measure => simp [intOf]; omega
    · obtain rfl : i = k := by omega
      have D5 := Lib.hid (H1.out.congr (I' := I) (W' := I) (D' := fun _ => false) (fun _ _ => rfl) (fun j hj => by unfold syF; rw [if_pos hj]) (fun j hj => by unfold syF; rw [if_pos hj]) H1.out.iS H1.out.iS)
      clear hlt
      go_wp2_with fail
      go_end0
      exact ⟨rfl, D5.out, K1.out⟩
end
end Go.Proofs.Ytgaiheaibejloaa
