/-
  THE REFERENCE OF CHAPTER 16: a disk in memory; New.
-/
import Derived.Test.YtgaiheaibejloaaDkS
namespace Go.Proofs.Ytgaiheaibejloaa
open Go Go.RowKit Go.Maps Go.ChangeMaps Go.MapKept Sh

/-- Rows of cells, one behind the other. -/
def flatV (C : Nat → List Value) : Nat → List Value
  | 0 => []
  | k + 1 => flatV C k ++ C k
theorem flatV_length (C : Nat → List Value) (n : Nat) (h : ∀ i, (C i).length = n) : ∀ k, (flatV C k).length = k * n
  | 0 => by rw [Nat.zero_mul]; rfl
  | k + 1 => by show (flatV C k ++ C k).length = _; rw [List.length_append, flatV_length C n h k, h, Nat.succ_mul]
theorem flatV_congr {C C' : Nat → List Value} : ∀ k, (∀ i, i < k → C i = C' i) → flatV C k = flatV C' k
  | 0, _ => rfl
  | k + 1, h => by show flatV C k ++ C k = flatV C' k ++ C' k; rw [flatV_congr k (fun i hi => h i (by omega)), h k (Nat.lt_succ_self k)]
theorem flatV_cut (C : Nat → List Value) (j : Nat) : ∀ k, j < k → ∃ Z, flatV C k = flatV C j ++ (C j ++ Z) ∧ ∀ x, flatV (upd C j x) k = flatV C j ++ (x ++ Z)
  | 0, h => absurd h (Nat.not_lt_zero _)
  | k + 1, h => by
    rcases Nat.lt_or_ge j k with hj | hj
    · obtain ⟨Z, h1, h2⟩ := flatV_cut C j k hj
      refine ⟨Z ++ C k, ?_, fun x => ?_⟩
      · show flatV C k ++ C k = _
        rw [h1]; simp only [List.append_assoc]
      · show flatV (upd C j x) k ++ upd C j x k = _
        rw [h2 x, upd_other _ _ (by omega)]; simp only [List.append_assoc]
    · obtain rfl : j = k := by omega
      refine ⟨[], ?_, fun x => ?_⟩
      · show flatV C j ++ C j = _
        rw [List.append_nil]
      · show flatV (upd C j x) j ++ upd C j x j = _
        rw [upd_same, List.append_nil, flatV_congr (C := upd C j x) (C' := C) j (fun i hi => upd_other _ _ (by omega))]
theorem flatV_same (z : List Value) (n : Nat) (hn : z.length = n) (h0 : 0 < n) : ∀ k i, i < k * n → (flatV (fun _ => z) k)[i]? = z[i % n]?
  | 0, i, h => by omega
  | k + 1, i, h => by
    show (flatV (fun _ => z) k ++ z)[i]? = _
    have hl := flatV_length (fun _ => z) n (fun _ => hn) k
    rcases Nat.lt_or_ge i (k * n) with hi | hi
    · rw [List.getElem?_append_left (by omega)]
      exact flatV_same z n hn h0 k i hi
    · rw [List.getElem?_append_right (by omega), hl]
      have : i - k * n = i % n := by
        rw [Nat.succ_mul] at h
        have h2 : i = (i - k * n) + k * n := by omega
        rw [h2, Nat.add_mul_mod_self_right, Nat.add_sub_cancel, Nat.mod_eq_of_lt (by omega)]
      rw [this]
theorem made_flat (z : List Value) (n : Nat) (hn : z.length = n) (h0 : 0 < n) (k : Nat) : madeCells z.toArray (k * n) = (flatV (fun _ => z) k).toArray := by
  apply Array.ext
  · simp [madeCells, flatV_length (fun _ => z) n (fun _ => hn) k]
  · intro i h1 h2
    have hi : i < k * n := by simpa [madeCells] using h1
    have hm : i % n < z.length := by rw [hn]; exact Nat.mod_lt _ h0
    have hf := flatV_same z n hn h0 k i hi
    have hl : i < (flatV (fun _ => z) k).length := by rw [flatV_length (fun _ => z) n (fun _ => hn) k]; exact hi
    rw [List.getElem?_eq_getElem hl, List.getElem?_eq_getElem hm] at hf
    have hf' := Option.some.inj hf
    simp [madeCells, hn, hf', List.getElem?_eq_getElem hm]
/-- A sector's cells: what was written, what is synced, is it dirty. -/
def secC (I W : Nat → List Nat) (D : Nat → Bool) (j : Nat) : List Value := u8s (I j) ++ (u8s (W j) ++ [.bool (D j)])
/-- The reference's disk. -/
structure RK (w : World) (rb rl k : Nat) (I W : Nat → List Nat) (D : Nat → Bool) : Prop where
  b : Blk w rb 63 [.slice (some ⟨rl, 0, none⟩) k k]
  r : Blk w rl 65 (flatV (secC I W D) k)
  iS : ∀ j, Sec (I j)
  wS : ∀ j, Sec (W j)
  kk : k ≤ 4096
section
variable {w w' : World} {rb rl k : Nat} {I W : Nat → List Nat} {D : Nat → Bool}
theorem RK.below (h : RK w rb rl k I W D) (hb : Below w.heap.size w w') : RK w' rb rl k I W D := ⟨h.b.below hb h.b.lt, h.r.below hb h.r.lt, h.iS, h.wS, h.kk⟩
theorem RK.kept {F : Nat → Prop} (h : RK w rb rl k I W D) (hb : Kept F w w') (h1 : ¬ F rb) (h2 : ¬ F rl) : RK w' rb rl k I W D := ⟨h.b.kept hb h1, h.r.kept hb h2, h.iS, h.wS, h.kk⟩
theorem RK.drew (h : RK w rb rl k I W D) : RK w.drew rb rl k I W D := ⟨h.b, h.r, h.iS, h.wS, h.kk⟩
theorem RK.c0 (h : RK w rb rl k I W D) : w.cell? ⟨rb, 0, none⟩ = some (.slice (some ⟨rl, 0, none⟩) k k) := by rw [h.b.cell]; rfl
theorem RK.ne (h : RK w rb rl k I W D) : rl ≠ rb := h.r.apart h.b (by decide)
theorem secC_length (hI : ∀ j, Sec (I j)) (hW : ∀ j, Sec (W j)) (j : Nat) : (secC I W D j).length = 129 := by
  unfold secC
  simp [u8s_length, (hI j).1, (hW j).1]
theorem RK.len (h : RK w rb rl k I W D) (j : Nat) : (flatV (secC I W D) j).length = j * 129 := flatV_length _ 129 (secC_length h.iS h.wS) j
theorem secC_I (x : List Nat) (j : Nat) : secC (upd I j x) W D = upd (secC I W D) j (u8s x ++ (u8s (W j) ++ [.bool (D j)])) := by
  funext i
  by_cases e : i = j
  · subst e; rw [upd_same]; unfold secC; rw [upd_same]
  · rw [upd_other _ _ e]; unfold secC; rw [upd_other _ _ e]
theorem secC_W (x : List Nat) (j : Nat) : secC I (upd W j x) D = upd (secC I W D) j (u8s (I j) ++ (u8s x ++ [.bool (D j)])) := by
  funext i
  by_cases e : i = j
  · subst e; rw [upd_same]; unfold secC; rw [upd_same]
  · rw [upd_other _ _ e]; unfold secC; rw [upd_other _ _ e]
theorem secC_D (x : Bool) (j : Nat) : secC I W (upd D j x) = upd (secC I W D) j (u8s (I j) ++ (u8s (W j) ++ [.bool x])) := by
  funext i
  by_cases e : i = j
  · subst e; rw [upd_same]; unfold secC; rw [upd_same]
  · rw [upd_other _ _ e]; unfold secC; rw [upd_other _ _ e]
theorem RK.dirty (h : RK w rb rl k I W D) {j : Nat} (hj : j < k) : w.cell? ⟨rl, j * 129 + 128, none⟩ = some (.bool (D j)) := by
  obtain ⟨Z, h1, _⟩ := flatV_cut (secC I W D) j k hj
  rw [h.r.cell, h1, List.getElem?_append_right (by rw [h.len]; omega), h.len, show j * 129 + 128 - j * 129 = 128 by omega]
  unfold secC
  rw [List.append_assoc, List.getElem?_append_right (by rw [u8s_length, (h.iS j).1]; omega), u8s_length, (h.iS j).1, List.append_assoc, List.getElem?_append_right (by rw [u8s_length, (h.wS j).1]; omega), u8s_length, (h.wS j).1]
  rfl
/-- Where what was written lies. -/
theorem RK.cutI (h : RK w rb rl k I W D) {j : Nat} (hj : j < k) : ∃ Z, Blk w rl 65 (flatV (secC I W D) j ++ (u8s (I j) ++ Z)) ∧ ∀ x, flatV (secC (upd I j x) W D) k = flatV (secC I W D) j ++ (u8s x ++ Z) := by
  obtain ⟨Z, h1, h2⟩ := flatV_cut (secC I W D) j k hj
  refine ⟨(u8s (W j) ++ [.bool (D j)]) ++ Z, ?_, fun x => ?_⟩
  · have := h.r
    rw [h1] at this
    unfold secC at this
    simp only [List.append_assoc] at this ⊢
    exact this
  · rw [secC_I, h2]
    simp only [List.append_assoc]
/-- Where what is synced lies. -/
theorem RK.cutW (h : RK w rb rl k I W D) {j : Nat} (hj : j < k) : ∃ Z, Blk w rl 65 ((flatV (secC I W D) j ++ u8s (I j)) ++ (u8s (W j) ++ Z)) ∧ ∀ x, flatV (secC I (upd W j x) D) k = (flatV (secC I W D) j ++ u8s (I j)) ++ (u8s x ++ Z) := by
  obtain ⟨Z, h1, h2⟩ := flatV_cut (secC I W D) j k hj
  refine ⟨[.bool (D j)] ++ Z, ?_, fun x => ?_⟩
  · have := h.r
    rw [h1] at this
    unfold secC at this
    simp only [List.append_assoc] at this ⊢
    exact this
  · rw [secC_W, h2]
    simp only [List.append_assoc]
theorem RK.setD (h : RK w rb rl k I W D) {j : Nat} (hj : j < k) (x : Bool) : RK (w.setCell ⟨rl, j * 129 + 128, none⟩ (.bool x)) rb rl k I W (upd D j x) := by
  obtain ⟨Z, h1, h2⟩ := flatV_cut (secC I W D) j k hj
  refine ⟨h.b.far (p := ⟨rl, j * 129 + 128, none⟩) h.ne.symm _, ?_, h.iS, h.wS, h.kk⟩
  rw [secC_D, h2]
  have hs := h.r.store (j * 129 + 128) (.bool x)
  have e : (flatV (secC I W D) k).set (j * 129 + 128) (.bool x) = flatV (secC I W D) j ++ ((u8s (I j) ++ (u8s (W j) ++ [.bool x])) ++ Z) := by
    rw [h1, List.set_append_right _ _ (by rw [h.len]; omega), h.len, show j * 129 + 128 - j * 129 = 128 by omega]
    unfold secC
    rw [List.append_assoc, List.set_append_right _ _ (by rw [u8s_length, (h.iS j).1]; omega), u8s_length, (h.iS j).1, List.append_assoc, List.set_append_right _ _ (by rw [u8s_length, (h.wS j).1]; omega), u8s_length, (h.wS j).1]
    simp only [List.append_assoc]
    rfl
  rw [e] at hs
  exact hs
def zrow : List Value := u8s zeroL ++ (u8s zeroL ++ [.bool false])
theorem sector_info : (Try.prog.info? 65).map (fun i => (i.zero, i.size, i.bytes)) = some (some (.agg zrow.toArray), 129, 129) := by kernel_rfl
theorem make_rows (k : Nat) (hk : k ≤ 4096) (w : World) : (Instr.makeSlice 61 (.int .i64 (k : Int)) (.int .i64 (k : Int))).run Try.prog w = .ok (.slice (some ⟨w.heap.size, 0, none⟩) k k) (w.alloc (.cells (flatV (fun _ => zrow) k).toArray 65)) := by
  obtain ⟨i, hi, hzz⟩ := Option.map_eq_some_iff.1 sector_info
  simp only [Prod.mk.injEq] at hzz
  obtain ⟨hz, hs, hb⟩ := hzz
  have hr := run_make (P := Try.prog) w 61 65 i (.agg zrow.toArray) Try.underlying61 hi hz .i64 .i64 k k (by omega) (Int.le_refl _) (by rw [hb]; omega) (by omega)
  simp only [Int.toNat_natCast, hs] at hr
  rw [← made_flat zrow 129 rfl (by decide)]
  exact hr
set_option maxRecDepth 100000 in
set_option maxHeartbeats 1000000 in
theorem rNew_t (k : Nat) (hk : k ≤ 4096) (w : World) : Calls Try.prog 14 #[.int .i64 (k : Int)] w fun e w' => ∃ rb rl, e = .returned (.pointer (some ⟨rb, 0, none⟩)) ∧ RK w' rb rl k (fun _ => zeroL) (fun _ => zeroL) (fun _ => false) ∧ w.heap.size ≤ rb ∧ w.heap.size ≤ rl ∧ Below w.heap.size w w' := by
  have hmk := make_rows k hk
  have k1 : (k : Int) ≤ 4096 := by omega
  have hrow : (fun _ : Nat => zrow) = secC (fun _ => zeroL) (fun _ => zeroL) (fun _ => false) := rfl
  have W2 := Lib.hid (show RK ((w.alloc (.cells (flatV (fun _ => zrow) k).toArray 65)).alloc (.cells #[.slice (some ⟨w.heap.size, 0, none⟩) k k] 63)) (w.heap.size + 1) w.heap.size k (fun _ => zeroL) (fun _ => zeroL) (fun _ => false) ∧ Below w.heap.size w ((w.alloc (.cells (flatV (fun _ => zrow) k).toArray 65)).alloc (.cells #[.slice (some ⟨w.heap.size, 0, none⟩) k k] 63)) from
    ⟨⟨Blk.new2 w _ _ [.slice (some ⟨w.heap.size, 0, none⟩) k k], by rw [← hrow]; exact (Blk.new w _ _).alloc _, fun _ => zero_sec_is, fun _ => zero_sec_is, hk⟩, ((Below.refl _ _).alloc (Nat.le_refl _) _).alloc (by simp) _⟩)
  clear hk hrow
  go_enter Try.func14, Try.ntmps14
  go_wp2
  go_ret
  exact ⟨_, rfl, _, W2.out.1, Nat.le_succ _, Nat.le_refl _, W2.out.2⟩
end
end Go.Proofs.Ytgaiheaibejloaa
