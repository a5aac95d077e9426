/-
  PACKAGE disk: save.
-/
import Derived.Test.YtgaiheaibejloaaDkC
namespace Go.Proofs.Ytgaiheaibejloaa
open Go Go.RowKit Go.Maps Go.ChangeMaps Go.MapKept Sh

theorem wcopy_partD {P : Program} {o : Oper} {a : Act} {w : World} {K : Act → World → Prop} {Q : Exit → Act → World → Prop} (d s : Operand) (dT sT elem : TypeId) (g off dLen dCap sLen sCap nn : Nat) (dp sp : Option Addr) (t : TypeId) (A M C M' : List Value)
    (ho : o.op = .call { callee := .builtin .copy, args := #[d, s], argTypes := #[dT, sT] }) (hu : P.underlying dT = some (.slice elem)) (hsz : (P.info? elem).map (·.size) = some 1)
    (hg : Blk w g t (A ++ (M ++ C))) (hoff : off = A.length) (hl : M.length = M'.length) (hn : M'.length = Nat.min sLen dLen) (hd : a.eval d = .slice dp dLen dCap) (hs : a.eval s = .slice sp sLen sCap)
    (hpos : 0 < M'.length → dp = some ⟨g, off, none⟩ ∧ ∃ ad, sp = some ad ∧ ∀ j v, M'[j]? = some v → w.cell? (ad.add j) = some v) (h1 : ∀ v ∈ M', v.oneCell' = true) (hnn : M'.length = nn)
    (h : ∀ w', Hid (Blk w' g t (A ++ (M' ++ C))) → Hid (But w.heap.size g w w') → Hid (w'.heap.size = w.heap.size) → K (a.put o.dst (.int .i64 (nn : Int))) w') : o.wp P a w K Q := by
  subst hnn
  by_cases h0 : M'.length = 0
  · obtain rfl : M' = [] := List.eq_nil_of_length_eq_zero h0
    obtain rfl : M = [] := List.eq_nil_of_length_eq_zero hl
    have hrun := run_copy_none (P := P) w dT sT o.type elem dp sp dLen dCap sLen sCap hu hsz (by simpa using hn.symm)
    unfold Oper.wp
    simp [execOp, ho, resolve, invoke, builtin, hd, hs, hrun, Result.andThen]
    exact h w (Lib.hid hg) (Lib.hid (But.refl _ _ _)) (Lib.hid rfl)
  · obtain ⟨rfl, ad, rfl, hsrc⟩ := hpos (by omega)
    subst hoff
    have hrun := run_copy_row (P := P) w dT sT o.type elem g A.length dLen dCap ad sLen sCap (A ++ (M ++ C)).toArray t M' hu hsz hg hn hsrc (by simp; omega) h1
    unfold Oper.wp
    simp [execOp, ho, resolve, invoke, builtin, hd, hs, hrun, Result.andThen]
    refine h _ ?_ ?_ ?_
    · have e : (A ++ (M ++ C)).take A.length ++ (M' ++ (A ++ (M ++ C)).drop (A.length + M'.length)) = A ++ (M' ++ C) := by
        rw [← hl, ← List.drop_drop, List.take_left, List.drop_left, List.drop_left]
      have hb := hg.setRow ((A ++ (M ++ C)).take A.length ++ (M' ++ (A ++ (M ++ C)).drop (A.length + M'.length)))
      rw [e] at hb
      rw [← e] at hb ⊢
      exact Lib.hid (by simpa using hb)
    · exact Lib.hid ((But.refl _ _ _).setRow _)
    · exact Lib.hid (by simp)
section
variable {w w' : World} {g bs bm k n : Nat} {S : Nat → List Nat} {M : Nat → Option (List Nat)}
set_option maxRecDepth 100000 in
set_option maxHeartbeats 1000000 in
/-- save of a sector that is not dirty. -/
theorem dSave_no (x : Int) (m : Int) (hx : InI x) (hm : mi M x = none) (h : DK w g bs bm k n S M) : Calls Try.prog 22 #[.pointer (some ⟨g, 0, none⟩), .int .i64 x, .int .i64 m] w fun e w' => e = .returned (.tuple #[]) ∧ Below w.heap.size w w' := by
  have c1 := h.c1
  have LK := h.m.look hx
  rw [hm] at LK
  simp only [secV, Option.getD_none, Option.isSome_none] at LK
  obtain ⟨X, hX⟩ : ∃ z, zeroL = z := ⟨_, rfl⟩
  have HX := Lib.hid (show X.length = 64 by rw [← hX]; rfl)
  rw [hX] at LK
  have F1 := Lib.hid (u8s_one X)
  have B1 := Lib.hid ((Below.refl w.heap.size w).alloc (Nat.le_refl _) (.cells (u8s X).toArray 54))
  clear h hm hX hx
  go_enter Try.func22, Try.ntmps22
  go_wp2_with ((with_reducible refine at_op (.store 54 (.tmp 6) (.tmp 15)) rfl ?_); refine store_blk 54 (.tmp 6) (.tmp 15) _ 54 _ (u8s X) rfl rfl (Blk.new _ _ _) (by rw [u8s_length, HX.out]; rfl) (by rw [u8s_length, HX.out]; exact sec_size) F1.out rfl rfl ?_; rw [World.setRow_alloc_new])
  refine bodyPost_ret (results_none rfl _ _ _) rfl ?_
  exact ⟨rfl, B1.out⟩
set_option maxRecDepth 100000 in
set_option maxHeartbeats 1000000 in
/-- save of a dirty one. -/
theorem dSave_t (j : Nat) (m : Int) (X : List Nat) (hM : M j = some X) (h : DK w g bs bm k n S M) : Calls Try.prog 22 #[.pointer (some ⟨g, 0, none⟩), .int .i64 (j : Int), .int .i64 m] w fun e w' => e = .returned (.tuple #[]) ∧ DK w' g bs bm k n (upd S j (mix (clampN m) X (S j))) M ∧ Kept (fun b => b = bs) w w' := by
  obtain ⟨⟨hX, hXb⟩, hj⟩ := h.mS j X hM
  have c1 := h.c1
  have jk := h.kk
  have LK := h.m.look (x := (j : Int)) ⟨by omega, by omega⟩
  rw [mi_nat, hM] at LK
  simp only [secV, Option.getD_some, Option.isSome_some] at LK
  have HX := Lib.hid hX; have HXB := Lib.hid hXb; have HJ := Lib.hid hj; have HD := Lib.hid h; have HM := Lib.hid hM
  have F1 := Lib.hid (u8s_one X)
  have B1 := Lib.hid ((Below.refl w.heap.size w).alloc (Nat.le_refl _) (.cells (u8s X).toArray 54))
  obtain ⟨q, hq⟩ : ∃ z, clampN m = z := ⟨_, rfl⟩
  have q1 : (if (64 : Int) < (if m < 0 then 0 else m) then 64 else (if m < 0 then 0 else m)) = (q : Int) := by rw [← hq, clampN_cast]; omega
  have HQ := Lib.hid (show q ≤ 64 by rw [← hq]; exact clampN_le m)
  rw [hq]
  clear h hM hX hXb hj hq
  go_enter Try.func22, Try.ntmps22
  go_upto_region 3 with ((with_reducible refine at_op (.store 54 (.tmp 6) (.tmp 15)) rfl ?_); refine store_blk 54 (.tmp 6) (.tmp 15) _ 54 _ (u8s X) rfl rfl (Blk.new _ _ _) (by rw [u8s_length, HX.out]; rfl) (by rw [u8s_length, HX.out]; exact sec_size) F1.out rfl rfl ?_; rw [World.setRow_alloc_new])
  clear q1
  obtain ⟨C, hc1, hc2⟩ := flatS_cut S j k HJ.out
  have Sj := HD.out.sS j
  have hms : mix q X (S j) = X.take q ++ (S j).drop q := rfl
  have D1 := Lib.hid (HD.out.below B1.out)
  have R1 := Lib.hid (Blk.new w 54 (u8s X))
  obtain ⟨W, hW⟩ : ∃ x, w.alloc (.cells (u8s X).toArray 54) = x := ⟨_, rfl⟩
  rw [hW] at D1 R1 B1 ⊢
  clear hW
  obtain ⟨V, hV⟩ : ∃ V, W.drew = V := ⟨_, rfl⟩
  have D3 := Lib.hid (show DK V g bs bm k n S M by rw [← hV]; exact D1.out.drew)
  have B3 := Lib.hid (show Below w.heap.size w V by rw [← hV]; exact B1.out.drew)
  have R3 := Lib.hid (show Blk V w.heap.size 54 (u8s X) by rw [← hV]; exact R1.out.drew)
  have SA := sliceAt_all (P := Try.prog) Try.underlying54 byte_size w.heap.size 0
  have SH := sliceAt_high (P := Try.prog) Try.underlying54 byte_size bs (j * 64) .i64 q HQ.out
  have s0 : V.cell? ⟨g, 0, none⟩ = some (.slice (some ⟨bs, 0, none⟩) k k) := D3.out.c0
  have jk2 : (j : Int) < (k : Int) := by have := HJ.out; omega
  have hl1 : (X.take q).length = q := by rw [List.length_take, HX.out]; exact Nat.min_eq_left HQ.out
  have hl2 : ((S j).take q).length = q := by rw [List.length_take, Sj.1]; exact Nat.min_eq_left HQ.out
  have hrow : u8s (flatS S k) = u8s (flatS S j) ++ (u8s ((S j).take q) ++ u8s ((S j).drop q ++ C)) := by
    rw [← u8s_app, ← u8s_app, ← List.append_assoc ((S j).take q), List.take_append_drop, hc1]
  have hrow2 : u8s (flatS S j) ++ (u8s (X.take q) ++ u8s ((S j).drop q ++ C)) = u8s (flatS (upd S j (mix q X (S j))) k) := by
    rw [hc2, hms, ← u8s_app, ← u8s_app, List.append_assoc]
  have G3 := Lib.hid (show Blk V bs 54 (u8s (flatS S j) ++ (u8s ((S j).take q) ++ u8s ((S j).drop q ++ C))) by rw [← hrow]; exact D3.out.s)
  have HR2 := Lib.hid hrow2
  have L1 := Lib.hid (show (u8s (X.take q)).length = q by rw [u8s_length, hl1])
  have L2 := Lib.hid (show (u8s ((S j).take q)).length = (u8s (X.take q)).length by rw [u8s_length, u8s_length, hl1, hl2])
  have L3 := Lib.hid (show (u8s (X.take q)).length = Nat.min 64 q by rw [u8s_length, hl1]; exact (Nat.min_eq_right HQ.out).symm)
  have L0 := Lib.hid (show j * 64 = (u8s (flatS S j)).length by rw [u8s_length, flatS_length S (fun i => (HD.out.sS i).1) j])
  have CP := Lib.hid (show 0 < (u8s (X.take q)).length → (some ⟨bs, j * 64, none⟩ : Option Addr) = some ⟨bs, j * 64, none⟩ ∧ ∃ ad, (some ⟨w.heap.size, 0, none⟩ : Option Addr) = some ad ∧ ∀ i v, (u8s (X.take q))[i]? = some v → V.cell? (ad.add i) = some v from fun _ => ⟨rfl, _, rfl, fun i v hv => by
    rw [Addr.add_mid, R3.out.cell, Nat.zero_add]
    have hi : i < q := by have := (List.getElem?_eq_some_iff.1 hv).1; rw [L1.out] at this; exact this
    rw [← hv]; simp [u8s, List.getElem?_take_of_lt hi]⟩)
  have U8 := Lib.hid (u8s_each (X.take q))
  have HS3 := Lib.hid Sj
  clear hc1 hc2 hms hrow hrow2 hl1 hl2 Sj c1 LK D1 R1 B1 F1
  go_simp
  refine wp_region_held (S := fun Y => Y.cell? ⟨g, 0, none⟩ = some (.slice (some ⟨bs, 0, none⟩) k k)) (by kernel_rfl) ?_
  change wpAnyH _ _ _ _ _ _ _ _ W.drew
  rw [hV]
  clear hV
  refine wpAnyH_take (i := 0) (v := ?_) rfl (by kernel_rfl) (by kernel_rfl) (by kernel_rfl) (fun _ _ _ h => h) (Or.inl ⟨by kernel_rfl, ?_⟩) s0 ?_
  rotate_left 1
  · (intro w hS; clear hS; go_simp; try (with_reducible rfl))
  refine wpAnyH_take (i := 1) (v := ?_) rfl (by kernel_rfl) (by kernel_rfl) (by kernel_rfl) (fun _ _ _ h => h) (Or.inl ⟨by kernel_rfl, ?_⟩) s0 ?_
  rotate_left 1
  · (intro w hS; clear hS; go_simp; try (with_reducible rfl))
  refine wpAnyH_take (i := 2) (v := ?_) rfl (by kernel_rfl) (by kernel_rfl) (by kernel_rfl) (fun _ _ _ h => h) (Or.inl ⟨by kernel_rfl, ?_⟩) s0 ?_
  rotate_left 1
  · (intro w hS; clear hS; go_simp; try (with_reducible rfl))
  refine wpAnyH_take (i := 3) (v := ?_) rfl (by kernel_rfl) (by kernel_rfl) (by kernel_rfl) (fun _ _ _ h => h) (Or.inl ⟨by kernel_rfl, ?_⟩) s0 ?_
  rotate_left 1
  · (intro w hS; have hs := hS; clear hS; go_simp; try (with_reducible rfl))
  refine wpAnyH_take (i := 4) (v := ?_) rfl (by kernel_rfl) (by kernel_rfl) (by kernel_rfl) (fun _ _ _ h => h) (Or.inl ⟨by kernel_rfl, ?_⟩) s0 ?_
  rotate_left 1
  · (intro w hS; clear hS; go_simp; try (with_reducible rfl))
  refine wpAnyH_take (i := 5) (v := ?_) rfl (by kernel_rfl) (by kernel_rfl) (by kernel_rfl) (fun _ _ _ h => h) (Or.inl ⟨by kernel_rfl, ?_⟩) s0 ?_
  rotate_left 1
  · (intro w hS; clear hS; go_simp; try (with_reducible rfl))
  refine wpAnyH_take (i := 6) (v := ?_) rfl (by kernel_rfl) (by kernel_rfl) (by kernel_rfl) (fun _ _ _ h => h) (Or.inl ⟨by kernel_rfl, ?_⟩) s0 ?_
  rotate_left 1
  · (intro w hS; clear hS; go_simp; try (with_reducible rfl))
  refine wpAnyH_take (i := 7) (v := ?_) rfl (by kernel_rfl) (by kernel_rfl) (by kernel_rfl) (fun _ _ _ h => h) (Or.inl ⟨by kernel_rfl, ?_⟩) s0 ?_
  rotate_left 1
  · (intro w hS; clear hS; go_simp; try (with_reducible rfl))
  refine wpAnyH_take (i := 8) (v := ?_) rfl (by kernel_rfl) (by kernel_rfl) (by kernel_rfl) (fun _ _ _ h => h) (Or.inl ⟨by kernel_rfl, ?_⟩) s0 ?_
  rotate_left 1
  · (intro w hS; clear hS; go_simp; try (with_reducible rfl))
  refine wpAnyH_ready (rs := [9]) (by kernel_rfl) (by simp) ?_
  refine AllReadyH.cons rfl (fun K hK => ?_) AllReadyH.nil
  rw [if_pos (by kernel_rfl)]
  refine wcopy_partD (.tmp 29) (.tmp 30) 26 26 5 bs (j * 64) q 64 64 64 q (some ⟨bs, j * 64, none⟩) (some ⟨w.heap.size, 0, none⟩) 54 (u8s (flatS S j)) (u8s ((S j).take q)) (u8s ((S j).drop q ++ C)) (u8s (X.take q)) rfl Try.underlying26 byte_size G3.out L0.out L2.out L3.out (by go_simp) (by go_simp) CP.out U8.out L1.out ?_
  intro w3 hb3 hbt3 hs3
  rw [HR2.out] at hb3
  have n1 : g ≠ bs := D3.out.ne.symm
  have n2 : bm ≠ bs := D3.out.m.apart D3.out.s
  have MQ := Lib.hid (show Sec (mix q X (S j)) from ⟨mix_length HX.out HS3.out.1 HQ.out, by
    unfold mix
    refine sl_bytes (fun x hx => ?_)
    have hall : ∀ l : List Nat, Bytes l → ∀ x ∈ l, x < 256 := fun l hl x hx => by
      obtain ⟨i, hi, rfl⟩ := List.getElem_of_mem hx
      have := hl i
      rwa [gt_of_lt hi] at this
    rcases List.mem_append.1 hx with h | h
    · exact hall X HXB.out x (List.mem_of_mem_take h)
    · exact hall (S j) HS3.out.2 x (List.mem_of_mem_drop h)⟩)
  have D4 := Lib.hid (show DK w3 g bs bm k n (upd S j (mix q X (S j))) M from
    ⟨D3.out.b.but hbt3.out D3.out.b.lt n1, hb3.out, D3.out.m.of_block (hbt3.out.block bm D3.out.m.lt n2), fun i => by
      by_cases e : i = j
      · subst e; rw [upd_same]; exact MQ.out
      · rw [upd_other _ _ e]; exact D3.out.sS i, D3.out.mS, D3.out.kk⟩)
  have K4 := Lib.hid (show Kept (fun b => b = bs) w w3 from (Kept.of_below B3.out).trans ⟨hbt3.out.os, hbt3.out.tape, hbt3.out.output, hbt3.out.size, fun i hi hf => hbt3.out.block i hi hf⟩)
  have C4 := Lib.hid D4.out.c0
  clear s0 D3 B3 R3 G3 HR2 L0 L1 L2 L3 CP U8 HS3 hb3 hbt3 hs3 n1 n2 MQ SA SH
  go_simp
  refine hK.out _ _ C4.out (fun _ => ?_)
  clear hK K
  refine wpAnyH_done (by kernel_rfl) ?_ _
  go_simp
  go_end0
  exact ⟨rfl, D4.out, K4.out⟩
end
end Go.Proofs.Ytgaiheaibejloaa
