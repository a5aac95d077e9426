/-
  PACKAGE space: the library's Delete of one element of a row of the call's own.
-/
import Derived.Test.YtojianpbjckipaaGreatDoorSpJ
namespace Go.Proofs.YtojianpbjckipaaGreatDoor
open Go Go.RowKit Sh

/-- 's[l:h]' of a slice. -/
theorem slice_bothS {P : Program} {t e : TypeId} {sz : Nat} (hu : P.underlying t = some (.slice e)) (hs : (P.info? e).map (·.size) = some sz) (g n c : Nat) (l h : Nat) (h1 : l ≤ h) (h2 : h ≤ c) (hlc : l < c) :
    ∀ W, (Instr.slice t (.slice (some ⟨g, 0, none⟩) n c) (some (.int .i64 (l : Int))) (some (.int .i64 (h : Int))) none).run P W = .ok (.slice (some ⟨g, l * sz, none⟩) (h - l) (c - l)) W := by
  have hz : ∀ W, (sizeOf e).run P W = .ok sz W := by
    cases hq : P.info? e with
    | none => simp [hq] at hs
    | some i => simp [hq] at hs; intro W; simp [sizeOf, typeInfo, hq, hs]
  have e1 : ∀ W, (Instr.sliceBound (.int .i64 (h : Int)) c .sliceAcap).run P W = .ok h W := fun W => by simp [Instr.sliceBound, asIntOf, h2]
  have e2 : ∀ W, (Instr.sliceBound (.int .i64 (l : Int)) h .sliceB).run P W = .ok l W := fun W => by simp [Instr.sliceBound, asIntOf, h1]
  intro W
  have hne : ¬ c = l := by omega
  simp [Instr.slice, run_underlying hu, Instr.sliceBounds, e1, e2, hz, Result.andThen, hne, Addr.add_mid]
section
variable {P : Program} {ops : Array Oper} {o : Oper} {a : Act} {w : World} {Q : Exit → Act → World → Prop} {sz : Nat}
/-- append(s, x...) where there is room. -/
theorem wp_append_in {K : Act → World → Prop} (s x : Operand) (t : TypeId) (ho : o.op = .call { callee := .builtin .append, args := #[s, x], argTypes := #[t, t] })
    (e tt : TypeId) (ht : P.underlying t = some (.slice e)) (hi : (P.info? e).map (·.size) = some sz) (g n c : Nat) (hs : a.eval s = .slice (some ⟨g, 0, none⟩) n c) (p : Option Addr) (m c2 : Nat) (hx : a.eval x = .slice p m c2) (A M C news : List Value)
    (hg : Blk w g tt (A ++ (M ++ C))) (hA : A.length = n * sz) (hM : M.length = news.length) (hl : news.length = m * sz) (hnews : 0 < m → ∃ ad : Addr, p = some ad ∧ ∀ j u, news[j]? = some u → w.cell? (ad.add j) = some u) (h1 : ∀ u ∈ news, u.oneCell' = true) (hroom : n + m ≤ c)
    (h : ∀ w', Hid (Blk w' g tt (A ++ (news ++ C))) → Hid (But w.heap.size g w w') → K (a.put o.dst (.slice (some ⟨g, 0, none⟩) (n + m) c)) w') : o.wp P a w K Q := by
  obtain ⟨i, hi', hsz⟩ : ∃ i, P.info? e = some i ∧ i.size = sz := by
    cases hq : P.info? e with
    | none => simp [hq] at hi
    | some i => simp [hq] at hi; exact ⟨i, rfl, hi⟩
  subst hsz
  have hrun : (Builtin.append_ #[t, t] o.type #[.slice (some ⟨g, 0, none⟩) n c, .slice p m c2]).run P w = .ok (.slice (some ⟨g, 0, none⟩) (n + m) c) (w.setCells g A.length news) := by
    by_cases hm : m = 0
    · subst hm
      obtain rfl : news = [] := List.eq_nil_of_length_eq_zero (by omega)
      have hnc : n ≤ c := by omega
      cases p <;> simp [Builtin.append_, run_underlying ht, sizeOf, typeInfo, hi', Builtin.lenOf, Builtin.firstCells, hnc, storeCells, loadCells, loadCellsFrom, World.setCells]
    · obtain ⟨ad, rfl, hc⟩ := hnews (by omega)
      have hth := there_of hg
      have hr := run_append_room_cells (P := P) (w := w) t o.type e i ht hi' g 0 n c ad m c2 news hl hc h1 hroom (fun j hj => by rw [Nat.zero_add, ← hA]; exact (hth j (by omega)).1) (fun j hj => by rw [Nat.zero_add, ← hA]; exact (hth j (by omega)).2)
      rw [Nat.zero_add, ← hA] at hr
      exact hr
  unfold Oper.wp execOp
  simp only [ho, resolve, invoke, builtin, Sem.run_bind, Sem.run_pure, Result.andThen_ok, List.map_toArray, List.map_cons, List.map_nil, hs, hx, hrun]
  exact h _ (Lib.hid (setCells_row g tt news w A M C hg hM)) (Lib.hid (But.setCells _ _ _ (But.refl _ _ _)))
end
theorem erase_flat {α : Type} (f : α → List Value) (l : List α) (k : Nat) : (l.eraseIdx k).flatMap f = (l.take k).flatMap f ++ (l.drop (k + 1)).flatMap f := by
  rw [List.eraseIdx_eq_take_drop_succ, List.flatMap_append]
set_option maxRecDepth 100000 in
set_option maxHeartbeats 2000000 in
theorem deleteAt_t (l : List Itv) (n c B k : Nat) (q : Option Addr) (w : World) (hl : l.length = n) (hn : n ≤ 1000000) (hk : k < n) (ho : w.ownsRow B 62 3 (.slice q n c) n (l.flatMap iv)) :
    Calls Tryz.prog 158 #[.slice q n c, .int .i64 (k : Int), .int .i64 ((k + 1 : Nat) : Int)] w fun e w' => e = .returned (.slice q (n - 1) c) ∧ w'.ownsRow B 62 3 (.slice q (n - 1) c) (n - 1) ((l.eraseIdx k).flatMap iv) ∧ Kept (OB q) w w' := by
  obtain ⟨g, sp, rfl, hB, hnc, hcm, hblk, hsp⟩ := own_whole ho (by omega)
  have hle : ((l.take k).flatMap iv).length = k * 3 := by rw [flat_length iv_len, List.length_take, Nat.min_eq_left (by omega)]
  have hld : ((l.drop (k + 1)).flatMap iv).length = (n - (k + 1)) * 3 := by rw [flat_length iv_len, List.length_drop, hl]
  have hlm : (((l.drop k).take (n - (k + 1))).flatMap iv).length = (n - (k + 1)) * 3 := by rw [flat_length iv_len, List.length_take, List.length_drop, hl, Nat.min_eq_left (by omega)]
  have hlc : (((l.drop k).drop (n - (k + 1))).flatMap iv).length = 1 * 3 := by rw [flat_length iv_len, List.length_drop, List.length_drop, hl]; congr 1; omega
  have B1 := Lib.hid (show Blk w.drew g 62 ((l.take k).flatMap iv ++ (((l.drop k).take (n - (k + 1))).flatMap iv ++ (((l.drop k).drop (n - (k + 1))).flatMap iv ++ sp))) from by
    rw [← List.append_assoc (((l.drop k).take (n - (k + 1))).flatMap iv), ← List.flatMap_append, List.take_append_drop, ← List.append_assoc, ← List.flatMap_append, List.take_append_drop]
    exact hblk)
  obtain ⟨v3, h3⟩ := slice_three Tryz.underlying22 sizeI (some ⟨g, 0, none⟩) n c k (k + 1) (Nat.le_succ k) hk hnc
  have hsh := slice_highS Tryz.underlying22 sizeI (some ⟨g, 0, none⟩) n c .i64 k (by omega)
  obtain ⟨p2, hp2, hsl⟩ := slice_lowS Tryz.underlying22 sizeI (some ⟨g, 0, none⟩) n c .i64 (k + 1) hk hnc
  have hsl' : ∀ W, (Instr.slice 22 (.slice (some ⟨g, 0, none⟩) n c) (some (.int .i64 ((k : Int) + 1))) none none).run Tryz.prog W = .ok (.slice p2 (n - (k + 1)) (c - (k + 1))) W := hsl
  have hsb := slice_bothS Tryz.underlying22 sizeI g (n - 1) c (n - 1) n (by omega) hnc (by omega)
  rw [show n - (n - 1) = 1 by omega] at hsb
  have HN := Lib.hid (show 0 < n - (k + 1) → ∃ ad : Addr, p2 = some ad ∧ ∀ j u, ((l.drop (k + 1)).flatMap iv)[j]? = some u → w.drew.cell? (ad.add j) = some u from fun h => by
    refine ⟨⟨g, 0 + (k + 1) * 3, none⟩, hp2 (by omega) g 0 rfl, fun j u hu => ?_⟩
    have hr := RowL.of_own iv_len hl.symm ho
    have h2 : RowL w (some ⟨g, 0 + (k + 1) * 3, none⟩) 3 iv (l.drop (k + 1)) := fun i x hx => by
      rw [List.getElem?_drop] at hx
      obtain ⟨b, o, e, hlt, rg⟩ := hr _ x hx
      injection e with e
      injection e with e1 e2
      subst e1; subst e2
      refine ⟨g, 0 + (k + 1) * 3, rfl, hlt, fun i' v hv => ?_⟩
      have := rg i' v hv
      rw [← this]
      congr 2
      rw [Nat.add_mul]
      omega
    obtain ⟨ad, e, _, hc⟩ := h2.flat iv_len (by rw [List.length_drop]; omega) (by decide)
    injection e with e
    rw [e]
    exact hc j u hu)
  have e1 : ((k : Int) == ((k + 1 : Nat) : Int)) = false := by rw [beq_eq_false_iff_ne]; omega
  have H := Lib.hid (And.intro hB (And.intro hcm (And.intro hsp (And.intro hle (And.intro hld (And.intro hlm hlc))))))
  have HR := Lib.hid (show k + (n - (k + 1)) = n - 1 by omega); have HC := Lib.hid hnc; have HK := Lib.hid hk; have HL := Lib.hid hl
  clear ho hblk hB hcm hsp hle hld hlm hlc hp2 hl
  go_enter Tryz.func158, Tryz.ntmps158
  go_upto_region 5 with (fail)
  refine wp_region_held (S := fun _ => True) (by kernel_rfl) ?_
  change wpAnyH _ _ _ _ _ _ _ _ w.drew
  refine wpAnyH_take (i := 0) (v := ?_) rfl (by kernel_rfl) (by kernel_rfl) (by kernel_rfl) (fun _ _ _ h => h) (Or.inl ⟨by kernel_rfl, ?_⟩) trivial ?_
  rotate_left 1
  · (intro w hS; clear hS; go_simp; try (with_reducible rfl))
  refine wpAnyH_take (i := 1) (v := ?_) rfl (by kernel_rfl) (by kernel_rfl) (by kernel_rfl) (fun _ _ _ h => h) (Or.inl ⟨by kernel_rfl, ?_⟩) trivial ?_
  rotate_left 1
  · (intro w hS; clear hS; go_simp; try (with_reducible rfl))
  refine wpAnyH_take (i := 2) (v := ?_) rfl (by kernel_rfl) (by kernel_rfl) (by kernel_rfl) (fun _ _ _ h => h) (Or.inl ⟨by kernel_rfl, ?_⟩) trivial ?_
  rotate_left 1
  · (intro w hS; clear hS; go_simp; try (with_reducible rfl))
  refine wpAnyH_take (i := 3) (v := ?_) rfl (by kernel_rfl) (by kernel_rfl) (by kernel_rfl) (fun _ _ _ h => h) (Or.inl ⟨by kernel_rfl, ?_⟩) trivial ?_
  rotate_left 1
  · (intro w hS; clear hS; go_simp; try (with_reducible rfl))
  refine wpAnyH_take (i := 4) (v := ?_) rfl (by kernel_rfl) (by kernel_rfl) (by kernel_rfl) (fun _ _ _ h => h) (Or.inl ⟨by kernel_rfl, ?_⟩) trivial ?_
  rotate_left 1
  · (intro w hS; clear hS; go_simp; try (with_reducible rfl))
  refine wpAnyH_take (i := 5) (v := ?_) rfl (by kernel_rfl) (by kernel_rfl) (by kernel_rfl) (fun _ _ _ h => h) (Or.inl ⟨by kernel_rfl, ?_⟩) trivial ?_
  rotate_left 1
  · (intro w hS; clear hS; go_simp; try (with_reducible rfl))
  refine wpAnyH_ready (rs := [6]) (by kernel_rfl) (by simp) ?_
  refine AllReadyH.cons rfl (fun K hK => ?_) AllReadyH.nil
  rw [if_pos (by kernel_rfl)]
  refine wp_append_in (sz := 3) (.tmp 22) (.tmp 25) 22 ?_ 62 62 Tryz.underlying22 sizeI g k c ?_ p2 (n - (k + 1)) (c - (k + 1)) ?_ _ _ _ ((l.drop (k + 1)).flatMap iv) B1.out H.out.2.2.2.1 (H.out.2.2.2.2.2.1.trans H.out.2.2.2.2.1.symm) H.out.2.2.2.2.1 HN.out (flat_one iv_one _) (by have := HR.out; have := HC.out; omega) ?_
  · rfl
  · go_simp
  · go_simp
  intro w2 a1 a2
  refine hK.out _ _ trivial (fun _ => ?_)
  clear hK K
  refine wpAnyH_take (i := 7) (v := ?_) rfl (by kernel_rfl) (by kernel_rfl) (by kernel_rfl) (fun _ _ _ h => h) (Or.inl ⟨by kernel_rfl, ?_⟩) trivial ?_
  rotate_left 1
  · (intro w hS; clear hS; go_simp; try (with_reducible rfl))
  refine wpAnyH_done (by kernel_rfl) ?_ _
  go_simp
  rw [HR.out]
  have B2 := Lib.hid (show Blk w2 g 62 ((l.eraseIdx k).flatMap iv ++ (((l.drop k).drop (n - (k + 1))).flatMap iv ++ sp)) from by rw [erase_flat, List.append_assoc]; exact a1.out)
  have LE := Lib.hid (show ((l.eraseIdx k).flatMap iv).length = (n - 1) * 3 from by rw [erase_flat, List.length_append, H.out.2.2.2.1, H.out.2.2.2.2.1, ← Nat.add_mul, HR.out])
  have K2 := Lib.hid (show Kept (fun b => b = g) w w2 from ⟨a2.out.os, a2.out.tape, a2.out.output, a2.out.size, fun b h1 h2 => a2.out.block b h1 h2⟩)
  clear a1 a2 B1 h3 hsh hsl hsl' HN e1
  go_wp2_with ((with_reducible refine at_op (.call { callee := .builtin .clear, args := #[.tmp 31], argTypes := #[22] }) rfl ?_); go_must (refine clear_rows (.tmp 31) 22 62 g ((n - 1) * 3) 1 3 (c - (n - 1)) (some ⟨g, (n - 1) * 3, none⟩) 62 ((l.eraseIdx k).flatMap iv) (((l.drop k).drop (n - (k + 1))).flatMap iv) sp _ rfl rfl B2.out LE.out.symm H.out.2.2.2.2.2.2.symm rfl (by decide) Tryz.underlying22 zeroI zI_one rfl (fun _ => rfl) ?_); intro w3 Z a1 a2 a3)
  have OW := Lib.hid (show w3.ownsRow B 62 3 (.slice (some ⟨g, 0, none⟩) (n - 1) c) (n - 1) ((l.eraseIdx k).flatMap iv) from own_of_whole H.out.1 a2.out LE.out (by
    have h1 := a1.out
    have h2 := H.out.2.2.1
    have h3 := HC.out
    have h4 := HK.out
    rw [List.length_append, h1, h2, ← Nat.add_mul]
    congr 1
    omega) (by have := HC.out; omega) H.out.2.1)
  have KF := Lib.hid (show Kept (OB (some ⟨g, 0, none⟩)) w w3 from (K2.out.trans (⟨a3.out.os, a3.out.tape, a3.out.output, a3.out.size, fun b h1 h2 => a3.out.block b h1 h2⟩ : Kept (fun k => k = g) w2 w3)).mono fun b e => ⟨⟨g, 0, none⟩, rfl, e.symm⟩)
  clear a1 a2 a3 K2 B2
  go_wp2_with fail
  go_ret
  exact ⟨rfl, OW.out, KF.out⟩
end Go.Proofs.YtojianpbjckipaaGreatDoor
