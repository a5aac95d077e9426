/-
  PACKAGE genesis
-/
import Derived.Test.YtlipjglehongeaaGreatDoorGa21
namespace Go.Proofs.YtlipjglehongeaaGreatDoor
open Go Go.RowKit Sh

theorem wcopy_part {P : Program} {o : Oper} {a : Act} {w : World} {K : Act → World → Prop} {Q : Exit → Act → World → Prop} (d s : Operand) (dT sT elem : TypeId) (g off dLen dCap sLen sCap nn : Nat) (dp sp : Option Addr) (t : TypeId) (A M C M' : List Value)
    (ho : o.op = .call { callee := .builtin .copy, args := #[d, s], argTypes := #[dT, sT] }) (hu : P.underlying dT = some (.slice elem)) (hsz : (P.info? elem).map (·.size) = some 1)
    (hg : Blk w g t (A ++ (M ++ C))) (hoff : off = A.length) (hl : M.length = M'.length) (hn : M'.length = Nat.min sLen dLen) (hd : a.eval d = .slice dp dLen dCap) (hs : a.eval s = .slice sp sLen sCap)
    (hpos : 0 < M'.length → dp = some ⟨g, off, none⟩ ∧ ∃ ad, sp = some ad ∧ ∀ j v, M'[j]? = some v → w.cell? (ad.add j) = some v) (h1 : ∀ v ∈ M', v.oneCell' = true) (hnn : M'.length = nn)
    (h : ∀ w', Hid (Blk w' g t (A ++ (M' ++ C))) → Hid (But w.heap.size g w w') → Hid (w'.heap.size = w.heap.size) → K (a.put o.dst (.int .i64 (nn : Int))) w') : o.wp P a w K Q := by
  subst hnn
  by_cases h0 : M'.length = 0
  · obtain rfl : M' = [] := List.eq_nil_of_length_eq_zero h0
    obtain rfl : M = [] := List.eq_nil_of_length_eq_zero hl
    have hrun := run_copy_none (P := P) w dT sT o.type elem dp sp dLen dCap sLen sCap hu hsz (by simpa using hn.symm)
    unfold Oper.wp
    simp [execOp, ho, resolve, invoke, builtin, hd, hs, hrun, Result.andThen]
    exact h w (Lib.hid hg) (Lib.hid (But.refl _ _ _)) (Lib.hid rfl)
  · obtain ⟨rfl, ad, rfl, hsrc⟩ := hpos (by omega)
    subst hoff
    have hrun := run_copy_row (P := P) w dT sT o.type elem g A.length dLen dCap ad sLen sCap (A ++ (M ++ C)).toArray t M' hu hsz hg hn hsrc (by simp; omega) h1
    unfold Oper.wp
    simp [execOp, ho, resolve, invoke, builtin, hd, hs, hrun, Result.andThen]
    refine h _ ?_ ?_ ?_
    · have e : (A ++ (M ++ C)).take A.length ++ (M' ++ (A ++ (M ++ C)).drop (A.length + M'.length)) = A ++ (M' ++ C) := by
        rw [← hl, ← List.drop_drop, List.take_left, List.drop_left, List.drop_left]
      have hb := hg.setRow ((A ++ (M ++ C)).take A.length ++ (M' ++ (A ++ (M ++ C)).drop (A.length + M'.length)))
      rw [e] at hb
      rw [← e] at hb ⊢
      exact Lib.hid (by simpa using hb)
    · exact Lib.hid ((But.refl _ _ _).setRow _)
    · exact Lib.hid (by simp)
set_option maxRecDepth 100000 in
theorem key_t (g n : Nat) (hn : n < 7) (w : World) :
    Calls Tryz.prog 115 #[.pointer (some ⟨g, 0, none⟩), .int .i64 (n : Int)] w fun e w' => e = .returned (.slice (some ⟨g, n * 56, none⟩) 56 56) ∧ w = w' := by
  have hc : n = 0 ∨ n = 1 ∨ n = 2 ∨ n = 3 ∨ n = 4 ∨ n = 5 ∨ n = 6 := by omega
  rcases hc with rfl | rfl | rfl | rfl | rfl | rfl | rfl
  all_goals
    go_enter Tryz.func115, Tryz.ntmps115
    go_wp2_with fail
    go_ret
    exact ⟨rfl, rfl⟩
theorem make_keys (n : Nat) (hn : n ≤ 7) (w : World) : (Instr.makeSlice 22 (.int .i64 (n : Int)) (.int .i64 (n : Int))).run Tryz.prog w = .ok (.slice (some ⟨w.heap.size, 0, none⟩) n n) (w.alloc (.cells (List.replicate n (.slice none 0 0)).toArray 23)) := by
  have hinfo : (Tryz.prog.info? 23).map (fun i => (i.zero, i.size, i.bytes)) = some (some (.slice none 0 0), 1, 24) := by kernel_rfl
  obtain ⟨i, hi, hzz⟩ := Option.map_eq_some_iff.1 hinfo
  simp only [Prod.mk.injEq] at hzz
  obtain ⟨hz, hs, hb⟩ := hzz
  have hr := run_make (P := Tryz.prog) w 22 23 i (.slice none 0 0) Tryz.underlying22 hi hz .i64 .i64 (n : Int) (n : Int) (by omega) (Int.le_refl _) (by rw [hb]; omega) (by omega)
  rw [Int.toNat_natCast, hs] at hr
  have hc : n = 0 ∨ n = 1 ∨ n = 2 ∨ n = 3 ∨ n = 4 ∨ n = 5 ∨ n = 6 ∨ n = 7 := by omega
  rw [show madeCells (Value.slice none 0 0).cells (n * 1) = (List.replicate n (.slice none 0 0)).toArray from by
    rcases hc with rfl | rfl | rfl | rfl | rfl | rfl | rfl | rfl <;> kernel_rfl] at hr
  exact hr
def kSeg (ys : List Nat) (bad : Bool) : List Nat × List Nat × Bool := if 56 ≤ ys.length then (ys.take 56, ys.drop 56, bad) else (List.replicate 56 0, [], true)
def kRd (ys : List Nat) (bad : Bool) : Nat → List (List Nat) × List Nat × Bool
  | 0 => ([], ys, bad)
  | j + 1 => ((kRd ys bad j).1 ++ [(kSeg (kRd ys bad j).2.1 (kRd ys bad j).2.2).1], (kSeg (kRd ys bad j).2.1 (kRd ys bad j).2.2).2)
theorem kSeg_len (ys : List Nat) (bad : Bool) : (kSeg ys bad).1.length = 56 := by
  unfold kSeg
  split
  · rw [List.length_take]; omega
  · simp
theorem kRd_len (ys : List Nat) (bad : Bool) : ∀ j, (kRd ys bad j).1.length = j ∧ ∀ x ∈ (kRd ys bad j).1, x.length = 56
  | 0 => ⟨rfl, fun x hx => by cases hx⟩
  | j + 1 => by
    obtain ⟨h1, h2⟩ := kRd_len ys bad j
    refine ⟨by show ((kRd ys bad j).1 ++ [_]).length = _; simp [h1], fun x hx => ?_⟩
    rcases List.mem_append.1 hx with hx | hx
    · exact h2 x hx
    · rw [List.mem_singleton.1 hx]; exact kSeg_len _ _
theorem flat56 {l : List (List Nat)} (h : ∀ x ∈ l, x.length = 56) : l.flatten.length = 56 * l.length := by
  induction l with
  | nil => rfl
  | cons a l ih => rw [List.flatten_cons, List.length_append, h a List.mem_cons_self, ih (fun y hy => h y (List.mem_cons_of_mem _ hy)), List.length_cons]; omega
theorem kSeg_bytes {ys : List Nat} (bad : Bool) (h : Bytes ys) : Bytes (kSeg ys bad).1 ∧ Bytes (kSeg ys bad).2.1 ∧ (kSeg ys bad).2.1.length ≤ ys.length := by
  unfold kSeg
  split
  · exact ⟨bytes_take h _, bytes_drop h _, by rw [List.length_drop]; omega⟩
  · exact ⟨sl_bytes (by decide), nil_bytes, Nat.zero_le _⟩
theorem kRd_bytes {ys : List Nat} (bad : Bool) (h : Bytes ys) : ∀ j, (∀ x ∈ (kRd ys bad j).1, Bytes x) ∧ Bytes (kRd ys bad j).2.1 ∧ (kRd ys bad j).2.1.length ≤ ys.length
  | 0 => ⟨(fun x hx => by cases hx), h, Nat.le_refl _⟩
  | j + 1 => by
    obtain ⟨h1, h2, h3⟩ := kRd_bytes bad h j
    obtain ⟨k1, k2, k3⟩ := kSeg_bytes (kRd ys bad j).2.2 h2
    refine ⟨fun x hx => ?_, k2, Nat.le_trans k3 h3⟩
    rcases List.mem_append.1 hx with hx | hx
    · exact h1 x hx
    · rw [List.mem_singleton.1 hx]; exact k1
def keysAt (g5 : Nat) (l : List (List Nat)) : List Ky := (List.range l.length).map fun i => ⟨some ⟨g5, i * 56, none⟩, 56, l.getD i []⟩
def slotsAt (g5 n j : Nat) : List Value := (List.range j).map (fun i => Value.slice (some ⟨g5, i * 56, none⟩) 56 56) ++ List.replicate (n - j) (.slice none 0 0)
structure KR9 (F : Nat → Prop) (w0 W : World) (g n : Nat) (l : List (List Nat)) (s : Nat) (ys : List Nat) (bad : Bool) : Prop where
  rd : RdF F W g ys bad
  room : Blk W w0.heap.size 148 (u8s (l.flatten ++ List.replicate (392 - 56 * l.length) 0))
  keys : Blk W (w0.heap.size + 1) 23 (slotsAt w0.heap.size n s)
  kp : Kept (fun k => k = g) w0 W
  gl : g < w0.heap.size
  fl : ∀ k, F k → k < w0.heap.size
section
variable {F : Nat → Prop} {w0 W W' : World} {g n s s' : Nat} {l l' : List (List Nat)} {ys ys' : List Nat} {bad bad' : Bool}
theorem KR9.read (h : KR9 F w0 W g n l s ys bad) (hk : Kept (fun k => k = g) W W') (hr : RdF F W' g ys' bad') : KR9 F w0 W' g n l s ys' bad' := by
  have := h.gl
  exact ⟨hr, h.room.kept hk (by omega), h.keys.kept hk (by omega), h.kp.trans hk, h.gl, h.fl⟩
theorem KR9.below (h : KR9 F w0 W g n l s ys bad) (hb : Below W.heap.size W W') : KR9 F w0 W' g n l s ys bad :=
  ⟨h.rd.below hb, h.room.below hb h.room.lt, h.keys.below hb h.keys.lt, h.kp.trans (Kept.of_below hb), h.gl, h.fl⟩
theorem Kept.ahead {G : Nat → Prop} {a b : World} {w0 : World} {H : Nat → Prop} (h : Kept H w0 a) (hk : Kept G a b) (hG : ∀ k, G k → w0.heap.size ≤ k) : Kept H w0 b :=
  ⟨hk.os.trans h.os, hk.tape.trans h.tape, hk.output.trans h.output, Nat.le_trans h.size hk.size, fun k hlt hf => (hk.block k (Nat.lt_of_lt_of_le hlt h.size) (fun q => by have := hG k q; omega)).trans (h.block k hlt hf)⟩
theorem KR9.slot (h : KR9 F w0 W g n l s ys bad) (hk : Kept (fun k => k = w0.heap.size + 1) W W') (hb : Blk W' (w0.heap.size + 1) 23 (slotsAt w0.heap.size n s')) : KR9 F w0 W' g n l s' ys bad := by
  have h1 := h.gl
  exact ⟨h.rd.stays hk (by omega) (fun k hf e => by have := h.fl k hf; omega), h.room.kept hk (by omega), hb, h.kp.ahead hk (fun k e => by omega), h.gl, h.fl⟩
theorem KR9.fill (h : KR9 F w0 W g n l s ys bad) (hk : Kept (fun k => k = w0.heap.size) W W') (hb : Blk W' w0.heap.size 148 (u8s (l'.flatten ++ List.replicate (392 - 56 * l'.length) 0))) : KR9 F w0 W' g n l' s ys bad := by
  have h1 := h.gl
  exact ⟨h.rd.stays hk (by omega) (fun k hf e => by have := h.fl k hf; omega), hb, h.keys.kept hk (by omega), h.kp.ahead hk (fun k e => by omega), h.gl, h.fl⟩
end
theorem slots_set (g5 n j : Nat) (hj : j < n) : (slotsAt g5 n j).set j (.slice (some ⟨g5, j * 56, none⟩) 56 56) = slotsAt g5 n (j + 1) := by
  unfold slotsAt
  rw [List.set_append_right _ _ (by simp), show j - ((List.range j).map fun i => Value.slice (some ⟨g5, i * 56, none⟩) 56 56).length = 0 by simp, show n - j = (n - (j + 1)) + 1 by omega, List.replicate_succ, List.set_cons_zero, List.range_succ, List.map_append, List.append_assoc]
  rfl
theorem slots_get (g5 n j i : Nat) (hi : i < j) : (slotsAt g5 n j)[i]? = some (.slice (some ⟨g5, i * 56, none⟩) 56 56) := by
  unfold slotsAt
  rw [List.getElem?_append_left (by simpa using hi), List.getElem?_map, List.getElem?_range hi]
  rfl
theorem slots_nil (g5 n j : Nat) (hj : j < n) : (slotsAt g5 n j)[j]? = some (.slice none 0 0) := by
  unfold slotsAt
  rw [List.getElem?_append_right (by simp), show j - ((List.range j).map fun i => Value.slice (some ⟨g5, i * 56, none⟩) 56 56).length = 0 by simp, List.getElem?_replicate, if_pos (by omega)]
theorem kRd_succ (ys : List Nat) (bad : Bool) (j : Nat) : kRd ys bad (j + 1) = ((kRd ys bad j).1 ++ [(kSeg (kRd ys bad j).2.1 (kRd ys bad j).2.2).1], (kSeg (kRd ys bad j).2.1 (kRd ys bad j).2.2).2) := rfl
theorem room_split (l : List (List Nat)) (hl : l.length < 7) : l.flatten ++ List.replicate (392 - 56 * l.length) 0 = l.flatten ++ (List.replicate 56 0 ++ List.replicate (392 - 56 * (l.length + 1)) 0) := by
  rw [← List.replicate_append_replicate.symm]
  congr 2
  omega
set_option maxRecDepth 100000 in
set_option maxHeartbeats 2000000 in
theorem readKeys_t (F : Nat → Prop) (ys : List Nat) (bad : Bool) (g n : Nat) (w : World) (x : RdF F w g ys bad) (hF : ∀ k, F k → k < w.heap.size) (hb : Bytes ys) (hl : ys.length ≤ 1000000) (hn : n ≤ 7) :
    Calls Tryz.prog 54 #[.pointer (some ⟨g, 0, none⟩), .int .i64 (n : Int)] w fun e w' => e = .returned (.slice (some ⟨w.heap.size + 1, 0, none⟩) n n) ∧ KR9 F w w' g n (kRd ys bad n).1 n (kRd ys bad n).2.1 (kRd ys bad n).2.2 := by
  have X0 := Lib.hid x; have HF := Lib.hid hF; have HL := Lib.hid hl
  have KB := Lib.hid (fun j => kRd_bytes bad hb j)
  have MK := Lib.hid (fun W => make_keys n hn W)
  have GL := Lib.hid x.rd.lt
  clear x hF hb hl
  go_enter Tryz.func54, Tryz.ntmps54
  go_upto_region 2 with (fail)
  refine world_at (fun Y => RdF F Y g ys bad ∧ Blk Y w.heap.size 148 (u8s (List.replicate 392 0)) ∧ Below w.heap.size w Y ∧ Y.heap.size = w.heap.size + 1) (by
    have bz : Below w.heap.size w (w.alloc (.cells (u8s (List.replicate 392 0)).toArray 148)) := (Below.refl _ _).alloc (Nat.le_refl _) _
    exact ⟨X0.out.below bz, Blk.new w 148 (u8s (List.replicate 392 0)), bz, by simp⟩) ?_
  rintro Y ⟨y1, y2, y3, y4⟩
  have Y1 := Lib.hid y1; have Y2 := Lib.hid y2; have Y3 := Lib.hid y3; have Y4 := Lib.hid y4
  clear y1 y2 y3 y4 X0
  have mk := MK.out Y
  have K0 := Lib.hid (show KR9 F w (Y.alloc (.cells (List.replicate n (.slice none 0 0)).toArray 23)) g n [] 0 ys bad from by
    have bz : Below Y.heap.size Y (Y.alloc (.cells (List.replicate n (.slice none 0 0)).toArray 23)) := (Below.refl _ _).alloc (Nat.le_refl _) _
    have hb := Blk.new Y 23 (List.replicate n (Value.slice none 0 0))
    rw [Y4.out] at hb
    exact ⟨Y1.out.below bz, Y2.out.below bz Y2.out.lt, hb, Kept.of_below (Y3.out.trans (bz.mono Y3.out.size)), GL.out, HF.out⟩)
  have ey : Y.heap.size = w.heap.size + 1 := Y4.out
  clear Y1 Y2 Y3 HF GL
  go_wp2_with fail
  have K0 := Lib.hid (show KR9 F w (Y.alloc (.cells (Array.replicate n (.slice none 0 0)) 23)) g n [] 0 ys bad from by have h := K0.out; rw [List.toArray_replicate] at h; exact h)
  clear mk MK ey Y4
  go_loopw [12] (fun t wr => ∃ j : Nat, j ≤ n ∧ t = .int .i64 (j : Int) ∧ KR9 F w wr g n (kRd ys bad j).1 j (kRd ys bad j).2.1 (kRd ys bad j).2.2) (fun t _ => n - (intOf t).toNat)
  case atStart => exact ⟨0, by omega, rfl, K0.out⟩
  case round =>
    clear K0
    obtain ⟨j, hj, rfl, kr⟩ := hrel
    have K1 := Lib.hid kr
    clear kr
    by_cases hlt : j < n
    · have j1 : (j : Int) < (n : Int) := by omega
      have j0 : (0 : Int) ≤ (j : Int) := by omega
      have KT := Lib.hid (key_t w.heap.size j (by omega) wr)
      have NX := Lib.hid (kRd_succ ys bad j)
      have KBJ := Lib.hid (KB.out j)
      have KLJ := Lib.hid (kRd_len ys bad j)
      obtain ⟨⟨l, zs, b⟩, hr⟩ : ∃ r, kRd ys bad j = r := ⟨_, rfl⟩
      rw [hr] at K1 NX KBJ KLJ
      dsimp only at K1 NX KBJ KLJ
      clear hr
      have HLT := Lib.hid hlt
      have fz := K1.out.keys.frozen j
      have ct : wr.cell? ⟨w.heap.size + 1, j, none⟩ = some (.slice none 0 0) := by rw [K1.out.keys.cell]; exact slots_nil _ _ _ hlt
      have K2 := Lib.hid (K1.out.slot (s' := j + 1) (W' := wr.setCell ⟨w.heap.size + 1, j, none⟩ (.slice (some ⟨w.heap.size, j * 56, none⟩) 56 56)) (Kept.setCell (F := fun k => k = w.heap.size + 1) (Kept.refl _ _) (p := ⟨w.heap.size + 1, j, none⟩) (.inl rfl) _) (by rw [← slots_set _ _ _ hlt]; exact K1.out.keys.store j _))
      clear hlt K1
      go_wp2_with fail
      refine KT.out.mono ?_
      rintro e w1 ⟨rfl, rfl⟩
      clear KT
      go_upto_region 7 with (fail)
      clear fz ct
      obtain ⟨V, hV⟩ : ∃ V, wr.setCell ⟨w.heap.size + 1, j, none⟩ (.slice (some ⟨w.heap.size, j * 56, none⟩) 56 56) = V := ⟨_, rfl⟩
      rw [hV] at K2 ⊢
      clear hV
      obtain ⟨U, hU⟩ : ∃ U, V.drew = U := ⟨_, rfl⟩
      have K3 := Lib.hid (K2.out.below (show Below V.heap.size V U from by rw [← hU]; exact (Below.refl _ _).drew))
      have CELL := Lib.hid (fun (W : World) (m : List (List Nat)) (q : List Nat) (c : Bool) (h : KR9 F w W g n m (j + 1) q c) => show W.cell? ⟨w.heap.size + 1, j, none⟩ = some (.slice (some ⟨w.heap.size, j * 56, none⟩) 56 56) from by rw [h.keys.cell]; exact slots_get _ _ _ _ (Nat.lt_succ_self _))
      refine wp_region_held (S := fun W => W.cell? ⟨w.heap.size + 1, j, none⟩ = some (.slice (some ⟨w.heap.size, j * 56, none⟩) 56 56)) (by kernel_rfl) ?_
      change wpAnyH _ _ _ _ _ _ _ _ V.drew
      rw [hU]
      clear hU K2
      have r0 := CELL.out _ _ _ _ K3.out
      refine wpAnyH_take (i := 0) (v := ?_) rfl (by kernel_rfl) (by kernel_rfl) (by kernel_rfl) (fun _ _ _ h => h) (Or.inl ⟨by kernel_rfl, ?_⟩) r0 ?_
      rotate_left 1
      · (intro w hS; clear hS; go_simp; try (with_reducible rfl))
      refine wpAnyH_take (i := 1) (v := ?_) rfl (by kernel_rfl) (by kernel_rfl) (by kernel_rfl) (fun _ _ _ h => h) (Or.inl ⟨by kernel_rfl, ?_⟩) r0 ?_
      rotate_left 1
      · (intro w hS; clear hS; go_simp; try (with_reducible rfl))
      refine wpAnyH_take (i := 2) (v := ?_) rfl (by kernel_rfl) (by kernel_rfl) (by kernel_rfl) (fun _ _ _ h => h) (Or.inl ⟨by kernel_rfl, ?_⟩) r0 ?_
      rotate_left 1
      · (intro w hS; clear hS; go_simp; try (with_reducible rfl))
      refine wpAnyH_take (i := 3) (v := ?_) rfl (by kernel_rfl) (by kernel_rfl) (by kernel_rfl) (fun _ _ _ h => h) (Or.inl ⟨by kernel_rfl, ?_⟩) r0 ?_
      rotate_left 1
      · (intro w hS; have hs := hS; clear hS; go_simp; try (with_reducible rfl))
      refine wpAnyH_take (i := 4) (v := ?_) rfl (by kernel_rfl) (by kernel_rfl) (by kernel_rfl) (fun _ _ _ h => h) (Or.inl ⟨by kernel_rfl, ?_⟩) r0 ?_
      rotate_left 1
      · (intro w hS; clear hS; go_simp; try (with_reducible rfl))
      have j7 : l.length = j := KLJ.out.1
      have HRS := Lib.hid (show u8s (l.flatten ++ List.replicate (392 - 56 * l.length) 0) = u8s l.flatten ++ (u8s (List.replicate 56 0) ++ u8s (List.replicate (392 - 56 * (l.length + 1)) 0)) from by
        rw [room_split l (by omega), u8s_app, u8s_app])
      have HOF := Lib.hid (show j * 56 = (u8s l.flatten).length from by rw [u8s_length, flat56 KLJ.out.2, j7]; omega)
      by_cases h56 : 56 ≤ zs.length
      · have RT := Lib.hid (raw_F F g zs b 56 U K3.out.rd h56 (by have := KBJ.out.2.2; have := HL.out; omega))
        have NX2 := Lib.hid (show kRd ys bad (j + 1) = (l ++ [zs.take 56], zs.drop 56, b) from by rw [NX.out, show kSeg zs b = (zs.take 56, zs.drop 56, b) from if_pos h56])
        have T56 := Lib.hid (show (zs.take 56).length = 56 by rw [List.length_take]; omega)
        clear h56 NX
        refine wpAnyH_ready (rs := [5]) (by kernel_rfl) (by simp) ?_
        refine AllReadyH.cons rfl (fun K hK => ?_) AllReadyH.nil
        rw [if_pos (by kernel_rfl)]
        go_simp
        refine RT.out.mono ?_
        rintro e w5 ⟨v, rfl, o5, x5, k5⟩
        obtain ⟨A, c, rfl, _⟩ := own_form o5
        have S5 := Lib.hid (Sr.of_own (xs := zs.take 56) o5)
        have K4 := Lib.hid (K3.out.read k5 x5)
        have r1 := CELL.out _ _ _ _ K4.out
        refine hK.out _ _ r1 (fun hz => ?_)
        clear hK K hz RT o5 x5 k5 K3
        refine wpAnyH_ready (rs := [6]) (by kernel_rfl) (by simp) ?_
        refine AllReadyH.cons rfl (fun K hK => ?_) AllReadyH.nil
        rw [if_pos (by kernel_rfl)]
        refine wcopy_part (.tmp 23) (.tmp 25) 23 23 5 w.heap.size (j * 56) 56 56 56 c 56 (some ⟨w.heap.size, j * 56, none⟩) A 148 (u8s l.flatten) (u8s (List.replicate 56 0)) (u8s (List.replicate (392 - 56 * (l.length + 1)) 0)) (u8s (zs.take 56)) rfl Tryz.underlying23 byte_size (by rw [← HRS.out]; exact K4.out.room) HOF.out (by rw [u8s_length, u8s_length, T56.out, List.length_replicate]) (by rw [u8s_length, T56.out]; rfl) (by go_simp) (by go_simp) (fun _ => ⟨rfl, by
          obtain ⟨ad, ha, hc⟩ := S5.out.cells (by rw [T56.out]; decide)
          exact ⟨ad, ha, hc⟩⟩) (u8s_each _) (by rw [u8s_length, T56.out]) ?_
        intro wz a1 a2 a3
        have K5 := Lib.hid (K4.out.fill (l' := l ++ [zs.take 56]) (a2.out.keptOneS rfl) (by
          have h := a1.out
          rw [← u8s_app, ← u8s_app, ← List.append_assoc] at h
          rw [List.flatten_append, List.length_append]
          simpa using h))
        have r2 := CELL.out _ _ _ _ K5.out
        refine hK.out _ _ r2 (fun hz => ?_)
        clear hK K hz a1 a2 a3 S5 K4
        refine wpAnyH_done (by kernel_rfl) ?_ _
        go_simp
        clear r0 r1 r2
        go_wp2_with fail
        go_roundw
        case rel => exact ⟨j + 1, HLT.out, by go_num, by rw [NX2.out]; exact K5.out⟩
        case measure => have := HLT.out; simp [intOf]; omega
      · have RT := Lib.hid (raw_bad g zs b 56 U K3.out.rd.rd (.inr (by omega)))
        have NX2 := Lib.hid (show kRd ys bad (j + 1) = (l ++ [List.replicate 56 0], [], true) from by rw [NX.out, show kSeg zs b = (List.replicate 56 0, [], true) from if_neg h56])
        clear h56 NX
        refine wpAnyH_ready (rs := [5]) (by kernel_rfl) (by simp) ?_
        refine AllReadyH.cons rfl (fun K hK => ?_) AllReadyH.nil
        rw [if_pos (by kernel_rfl)]
        go_simp
        refine RT.out.mono ?_
        rintro e w5 ⟨v, rfl, o5, x5, k5⟩
        obtain ⟨A, c, rfl, _⟩ := own_form o5
        have K4 := Lib.hid (K3.out.read k5 (RdF.nil x5))
        have r1 := CELL.out _ _ _ _ K4.out
        refine hK.out _ _ r1 (fun hz => ?_)
        clear hK K hz RT o5 x5 k5 K3
        refine wpAnyH_ready (rs := [6]) (by kernel_rfl) (by simp) ?_
        refine AllReadyH.cons rfl (fun K hK => ?_) AllReadyH.nil
        rw [if_pos (by kernel_rfl)]
        refine wcopy_part (.tmp 23) (.tmp 25) 23 23 5 w.heap.size (j * 56) 56 56 0 c 0 (some ⟨w.heap.size, j * 56, none⟩) A 148 (u8s l.flatten) [] (u8s (List.replicate 56 0) ++ u8s (List.replicate (392 - 56 * (l.length + 1)) 0)) [] rfl Tryz.underlying23 byte_size (by rw [List.nil_append, ← HRS.out]; exact K4.out.room) HOF.out rfl rfl (by go_simp) (by go_simp) (fun h => absurd h (by decide)) (fun v hv => by cases hv) rfl ?_
        intro wz a1 a2 a3
        have K5 := Lib.hid (K4.out.fill (l' := l ++ [List.replicate 56 0]) (a2.out.keptOneS rfl) (by
          have h := a1.out
          rw [List.nil_append, ← u8s_app, ← u8s_app, ← List.append_assoc] at h
          rw [List.flatten_append, List.length_append]
          simpa using h))
        have r2 := CELL.out _ _ _ _ K5.out
        refine hK.out _ _ r2 (fun hz => ?_)
        clear hK K hz a1 a2 a3 K4
        refine wpAnyH_done (by kernel_rfl) ?_ _
        go_simp
        clear r0 r1 r2
        go_wp2_with fail
        go_roundw
        case rel => exact ⟨j + 1, HLT.out, by go_num, by rw [NX2.out]; exact K5.out⟩
        case measure => have := HLT.out; simp [intOf]; omega
    · obtain rfl : j = n := by omega
      clear hlt
      go_wp2_with fail
      go_ret
      exact ⟨rfl, K1.out⟩
end Go.Proofs.YtlipjglehongeaaGreatDoor
