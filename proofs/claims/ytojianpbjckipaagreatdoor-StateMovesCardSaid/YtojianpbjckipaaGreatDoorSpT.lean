/-
  PACKAGE space: answer.
-/
import Derived.Test.YtojianpbjckipaaGreatDoorSpR
import Derived.Test.YtojianpbjckipaaGreatDoorSpN
namespace Go.Proofs.YtojianpbjckipaaGreatDoor
open Go Go.RowKit Sh

theorem act_cases {s : Sp} {r : Qp} {P : Sp × Rp × Bool → Prop} (h6 : P (s, tellP r 6, false)) (hb : P (s, bringP s r)) (h3 : P (s, tellP r 3, false)) (hr : ∀ o, P (replP s r o)) (h1 : P (s, tellP r 1, false)) (hl : ∀ o, P ((lookP s r o).1, (lookP s r o).2, false)) : P (actP s r) := by
  cases ha : allowP s r with
  | false =>
    unfold actP
    rw [if_pos ha]
    exact h6
  | true =>
    rw [actP_o ha]
    split
    · exact hb
    · split
      · cases fnd r.p s.its
        · exact hb
        · exact h3
      · split
        · exact hr _
        · split
          · exact h1
          · exact hl _
theorem act_cl (s : Sp) (r : Qp) : (actP s r).2.1.cl = r.cl := by
  refine act_cases (P := fun a => a.2.1.cl = r.cl) rfl ?_ rfl (fun o => ?_) rfl (fun o => ?_)
  · show (bringP s r).1.cl = r.cl
    unfold bringP
    split <;> rfl
  · cases o with
    | none => rfl
    | some k =>
      unfold replP
      dsimp only
      split <;> rfl
  · cases o with
    | none =>
      show (lookP s r none).2.cl = r.cl
      unfold lookP
      dsimp only
      split
      · rfl
      · split <;> rfl
    | some k =>
      show (lookP s r (some k)).2.cl = r.cl
      unfold lookP
      dsimp only
      split <;> rfl
theorem act_row (s : Sp) (r : Qp) : (actP s r).2.1.t = [] ∨ ∃ k, (actP s r).2.1.t = (s.its.getD k i0).t := by
  refine act_cases (P := fun a => a.2.1.t = [] ∨ ∃ k, a.2.1.t = (s.its.getD k i0).t) (.inl rfl) (.inl ?_) (.inl rfl) (fun o => ?_) (.inl rfl) (fun o => ?_)
  · exact bring_nil s r
  · cases o with
    | none => exact .inl rfl
    | some k =>
      unfold replP
      dsimp only
      split
      · exact .inl rfl
      · exact .inr ⟨k, rfl⟩
  · cases o with
    | none =>
      refine .inl ?_
      show (lookP s r none).2.t = []
      unfold lookP
      dsimp only
      split
      · rfl
      · split <;> rfl
    | some k =>
      refine .inr ⟨k, ?_⟩
      show (lookP s r (some k)).2.t = _
      unfold lookP
      dsimp only
      split <;> rfl
theorem act_puts {s : Sp} {r : Qp} : (actP s r).2.2 = true → (actP s r).1 = s ∨ ∃ k, (actP s r).1 = { s with its := s.its.eraseIdx k } := by
  refine act_cases (P := fun a => a.2.2 = true → a.1 = s ∨ ∃ k, a.1 = { s with its := s.its.eraseIdx k }) (fun _ => .inl rfl) (fun _ => .inl rfl) (fun _ => .inl rfl) (fun o h => ?_) (fun _ => .inl rfl) (fun o h => by cases h)
  cases o with
  | none => exact .inl rfl
  | some k =>
    unfold replP at h ⊢
    dsimp only at h ⊢
    split
    · exact .inl rfl
    · exact .inr ⟨k, rfl⟩
theorem act_look {s : Sp} {r : Qp} (h : r.kd = 2) : (actP s r).2.2 = false := by
  cases ha : allowP s r with
  | false =>
    unfold actP
    rw [if_pos ha]
  | true =>
    rw [actP_o ha, h]
    rfl
theorem small_row {s : Sp} (hs : Small s) (k : Nat) : (s.its.getD k i0).t.length ≤ 1000 := by
  rw [List.getD_eq_getElem?_getD]
  cases hk : s.its[k]? with
  | none => exact Nat.zero_le _
  | some y => exact hs.it y (List.mem_of_getElem? hk)
theorem act_small {s : Sp} {r : Qp} (hs : Small s) (h : (actP s r).2.2 = true) : Small (noteP (actP s r).1 (actP s r).2.1) := by
  have hl : (actP s r).2.1.t.length ≤ 1000 := by
    rcases act_row s r with e | ⟨k, e⟩
    · rw [e]; exact Nat.zero_le _
    · rw [e]; exact small_row hs k
  have hn : ∀ (l : List Rp) (c : Nat), (∀ y ∈ l, y.t.length ≤ 1000) → ∀ y ∈ l.set c (actP s r).2.1, y.t.length ≤ 1000 := fun l c hh y hy => by
    rcases List.mem_or_eq_of_mem_set hy with e | e
    · exact hh y e
    · rw [e]; exact hl
  rcases act_puts h with e | ⟨k, e⟩
  · rw [e]
    exact ⟨hs.n, hs.it, hs.m, hs.wt, hn _ _ hs.la⟩
  · rw [e]
    refine ⟨Nat.le_trans (List.length_eraseIdx_le ..) hs.n, fun y hy => hs.it y (List.mem_of_mem_eraseIdx hy), hs.m, hs.wt, hn _ _ hs.la⟩
/-- A row of replies grows: a space stays. -/
theorem SM.grown {wB W W' : World} {g B n : Nat} {x : Spv} {v : Value} {xs : List Value} (h : SM wB W g x) (ho : W.ownsRow B 26 5 v n xs) (hB : wB.heap.size ≤ B) (hg : W.grownBy W' v.ownBlock) : SM wB W' g x :=
  ⟨own_grown_blk ho hg h.box (by decide), h.ge, h.bel.grown hg h.bel.size (fun k e => Nat.le_trans hB (ho.lt k e).1),
    ⟨own_grown h.sf.its ho hg (by decide), fun y hy => own_grown (h.sf.it y hy) ho hg (by decide), own_grown h.sf.wts ho hg (by decide), fun y hy => own_grown (h.sf.wt y hy) ho hg (by decide), h.sf.l4, fun y hy => own_grown (h.sf.la y hy) ho hg (by decide)⟩⟩
theorem Mv.grown {g : Nat} {x x' : Spv} {W0 W W' : World} {row : Option Nat} (m : Mv g x x' W0 W) (hg : W.grownBy W' row) (hb : ∀ k, row = some k → W0.heap.size ≤ k) : Mv g x x' W0 W' := ⟨m.kept.grown hg (fun k e => .inr (hb k e)), m.grow⟩
theorem own_lit1 (w : World) (y : Rpv) : (w.alloc (.cells (pv y).toArray 26)).ownsRow w.heap.size 26 5 (.slice (some ⟨w.heap.size, 0, none⟩) 1 1) 1 ([y].flatMap pv) := by
  have h := World.ownsRow_lit (e := 26) (size := 5) (base := w.heap.size) w (pv y).toArray 1 (Nat.le_refl _) (by decide) rfl
  rw [show ([y].flatMap pv) = (pv y).toArray.toList from by simp]
  exact h
set_option maxRecDepth 100000 in
set_option maxHeartbeats 4000000 in
theorem answer_t (wB : World) (g : Nat) (x : Spv) (r : Rv) (W : World) (h : SM wB W g x) (hs : Small x.sp) (hcl : ∀ y ∈ x.sp.wts, clB y.cl = true) (hr : RvW wB r) (hn : r.r.n ≤ 1000) (hm : r.r.m ≤ 1000) (hc : r.r.cl = 0 ∨ r.r.cl = 1 ∨ r.r.cl = 2 ∨ r.r.cl = 3) (hu : UT wB) (hw : IntKind.i64.wrap (x.now + r.r.le) = x.now + r.r.le) :
    Calls Tryz.prog 64 #[.pointer (some ⟨g, 0, none⟩), .agg (rv r).toArray] W fun e W' => ∃ (x' : Spv) (R : List Rpv) (q : Option Addr) (c : Nat), e = .returned (.slice q R.length c) ∧ SM wB W' g x' ∧ Mv g x x' W W' ∧ x'.sp = (answP x.sp (qp r.r)).1 ∧ R.map (·.r) = (answP x.sp (qp r.r)).2 ∧ W'.ownsRow W.heap.size 26 5 (.slice q R.length c) R.length (R.flatMap pv) ∧ (∀ y ∈ R, FT W' wB.heap.size y.p y.c y.r.t) ∧ (r.r.kd = 2 → ∀ y ∈ R, AP y x') := by
  obtain ⟨V, hV⟩ : ∃ V, W.alloc (.cells (rv r).toArray 51) = V := ⟨_, rfl⟩
  have B0 := Lib.hid (show Below W.heap.size W V from by rw [← hV]; exact (Below.refl _ _).alloc (Nat.le_refl _) _)
  have BR := Lib.hid (show Blk V W.heap.size 51 (rv r) from by rw [← hV]; exact Blk.new W 51 (rv r))
  have HG := Lib.hid h.box.lt
  have AC := Lib.hid (act_t wB g x r V (h.below B0.out) hs hr hn hc hu)
  have HA1 := Lib.hid (act_cl x.sp (qp r.r))
  have HA2 := Lib.hid (show (actP x.sp (qp r.r)).2.1.t.length ≤ 1000 from by
    rcases act_row x.sp (qp r.r) with e | ⟨k, e⟩
    · rw [e]; exact Nat.zero_le _
    · rw [e]; exact small_row hs k)
  have HA3 := Lib.hid (fun (e : (actP x.sp (qp r.r)).2.2 = true) => act_small hs e)
  have HA4 := Lib.hid (fun (e : (actP x.sp (qp r.r)).2.2 = true) => show (actP x.sp (qp r.r)).1.now = x.sp.now ∧ (actP x.sp (qp r.r)).1.wts = x.sp.wts from by
    rcases act_puts e with e' | ⟨k, e'⟩ <;> (rw [e']; exact ⟨rfl, rfl⟩))
  have HA5 := Lib.hid (fun (e : r.r.kd = 2) => act_look (s := x.sp) (r := qp r.r) e)
  have hP1 : (actP x.sp (qp r.r)).2.2 = false → answP x.sp (qp r.r) = (noteP (actP x.sp (qp r.r)).1 (actP x.sp (qp r.r)).2.1, [(actP x.sp (qp r.r)).2.1]) := fun e => by
    unfold answP
    dsimp only
    rw [e]
    rfl
  have hP2 : (actP x.sp (qp r.r)).2.2 = true → answP x.sp (qp r.r) = ((putP (noteP (actP x.sp (qp r.r)).1 (actP x.sp (qp r.r)).2.1) (qp r.r)).1, (actP x.sp (qp r.r)).2.1 :: (putP (noteP (actP x.sp (qp r.r)).1 (actP x.sp (qp r.r)).2.1) (qp r.r)).2) := fun e => by
    unfold answP
    dsimp only
    rw [e]
    rfl
  have HP1 := Lib.hid hP1; have HP2 := Lib.hid hP2
  obtain ⟨a, ha⟩ : ∃ a, actP x.sp (qp r.r) = a := ⟨_, rfl⟩
  rw [ha] at AC HA1 HA2 HA3 HA4 HA5 HP1 HP2
  obtain ⟨s1, y1, bp⟩ := a
  dsimp only at AC HA1 HA2 HA3 HA4 HA5 HP1 HP2
  obtain ⟨c, hcc, h4⟩ : ∃ c : Nat, r.r.cl = (c : Int) ∧ c < 4 := by
    rcases hc with e | e | e | e
    · exact ⟨0, e, by omega⟩
    · exact ⟨1, e, by omega⟩
    · exact ⟨2, e, by omega⟩
    · exact ⟨3, e, by omega⟩
  have HCC := Lib.hid hcc
  have HM := Lib.hid h; have HR := Lib.hid hr; have HW := Lib.hid hw; have HCL := Lib.hid hcl
  have FR := Lib.hid (rv_size r)
  clear h hs hcl hr hn hc hu hw ha hP1 hP2 hcc
  go_enter Tryz.func64, Tryz.ntmps64
  go_upto_region 1 with (fail)
  clear hV
  go_wp2_with ((with_reducible refine load_blk 51 (.tmp 3) W.heap.size 51 (rv r) _ rfl rfl ?_ Tryz.underlying51 ?_ ?_ ?_ ?_); exact BR.out; exact rfl; exact FR.out; exact rfl)
  refine AC.out.mono ?_
  rintro e w1 ⟨x1, y, rfl, m1, v1, e1, ey, f1, ap1⟩
  have M1 := Lib.hid m1; have V1 := Lib.hid ((Mv.of_below B0.out).trans v1); have F1 := Lib.hid f1; have AP1 := Lib.hid ap1; have E1 := Lib.hid e1; have EY := Lib.hid ey
  have BR1 := Lib.hid (v1.blk (HM.out.below B0.out) BR.out (by decide) (by decide) (by have := HG.out; omega))
  have HW1 := Lib.hid (show W.heap.size ≤ w1.heap.size from V1.out.size)
  clear m1 v1 f1 ap1 e1 ey AC BR
  have FS := Lib.hid (pv_size y); have FA := Lib.hid (pv_oneA y)
  have A0 := Lib.hid (Blk.new w1 26 [.int .i64 0, .int .i64 0, .int .i64 0, .slice none 0 0, .bool false])
  have A1 := Lib.hid (A0.out.setRow (pv y))
  have W1 := Lib.hid (below_setRow ((Below.refl w1.heap.size w1).alloc (Nat.le_refl _) (.cells #[.int .i64 0, .int .i64 0, .int .i64 0, .slice none 0 0, .bool false] 26)) (Nat.le_refl _) (pv y).toArray)
  go_upto_region 2 with ((with_reducible refine store_blk 26 (.tmp 5) (.tmp 12) w1.heap.size 26 [.int .i64 0, .int .i64 0, .int .i64 0, .slice none 0 0, .bool false] (pv y) rfl rfl ?_ ?_ ?_ ?_ ?_ ?_ ?_); exact A0.out; exact rfl; exact FS.out; exact FA.out; exact rfl; exact rfl)
  obtain ⟨V2, hV2⟩ : ∃ V, (w1.alloc (.cells #[.int .i64 0, .int .i64 0, .int .i64 0, .slice none 0 0, .bool false] 26)).setRow w1.heap.size (pv y).toArray = V := ⟨_, rfl⟩
  rw [hV2] at A1 W1 ⊢
  have M2 := Lib.hid (M1.out.below W1.out)
  have V2' := Lib.hid (V1.out.trans (Mv.of_below (x := x1) (g := g) W1.out))
  have F2 := Lib.hid (F1.out.below W1.out)
  have BR2 := Lib.hid (BR1.out.below W1.out BR1.out.lt)
  have hyc : y.r.cl = (c : Int) := by rw [EY.out, HA1.out]; exact HCC.out
  have NT := Lib.hid (note2_t wB g c x1 y V2 M2.out hyc h4 (F2.out.tr (by rw [EY.out]; have := HA2.out; omega)) (by rw [EY.out]; exact HA2.out))
  clear hV2 A0 W1 M1 V1 F1 BR1 hyc
  go_wp2_with ((with_reducible refine load_blk 26 (.tmp 5) w1.heap.size 26 (pv y) _ rfl rfl ?_ Tryz.underlying26 ?_ ?_ ?_ ?_); exact A1.out; exact rfl; exact FS.out; exact rfl)
  refine NT.out.mono ?_
  rintro e w3 ⟨rfl, x2, m3, v3, s3, i3⟩
  have M3 := Lib.hid m3; have V3 := Lib.hid (V2'.out.trans v3); have I3 := Lib.hid i3
  have S3 := Lib.hid (show x2.sp = noteP s1 y1 from by rw [s3, E1.out, EY.out])
  have F3 := Lib.hid (v3.ft M2.out F2.out)
  have A3 := Lib.hid (v3.blk M2.out A1.out (by decide) (by decide) (by have := HG.out; have := HW1.out; omega))
  have BR3 := Lib.hid (v3.blk M2.out BR2.out (by decide) (by decide) (by have := HG.out; omega))
  have HW3 := Lib.hid (show W.heap.size ≤ w3.heap.size from V3.out.size)
  clear m3 v3 s3 i3 NT M2 V2' F2 A1 BR2
  have BA := Lib.hid ((Below.refl w3.heap.size w3).alloc (Nat.le_refl _) (.cells (pv y).toArray 26))
  have M4 := Lib.hid (M3.out.below BA.out)
  have V4 := Lib.hid (V3.out.trans (Mv.of_below (x := x2) (g := g) BA.out))
  have F4 := Lib.hid (F3.out.below BA.out)
  have BR4 := Lib.hid (BR3.out.below BA.out BR3.out.lt)
  have OW := Lib.hid (own_lit1 w3 y)
  cases bp with
  | false =>
    have HQ := Lib.hid (HP1.out rfl)
    go_wp2_with (first
      | ((with_reducible refine load_blk 26 (.tmp 5) w1.heap.size 26 (pv y) _ rfl rfl ?_ Tryz.underlying26 ?_ ?_ ?_ ?_); exact A3.out; exact rfl; exact FS.out; exact rfl)
      | ((with_reducible refine at_op (.buildSlice 54 1 #[(0, .tmp 17)]) rfl ?_); go_must (refine build1 54 26 (.tmp 17) rfl rfl (pv y) rfl (build_pv y _) ?_)))
    go_ret
    exact ⟨x2, [y], some ⟨w3.heap.size, 0, none⟩, 1, rfl, M4.out, V4.out, (by rw [HQ.out]; exact S3.out), (by rw [HQ.out]; exact congrArg (fun z => [z]) EY.out), own_base OW.out (fun k hk => Nat.le_trans HW3.out (OW.out.lt k hk).1), (fun z hz => by rw [List.mem_singleton.1 hz]; exact F4.out), (fun e z hz => by rw [List.mem_singleton.1 hz]; intro t ht; rw [I3.out] at ht; exact AP1.out e t ht)⟩
  | true =>
    have HQ := Lib.hid (HP2.out rfl)
    have h4' := HA4.out rfl
    have PT := Lib.hid (put_t wB g x2 r (w3.alloc (.cells (pv y).toArray 26)) M4.out (by rw [S3.out]; exact HA3.out rfl) (by rw [S3.out]; show ∀ y ∈ s1.wts, _; rw [h4'.2]; exact HCL.out) HR.out hm (by
      have e : x2.now = x.now := by
        have := congrArg Sp.now S3.out
        exact this.trans h4'.1
      rw [e]
      exact HW.out))
    have HLW := Lib.hid (show x2.sp.wts.length ≤ 1000 from by rw [S3.out]; exact (HA3.out rfl).m)
    clear h4'
    go_wp2_with (first
      | ((with_reducible refine load_blk 26 (.tmp 5) w1.heap.size 26 (pv y) _ rfl rfl ?_ Tryz.underlying26 ?_ ?_ ?_ ?_); exact A3.out; exact rfl; exact FS.out; exact rfl)
      | ((with_reducible refine at_op (.buildSlice 54 1 #[(0, .tmp 17)]) rfl ?_); go_must (refine build1 54 26 (.tmp 17) rfl rfl (pv y) rfl (build_pv y _) ?_))
      | ((with_reducible refine load_blk 51 (.tmp 3) W.heap.size 51 (rv r) _ rfl rfl ?_ Tryz.underlying51 ?_ ?_ ?_ ?_); exact BR4.out; exact rfl; exact FR.out; exact rfl))
    refine PT.out.mono ?_
    rintro e w4 ⟨x3, R, q, c', rfl, m4, v4, s4, r4, o4, t4⟩
    have OW4 := Lib.hid (v4.row M4.out OW.out (by decide) (by decide) (by decide))
    have F5 := Lib.hid (v4.ft M4.out F4.out)
    have V5 := Lib.hid (V4.out.trans v4)
    have M5 := Lib.hid m4; have S4 := Lib.hid s4; have R4 := Lib.hid r4; have T4 := Lib.hid t4
    have RL := Lib.hid (RowL.of_own pv_len rfl o4)
    have HB4 := Lib.hid (show w3.heap.size ≤ w4.heap.size from Nat.le_trans BA.out.size v4.size)
    have LR := Lib.hid (show 1 + R.length ≤ 1000000 from by
      have h1 := (wake_le (qp r.r).t x2.sp.wts).1
      have h0 := congrArg List.length R4.out
      rw [List.length_map] at h0
      have h2 : R.length = (wakeP (qp r.r).t x2.sp.wts).2.1.length := h0
      have := HLW.out
      omega)
    clear m4 v4 s4 r4 o4 t4 PT M4 V4 F4 OW BR4
    go_wp2_with ((with_reducible refine at_op (.call { callee := .builtin .append, args := #[.tmp 20, .tmp 23], argTypes := #[54, 54] }) rfl ?_); go_must (refine append_rows (.tmp 20) (.tmp 23) 54 rfl rfl 26 Tryz.underlying54 infoP rfl (by decide) (by decide) pv_len pv_one w3.heap.size (.slice (some ⟨w3.heap.size, 0, none⟩) 1 1) 1 ([y].flatMap pv) rfl OW4.out q R.length c' rfl R rfl RL.out LR.out HB4.out ?_); intro v1 w5 h2 h3 h5 h6)
    obtain ⟨q5, c5, hv, _⟩ := own_form h2.out
    subst hv
    go_ret
    have hl : 1 + R.length = (y :: R).length := by rw [List.length_cons]; omega
    have h2' := h2.out
    rw [hl] at h2'
    have hB : wB.heap.size ≤ w3.heap.size := M3.out.bel.size
    exact ⟨x3, y :: R, q5, c5, (by rw [← hl]; rfl), M5.out.grown OW4.out hB h3.out, V5.out.grown h3.out (fun k e => Nat.le_trans HW3.out (OW4.out.lt k e).1), (by rw [HQ.out, S4.out, S3.out]), (by rw [HQ.out, List.map_cons, R4.out, EY.out, S3.out]), own_base h2' (fun k hk => Nat.le_trans HW3.out (h2'.lt k hk).1), (fun z hz => by
      rcases List.mem_cons.1 hz with rfl | hz
      · exact own_grown F5.out OW4.out h3.out (by decide)
      · exact (show FT w5 _ z.p z.c z.r.t from own_grown (T4.out z hz) OW4.out h3.out (by decide)).low (Nat.le_trans hB BA.out.size)), (fun e => absurd (HA5.out e) (by decide))⟩
end Go.Proofs.YtojianpbjckipaaGreatDoor
