/-
  PACKAGE space: look.
-/
import Derived.Test.YtojianpbjckipaaGreatDoorSpO
import Derived.Test.YtojianpbjckipaaGreatDoorSpM
namespace Go.Proofs.YtojianpbjckipaaGreatDoor
open Go Go.RowKit Sh

/-- A reply's row and the items' rows lie apart. -/
def AP (y : Rpv) (x : Spv) : Prop := ∀ z ∈ x.its, ∀ k, OB y.p k → ¬ OB z.p k
theorem built_wait (a b : Int) (k : Bool) (t : List Fld) (q : Option Addr) (d : Nat) : Tryz.prog.built 64 [(0, .int .i64 a), (1, .int .i64 b), (2, .bool k), (3, .slice q t.length d)] = some (wv ⟨⟨a, b, k, t⟩, q, d⟩).toArray := by kernel_rfl
theorem ob_own' {q : Option Addr} {n c k : Nat} (h : Value.ownBlock (.slice q n c) = some k) : OB q k := by
  cases q with
  | none => cases h
  | some a => exact ⟨a, rfl, by simpa [Value.ownBlock] using h⟩
/-- The waiters' row was worked on, then its head is written. -/
theorem SM.waits {wB W W1 : World} {g : Nat} {x : Spv} (h : SM wB W g x) (l : List Wtv) (q : Option Addr) (c : Nat) (hk : Kept (OB x.wp) W W1) (hq : ∀ k, OB q k → OB x.wp k ∨ W.heap.size ≤ k) (ho : W1.ownsRow wB.heap.size 64 4 (.slice q l.length c) l.length (l.flatMap wv)) (ht : ∀ y ∈ l, FT W1 wB.heap.size y.p y.c y.x.p) :
    SM wB (W1.setCell ⟨g, 2, none⟩ (.slice q l.length c)) g { x with wts := l, wp := q, wc := c } ∧ Mv g x { x with wts := l, wp := q, wc := c } W (W1.setCell ⟨g, 2, none⟩ (.slice q l.length c)) := by
  have hb : Blk W1 g 29 (sv x) := h.box.kept hk h.apartW
  have kF : ∀ {p c l}, FT W wB.heap.size p c l → FT W1 wB.heap.size p c l := fun hf => own_kept hf hk (fun k hk' e => own_two h.sf.wts hf (by decide) e.own hk')
  have hs : SF wB.heap.size W1 { x with wts := l, wp := q, wc := c } :=
    ⟨own_kept h.sf.its hk (fun k hk' e => own_two h.sf.wts h.sf.its (by decide) e.own hk'), fun y hy => kF (h.sf.it y hy), ho, ht, h.sf.l4, fun y hy => kF (h.sf.la y hy)⟩
  have hbel : Below wB.heap.size wB W1 := by
    refine h.bel.trans ⟨hk.os, hk.tape, hk.output, hk.size, fun k hlt => hk.block k (Nat.lt_of_lt_of_le hlt h.bel.size) fun e => ?_⟩
    have := (h.sf.wts.lt k e.own).1
    omega
  refine ⟨⟨hb.store 2 _, h.ge, hbel.setCell (p := ⟨g, 2, none⟩) h.ge _, hs.set (i := 2) hb _⟩, ⟨(hk.mono fun k e => .inr (.inr e)).trans ((Kept.refl (FF x g) W1).setCell (p := ⟨g, 2, none⟩) (.inl (.inl rfl)) _), fun k e => ?_⟩⟩
  rcases e with e | e | e
  · exact .inl (.inl e)
  · exact .inl (.inr (.inl e))
  · rcases hq k e with e' | e'
    · exact .inl (.inr (.inr e'))
    · exact .inr e'
theorem tr_flQ {w : World} {p : Option Addr} {n : Nat} {G : Nat → Fld} (h : Rw w p n G) (hn : n ≤ 9223372036854775807) : TR w p (fl n G) := by
  refine ⟨?_, by rw [fl_length]; exact hn⟩
  rw [fl_length]
  exact h.congr fun j hj => (gl_fl hj).symm
set_option maxRecDepth 100000 in
set_option maxHeartbeats 4000000 in
/-- There is one. -/
theorem lookS_t (wB : World) (g : Nat) (x : Spv) (r : Rv) (k : Nat) (y : Itv) (W : World) (h : SM wB W g x) (hs : Small x.sp) (hy : x.its[k]? = some y) :
    Calls Tryz.prog 136 #[.pointer (some ⟨g, 0, none⟩), .agg (rv r).toArray, .int .i64 (k : Int)] W fun e W' => ∃ (x' : Spv) (y : Rpv), e = .returned (.agg (pv y).toArray) ∧ SM wB W' g x' ∧ Mv g x x' W W' ∧ x'.sp = (lookP x.sp (qp r.r) (some k)).1 ∧ y.r = (lookP x.sp (qp r.r) (some k)).2 ∧ FT W' wB.heap.size y.p y.c y.r.t ∧ (r.r.kd = 2 → AP y x') := by
  obtain ⟨V, hV⟩ : ∃ V, (W.alloc (.cells (rv r).toArray 51)).alloc (.cells #[.int .i64 0, .int .i64 0, .int .i64 0, .slice none 0 0, .bool false] 26) = V := ⟨_, rfl⟩
  have B0 := Lib.hid (show Below W.heap.size W V from by rw [← hV]; exact ((Below.refl _ _).alloc (Nat.le_refl _) _).alloc (by simp) _)
  have BR := Lib.hid (show Blk V W.heap.size 51 (rv r) from by rw [← hV]; exact (Blk.new W 51 (rv r)).alloc _)
  have BZ := Lib.hid (show Blk V (W.heap.size + 1) 26 [.int .i64 0, .int .i64 0, .int .i64 0, .slice none 0 0, .bool false] from by rw [← hV]; exact Blk.new2 W _ _ _)
  have HG := Lib.hid h.box.lt
  have HB := Lib.hid h.bel.size
  have M := Lib.hid h
  have d2 := (rv_cells BR.out).2.2.1
  have hk : k < x.its.length := (List.getElem?_eq_some_iff.1 hy).1
  have hn : x.its.length ≤ 1000 := by have := hs.n; rwa [show x.sp.its = x.its.map (·.i) from rfl, List.length_map] at this
  have hys : x.sp.its[k]? = some y.i := by show (x.its.map (·.i))[k]? = _; rw [List.getElem?_map, hy]; rfl
  have hgd : (x.sp.its.getD k i0).t = y.i.t := by rw [List.getD_eq_getElem?_getD, hys]; rfl
  have hyl : y.i.t.length ≤ 1000 := hs.it y.i (List.mem_of_getElem? hys)
  have hP : lookP x.sp (qp r.r) (some k) = if r.r.kd = 3 ∨ r.r.kd = 5 then ({ x.sp with its := x.sp.its.eraseIdx k }, giveP (qp r.r) y.i.t) else (x.sp, giveP (qp r.r) y.i.t) := by
    unfold lookP
    dsimp only
    rw [hgd]
    rfl
  have HY := Lib.hid hy; have HN := Lib.hid hn
  have k0 : (0 : Int) ≤ (k : Int) := by omega
  by_cases h3 : r.r.kd = 3
  · rw [if_pos (.inl h3)] at hP
    have HQ := Lib.hid hP
    rw [h3] at d2
    clear h hs hy hk hn hys hgd hyl hP
    go_enter Tryz.func136, Tryz.ntmps136
    go_upto_region 1 with (fail)
    clear hV
    go_upto_region 3 with (fail)
    obtain ⟨U4, hU4⟩ : ∃ U, (V).drew = U := ⟨_, rfl⟩
    have BU4 : Below (V).heap.size V U4 := by rw [← hU4]; exact (Below.refl _ _).drew
    have R4 : Blk U4 W.heap.size 51 (rv r) := BR.out.below BU4 BR.out.lt
    have Z4 := Lib.hid (BZ.out.below BU4 BZ.out.lt)
    have B4 := Lib.hid (B0.out.trans (BU4.mono B0.out.size))
    have M4 := Lib.hid (M.out.below B4.out)
    have TK := Lib.hid (take_t wB g x k y U4 M4.out HN.out HY.out)
    have FR := Lib.hid (rv_size r)
    refine wp_region_held (S := fun Y => Blk Y W.heap.size 51 (rv r)) (by kernel_rfl) ?_
    change wpAnyH _ _ _ _ _ _ _ _ (V).drew
    rw [hU4]
    clear hU4 BU4
    refine wpAnyH_take (i := 0) (v := .agg (rv r).toArray) rfl (by kernel_rfl) (by kernel_rfl) (by kernel_rfl) (fun _ _ _ h => h) (yieldsIf_load_mid (by kernel_rfl) 51 (.tmp 4) rfl W.heap.size 0 (by go_simp) (rv r) _ (fun _ h => rows_of_blk h) Tryz.underlying51 rfl (FR.out)) R4 ?_
    refine wpAnyH_take (i := 1) (v := ?_) rfl (by kernel_rfl) (by kernel_rfl) (by kernel_rfl) (fun _ _ _ h => h) (Or.inl ⟨by kernel_rfl, ?_⟩) R4 ?_
    rotate_left 1
    · (intro w hS; clear hS; go_simp; try (with_reducible rfl))
    refine wpAnyH_take (i := 2) (v := ?_) rfl (by kernel_rfl) (by kernel_rfl) (by kernel_rfl) (fun _ _ _ h => h) (Or.inl ⟨by kernel_rfl, ?_⟩) R4 ?_
    rotate_left 1
    · (intro w hS; clear hS; go_simp; try (with_reducible rfl))
    refine wpAnyH_ready (rs := [3]) (by kernel_rfl) (by simp) ?_
    refine AllReadyH.cons rfl (fun K hK => ?_) AllReadyH.nil
    go_simp
    refine TK.out.mono ?_
    rintro e w5 ⟨rfl, x', m5, v5, s5, f5⟩
    have R5 : Blk w5 W.heap.size 51 (rv r) := v5.blk M4.out R4 (by decide) (by decide) (by have := HG.out; omega)
    have Z5 := Lib.hid (v5.blk M4.out Z4.out (by decide) (by decide) (by have := HG.out; omega))
    have M5 := Lib.hid m5; have V5 := Lib.hid ((Mv.of_below B4.out).trans v5); have S5 := Lib.hid s5; have F5 := Lib.hid f5
    have GV := Lib.hid (give_t r y.i.t y.p y.c w5)
    refine hK.out _ _ R5 (fun _ => ?_)
    clear hK K m5 v5 s5 f5 TK R4 Z4 M4
    refine wpAnyH_ready (rs := [4]) (by kernel_rfl) (by simp) ?_
    refine AllReadyH.cons rfl (fun K hK => ?_) AllReadyH.nil
    go_simp
    refine GV.out.mono ?_
    rintro e w6 ⟨rfl, b6⟩
    have R6 : Blk w6 W.heap.size 51 (rv r) := R5.below b6 R5.lt
    have Z6 := Lib.hid (Z5.out.below b6 Z5.out.lt)
    have M6 := Lib.hid (M5.out.below b6)
    have V6 := Lib.hid (V5.out.trans (Mv.of_below (x := x') (g := g) b6))
    have F6 := Lib.hid (F5.out.below b6)
    refine hK.out _ _ R6 (fun _ => ?_)
    clear hK K b6 GV R5 Z5 M5 V5 F5
    refine wpAnyH_ready (rs := [5]) (by kernel_rfl) (by simp) ?_
    refine AllReadyH.cons rfl (fun K hK => ?_) AllReadyH.nil
    rw [if_pos (by kernel_rfl)]
    refine wstore_part 26 (.tmp 6) (.tmp 26) (W.heap.size + 1) 0 26 [] [.int .i64 0, .int .i64 0, .int .i64 0, .slice none 0 0, .bool false] [] (pv ⟨giveP (qp r.r) y.i.t, y.p, y.c⟩) rfl (by rw [List.nil_append, List.append_nil]; exact Z6.out) rfl rfl (pv_size _) (pv_oneA _) rfl rfl ?_
    intro w7 a1 a2 a3
    have Z7 := Lib.hid (show Blk w7 (W.heap.size + 1) 26 (pv ⟨giveP (qp r.r) y.i.t, y.p, y.c⟩) by have := a1.out; rwa [List.nil_append, List.append_nil] at this)
    have K7 := a2.out.keptOne rfl
    have G7 : Blk w7 W.heap.size 51 (rv r) := R6.kept K7 (by omega)
    have M7 := Lib.hid (M6.out.far Z6.out (by have := HG.out; omega) (by have := HB.out; omega) K7)
    have V7 := Lib.hid (V6.out.far K7 (by omega))
    have F7 := Lib.hid (F6.out.far Z6.out K7)
    refine hK.out _ _ G7 (fun _ => ?_)
    clear hK K a1 a2 a3 K7 R6 Z6 M6 V6 F6
    refine wpAnyH_done (by kernel_rfl) ?_ _
    go_simp
    go_wp2_with fail
    exact ret_blk (p := 6) (ty := 26) rfl rfl (W.heap.size + 1) 26 _ _ rfl Z7.out Tryz.underlying26 rfl (pv_size ⟨giveP (qp r.r) y.i.t, y.p, y.c⟩) ⟨x', ⟨giveP (qp r.r) y.i.t, y.p, y.c⟩, rfl, M7.out, V7.out, (by rw [HQ.out]; exact S5.out), (by rw [HQ.out]), F7.out⟩
  · by_cases h5 : r.r.kd = 5
    · rw [if_pos (.inr h5)] at hP
      have HQ := Lib.hid hP
      rw [h5] at d2
      clear h hs hy hk hn hys hgd hyl hP
      go_enter Tryz.func136, Tryz.ntmps136
      go_upto_region 1 with (fail)
      clear hV
      go_upto_region 3 with (fail)
      obtain ⟨U4, hU4⟩ : ∃ U, (V).drew = U := ⟨_, rfl⟩
      have BU4 : Below (V).heap.size V U4 := by rw [← hU4]; exact (Below.refl _ _).drew
      have R4 : Blk U4 W.heap.size 51 (rv r) := BR.out.below BU4 BR.out.lt
      have Z4 := Lib.hid (BZ.out.below BU4 BZ.out.lt)
      have B4 := Lib.hid (B0.out.trans (BU4.mono B0.out.size))
      have M4 := Lib.hid (M.out.below B4.out)
      have TK := Lib.hid (take_t wB g x k y U4 M4.out HN.out HY.out)
      have FR := Lib.hid (rv_size r)
      refine wp_region_held (S := fun Y => Blk Y W.heap.size 51 (rv r)) (by kernel_rfl) ?_
      change wpAnyH _ _ _ _ _ _ _ _ (V).drew
      rw [hU4]
      clear hU4 BU4
      refine wpAnyH_take (i := 0) (v := .agg (rv r).toArray) rfl (by kernel_rfl) (by kernel_rfl) (by kernel_rfl) (fun _ _ _ h => h) (yieldsIf_load_mid (by kernel_rfl) 51 (.tmp 4) rfl W.heap.size 0 (by go_simp) (rv r) _ (fun _ h => rows_of_blk h) Tryz.underlying51 rfl (FR.out)) R4 ?_
      refine wpAnyH_take (i := 1) (v := ?_) rfl (by kernel_rfl) (by kernel_rfl) (by kernel_rfl) (fun _ _ _ h => h) (Or.inl ⟨by kernel_rfl, ?_⟩) R4 ?_
      rotate_left 1
      · (intro w hS; clear hS; go_simp; try (with_reducible rfl))
      refine wpAnyH_take (i := 2) (v := ?_) rfl (by kernel_rfl) (by kernel_rfl) (by kernel_rfl) (fun _ _ _ h => h) (Or.inl ⟨by kernel_rfl, ?_⟩) R4 ?_
      rotate_left 1
      · (intro w hS; clear hS; go_simp; try (with_reducible rfl))
      refine wpAnyH_ready (rs := [3]) (by kernel_rfl) (by simp) ?_
      refine AllReadyH.cons rfl (fun K hK => ?_) AllReadyH.nil
      go_simp
      refine TK.out.mono ?_
      rintro e w5 ⟨rfl, x', m5, v5, s5, f5⟩
      have R5 : Blk w5 W.heap.size 51 (rv r) := v5.blk M4.out R4 (by decide) (by decide) (by have := HG.out; omega)
      have Z5 := Lib.hid (v5.blk M4.out Z4.out (by decide) (by decide) (by have := HG.out; omega))
      have M5 := Lib.hid m5; have V5 := Lib.hid ((Mv.of_below B4.out).trans v5); have S5 := Lib.hid s5; have F5 := Lib.hid f5
      have GV := Lib.hid (give_t r y.i.t y.p y.c w5)
      refine hK.out _ _ R5 (fun _ => ?_)
      clear hK K m5 v5 s5 f5 TK R4 Z4 M4
      refine wpAnyH_ready (rs := [4]) (by kernel_rfl) (by simp) ?_
      refine AllReadyH.cons rfl (fun K hK => ?_) AllReadyH.nil
      go_simp
      refine GV.out.mono ?_
      rintro e w6 ⟨rfl, b6⟩
      have R6 : Blk w6 W.heap.size 51 (rv r) := R5.below b6 R5.lt
      have Z6 := Lib.hid (Z5.out.below b6 Z5.out.lt)
      have M6 := Lib.hid (M5.out.below b6)
      have V6 := Lib.hid (V5.out.trans (Mv.of_below (x := x') (g := g) b6))
      have F6 := Lib.hid (F5.out.below b6)
      refine hK.out _ _ R6 (fun _ => ?_)
      clear hK K b6 GV R5 Z5 M5 V5 F5
      refine wpAnyH_ready (rs := [5]) (by kernel_rfl) (by simp) ?_
      refine AllReadyH.cons rfl (fun K hK => ?_) AllReadyH.nil
      rw [if_pos (by kernel_rfl)]
      refine wstore_part 26 (.tmp 6) (.tmp 26) (W.heap.size + 1) 0 26 [] [.int .i64 0, .int .i64 0, .int .i64 0, .slice none 0 0, .bool false] [] (pv ⟨giveP (qp r.r) y.i.t, y.p, y.c⟩) rfl (by rw [List.nil_append, List.append_nil]; exact Z6.out) rfl rfl (pv_size _) (pv_oneA _) rfl rfl ?_
      intro w7 a1 a2 a3
      have Z7 := Lib.hid (show Blk w7 (W.heap.size + 1) 26 (pv ⟨giveP (qp r.r) y.i.t, y.p, y.c⟩) by have := a1.out; rwa [List.nil_append, List.append_nil] at this)
      have K7 := a2.out.keptOne rfl
      have G7 : Blk w7 W.heap.size 51 (rv r) := R6.kept K7 (by omega)
      have M7 := Lib.hid (M6.out.far Z6.out (by have := HG.out; omega) (by have := HB.out; omega) K7)
      have V7 := Lib.hid (V6.out.far K7 (by omega))
      have F7 := Lib.hid (F6.out.far Z6.out K7)
      refine hK.out _ _ G7 (fun _ => ?_)
      clear hK K a1 a2 a3 K7 R6 Z6 M6 V6 F6
      refine wpAnyH_done (by kernel_rfl) ?_ _
      go_simp
      go_wp2_with fail
      exact ret_blk (p := 6) (ty := 26) rfl rfl (W.heap.size + 1) 26 _ _ rfl Z7.out Tryz.underlying26 rfl (pv_size ⟨giveP (qp r.r) y.i.t, y.p, y.c⟩) ⟨x', ⟨giveP (qp r.r) y.i.t, y.p, y.c⟩, rfl, M7.out, V7.out, (by rw [HQ.out]; exact S5.out), (by rw [HQ.out]), F7.out⟩
    · rw [if_neg (not_or.2 ⟨h3, h5⟩)] at hP
      have HQ := Lib.hid hP
      have e3 : (r.r.kd == 3) = false := by rw [beq_eq_false_iff_ne]; exact h3
      have e5 : (r.r.kd == 5) = false := by rw [beq_eq_false_iff_ne]; exact h5
      obtain ⟨gi, hgi, _, hgl, hgc, _⟩ := own_block h.sf.its (by omega)
      have ci2 := Lib.hid (show W.cell? ⟨gi, k * 3 + 2, none⟩ = some (.slice y.p y.i.t.length y.c) from (hgc (k * 3 + 2) (by omega)).trans (flat_get iv_len x.its k 2 y hy (by omega)))
      have c1 := (sv_cells h.box).2.1
      rw [hgi] at c1
      have C1 := Lib.hid c1
      have HGL := Lib.hid hgl
      have k2 : (k : Int) < (x.its.length : Int) := by omega
      have nB : (x.its.length : Int) ≤ 9223372036854775807 := by omega
      have FY := Lib.hid (FT.tr (h.sf.it y (List.mem_of_getElem? hy)) (by omega))
      have IT_ := Lib.hid h.sf.it
      have HYL := Lib.hid hyl
      clear h hs hy hk hn hys hgd hyl hP hgc hgl hgi c1
      go_enter Tryz.func136, Tryz.ntmps136
      go_upto_region 1 with (fail)
      clear hV
      go_upto_region 5 with (fail)
      obtain ⟨U, hU⟩ : ∃ U, V.drew = U := ⟨_, rfl⟩
      have BU := Lib.hid (show Below V.heap.size V U from by rw [← hU]; exact (Below.refl _ _).drew)
      have B1 := Lib.hid (B0.out.trans (BU.out.mono B0.out.size))
      have R1 := Lib.hid (BR.out.below BU.out BR.out.lt)
      have Z1 := Lib.hid (BZ.out.below BU.out BZ.out.lt)
      have g1 : Blk U W.heap.size 51 (rv r) ∧ U.cell? ⟨g, 1, none⟩ = some (.slice (some ⟨gi, 0, none⟩) x.its.length x.ic) ∧ U.cell? ⟨gi, k * 3 + 2, none⟩ = some (.slice y.p y.i.t.length y.c) :=
        ⟨R1.out, (B1.out.cell (p := ⟨g, 1, none⟩) HG.out).trans C1.out, (B1.out.cell (p := ⟨gi, k * 3 + 2, none⟩) HGL.out).trans ci2.out⟩
      have CF := Lib.hid (cloneF_t y.i.t y.p y.i.t.length y.c U rfl (rw_row.1 ((FY.out.below B1.out).t)) (by have := HYL.out; omega))
      have FR := Lib.hid (rv_size r)
      refine wp_region_held (S := fun Y => Blk Y W.heap.size 51 (rv r) ∧ Y.cell? ⟨g, 1, none⟩ = some (.slice (some ⟨gi, 0, none⟩) x.its.length x.ic) ∧ Y.cell? ⟨gi, k * 3 + 2, none⟩ = some (.slice y.p y.i.t.length y.c)) (by kernel_rfl) ?_
      change wpAnyH _ _ _ _ _ _ _ _ V.drew
      rw [hU]
      clear hU
      refine wpAnyH_take (i := 0) (v := .agg (rv r).toArray) rfl (by kernel_rfl) (by kernel_rfl) (by kernel_rfl) (fun _ _ _ h => h) (yieldsIf_load_mid (by kernel_rfl) 51 (.tmp 4) rfl W.heap.size 0 (by go_simp) (rv r) _ (fun _ h => rows_of_blk h.1) Tryz.underlying51 rfl (FR.out)) g1 ?_
      refine wpAnyH_take (i := 1) (v := ?_) rfl (by kernel_rfl) (by kernel_rfl) (by kernel_rfl) (fun _ _ _ h => h) (Or.inl ⟨by kernel_rfl, ?_⟩) g1 ?_
      rotate_left 1
      · (intro w hS; clear hS; go_simp; try (with_reducible rfl))
      refine wpAnyH_take (i := 2) (v := ?_) rfl (by kernel_rfl) (by kernel_rfl) (by kernel_rfl) (fun _ _ _ h => h) (Or.inl ⟨by kernel_rfl, ?_⟩) g1 ?_
      rotate_left 1
      · (intro w hS; clear hS; go_simp; try (with_reducible rfl))
      refine wpAnyH_take (i := 3) (v := ?_) rfl (by kernel_rfl) (by kernel_rfl) (by kernel_rfl) (fun _ _ _ h => h) (Or.inl ⟨by kernel_rfl, ?_⟩) g1 ?_
      rotate_left 1
      · (intro w hS; clear hS; go_simp; try (with_reducible rfl))
      refine wpAnyH_take (i := 4) (v := ?_) rfl (by kernel_rfl) (by kernel_rfl) (by kernel_rfl) (fun _ _ _ h => h) (Or.inl ⟨by kernel_rfl, ?_⟩) g1 ?_
      rotate_left 1
      · (intro w hS; have hs := hS.2.1; clear hS; go_simp; try (with_reducible rfl))
      refine wpAnyH_take (i := 5) (v := ?_) rfl (by kernel_rfl) (by kernel_rfl) (by kernel_rfl) (fun _ _ _ h => h) (Or.inl ⟨by kernel_rfl, ?_⟩) g1 ?_
      rotate_left 1
      · (intro w hS; clear hS; go_simp; try (with_reducible rfl))
      refine wpAnyH_take (i := 6) (v := ?_) rfl (by kernel_rfl) (by kernel_rfl) (by kernel_rfl) (fun _ _ _ h => h) (Or.inl ⟨by kernel_rfl, ?_⟩) g1 ?_
      rotate_left 1
      · (intro w hS; clear hS; go_simp; try (with_reducible rfl))
      refine wpAnyH_take (i := 7) (v := ?_) rfl (by kernel_rfl) (by kernel_rfl) (by kernel_rfl) (fun _ _ _ h => h) (Or.inl ⟨by kernel_rfl, ?_⟩) g1 ?_
      rotate_left 1
      · (intro w hS; clear hS; go_simp; try (with_reducible rfl))
      refine wpAnyH_take (i := 8) (v := ?_) rfl (by kernel_rfl) (by kernel_rfl) (by kernel_rfl) (fun _ _ _ h => h) (Or.inl ⟨by kernel_rfl, ?_⟩) g1 ?_
      rotate_left 1
      · (intro w hS; have hs := hS.2.2; clear hS; go_simp; try (with_reducible rfl))
      refine wpAnyH_ready (rs := [9]) (by kernel_rfl) (by simp) ?_
      refine AllReadyH.cons rfl (fun K hK => ?_) AllReadyH.nil
      go_simp
      refine CF.out.mono ?_
      rintro e w5 ⟨q', d, rfl, o5, b5⟩
      have B5 := Lib.hid (B1.out.trans (b5.mono B1.out.size))
      have HAP := Lib.hid (fun (z : Itv) (hz : z ∈ x.its) (k' : Nat) (e1 : OB q' k') (e2 : OB z.p k') => show False from absurd (o5.lt k' e1.own).1 (by have h1 := ((IT_.out z hz).lt k' e2.own).2; have h2 := B1.out.size; omega))
      have F5 := Lib.hid (FT.low (base' := wB.heap.size) o5 (Nat.le_trans HB.out B1.out.size))
      have R5 := R1.out.below b5 R1.out.lt
      have Z5 := Lib.hid (Z1.out.below b5 Z1.out.lt)
      have GV := Lib.hid (give_t r y.i.t q' d w5)
      have g5 : Blk w5 W.heap.size 51 (rv r) ∧ w5.cell? ⟨g, 1, none⟩ = some (.slice (some ⟨gi, 0, none⟩) x.its.length x.ic) ∧ w5.cell? ⟨gi, k * 3 + 2, none⟩ = some (.slice y.p y.i.t.length y.c) :=
        ⟨R5, (B5.out.cell (p := ⟨g, 1, none⟩) HG.out).trans C1.out, (B5.out.cell (p := ⟨gi, k * 3 + 2, none⟩) HGL.out).trans ci2.out⟩
      refine hK.out _ _ g5 (fun _ => ?_)
      clear hK K CF o5 b5 g1 R1 Z1 BR BZ B0 BU
      refine wpAnyH_ready (rs := [10]) (by kernel_rfl) (by simp) ?_
      refine AllReadyH.cons rfl (fun K hK => ?_) AllReadyH.nil
      go_simp
      refine GV.out.mono ?_
      rintro e w6 ⟨rfl, b6⟩
      have B6 := Lib.hid (B5.out.trans (b6.mono B5.out.size))
      have R6 := R5.below b6 R5.lt
      have Z6 := Lib.hid (Z5.out.below b6 Z5.out.lt)
      have F6 := Lib.hid (F5.out.below b6)
      have g6 : Blk w6 W.heap.size 51 (rv r) ∧ w6.cell? ⟨g, 1, none⟩ = some (.slice (some ⟨gi, 0, none⟩) x.its.length x.ic) ∧ w6.cell? ⟨gi, k * 3 + 2, none⟩ = some (.slice y.p y.i.t.length y.c) :=
        ⟨R6, (B6.out.cell (p := ⟨g, 1, none⟩) HG.out).trans C1.out, (B6.out.cell (p := ⟨gi, k * 3 + 2, none⟩) HGL.out).trans ci2.out⟩
      refine hK.out _ _ g6 (fun _ => ?_)
      clear hK K GV g5 b6 R5 Z5 B5 F5
      refine wpAnyH_ready (rs := [11]) (by kernel_rfl) (by simp) ?_
      refine AllReadyH.cons rfl (fun K hK => ?_) AllReadyH.nil
      rw [if_pos (by kernel_rfl)]
      refine wstore_part 26 (.tmp 6) (.tmp 40) (W.heap.size + 1) 0 26 [] [.int .i64 0, .int .i64 0, .int .i64 0, .slice none 0 0, .bool false] [] (pv ⟨giveP (qp r.r) y.i.t, q', d⟩) rfl (by rw [List.nil_append, List.append_nil]; exact Z6.out) rfl rfl (pv_size _) (pv_oneA _) rfl rfl ?_
      intro w7 a1 a2 a3
      have Z7 := Lib.hid (show Blk w7 (W.heap.size + 1) 26 (pv ⟨giveP (qp r.r) y.i.t, q', d⟩) by have := a1.out; rwa [List.nil_append, List.append_nil] at this)
      have K7 := a2.out.keptOne rfl
      have B7 := Lib.hid (show Below W.heap.size W w7 from B6.out.trans ⟨K7.os, K7.tape, K7.output, K7.size, fun b hb => K7.block b (Nat.lt_of_lt_of_le hb B6.out.size) (by omega)⟩)
      have F7 := Lib.hid (F6.out.far Z6.out K7)
      have g7 : Blk w7 W.heap.size 51 (rv r) ∧ w7.cell? ⟨g, 1, none⟩ = some (.slice (some ⟨gi, 0, none⟩) x.its.length x.ic) ∧ w7.cell? ⟨gi, k * 3 + 2, none⟩ = some (.slice y.p y.i.t.length y.c) :=
        ⟨R6.kept K7 (by omega), (B7.out.cell (p := ⟨g, 1, none⟩) HG.out).trans C1.out, (B7.out.cell (p := ⟨gi, k * 3 + 2, none⟩) HGL.out).trans ci2.out⟩
      refine hK.out _ _ g7 (fun _ => ?_)
      clear hK K a1 a2 a3 K7 R6 Z6 F6 g6
      refine wpAnyH_done (by kernel_rfl) ?_ _
      go_simp
      go_wp2_with fail
      exact ret_blk (p := 6) (ty := 26) rfl rfl (W.heap.size + 1) 26 _ _ rfl Z7.out Tryz.underlying26 rfl (pv_size ⟨giveP (qp r.r) y.i.t, q', d⟩) ⟨x, ⟨giveP (qp r.r) y.i.t, q', d⟩, rfl, M.out.below B7.out, Mv.of_below B7.out, (by rw [HQ.out]), (by rw [HQ.out]), And.intro F7.out (fun _ => HAP.out)⟩
set_option maxRecDepth 100000 in
set_option maxHeartbeats 4000000 in
/-- There is none. -/
theorem lookN_t (wB : World) (g : Nat) (x : Spv) (r : Rv) (W : World) (h : SM wB W g x) (hs : Small x.sp) (hr : RvW wB r) (hm : r.r.n ≤ 1000) :
    Calls Tryz.prog 136 #[.pointer (some ⟨g, 0, none⟩), .agg (rv r).toArray, .int .i64 (-1)] W fun e W' => ∃ (x' : Spv) (y : Rpv), e = .returned (.agg (pv y).toArray) ∧ SM wB W' g x' ∧ Mv g x x' W W' ∧ x'.sp = (lookP x.sp (qp r.r) none).1 ∧ y.r = (lookP x.sp (qp r.r) none).2 ∧ FT W' wB.heap.size y.p y.c y.r.t ∧ y.p = none := by
  obtain ⟨V, hV⟩ : ∃ V, (W.alloc (.cells (rv r).toArray 51)).alloc (.cells #[.int .i64 0, .int .i64 0, .int .i64 0, .slice none 0 0, .bool false] 26) = V := ⟨_, rfl⟩
  have B0 := Lib.hid (show Below W.heap.size W V from by rw [← hV]; exact ((Below.refl _ _).alloc (Nat.le_refl _) _).alloc (by simp) _)
  have BR := Lib.hid (show Blk V W.heap.size 51 (rv r) from by rw [← hV]; exact (Blk.new W 51 (rv r)).alloc _)
  have BZ := Lib.hid (show Blk V (W.heap.size + 1) 26 [.int .i64 0, .int .i64 0, .int .i64 0, .slice none 0 0, .bool false] from by rw [← hV]; exact Blk.new2 W _ _ _)
  have HG := Lib.hid h.box.lt
  have HB := Lib.hid h.bel.size
  have M := Lib.hid h
  have d2 := (rv_cells BR.out).2.2.1
  have hn : x.wts.length ≤ 1000 := by have := hs.m; rwa [show x.sp.wts = x.wts.map (·.x) from rfl, List.length_map] at this
  have hP : lookP x.sp (qp r.r) none = if r.r.kd = 2 ∨ r.r.kd = 3 then (x.sp, tellP (qp r.r) 3) else if 16 ≤ x.wts.length then (x.sp, tellP (qp r.r) 5) else ({ x.sp with wts := x.sp.wts ++ [⟨r.r.cl, r.r.sq, r.r.kd == 5, fl r.r.n r.r.G⟩] }, tellP (qp r.r) 4) := by
    unfold lookP
    dsimp only
    rw [show x.sp.wts.length = x.wts.length from List.length_map _]
    rfl
  by_cases h2 : r.r.kd = 2
  · rw [if_pos (.inl h2)] at hP
    have HQ := Lib.hid hP
    rw [h2] at d2
    clear h hs hr hn hP
    go_enter Tryz.func136, Tryz.ntmps136
    go_upto_region 1 with (fail)
    clear hV
    go_upto_region 7 with (fail)
    have TT_ := Lib.hid (tell_t r 3 V)
    have FR := Lib.hid (rv_size r)
    have FY := Lib.hid (pv_size ⟨tellP (qp r.r) 3, none, 0⟩)
    have FA := Lib.hid (pv_oneA ⟨tellP (qp r.r) 3, none, 0⟩)
    go_wp2_with ((with_reducible refine load_blk 51 (.tmp 4) (W.heap.size) 51 (rv r) _ rfl rfl ?_ Tryz.underlying51 ?_ ?_ ?_ ?_); exact BR.out; exact rfl; exact FR.out; exact rfl)
    refine TT_.out.mono ?_
    rintro e wt ⟨rfl, bt⟩
    have Z1 := Lib.hid (BZ.out.below bt BZ.out.lt)
    have RT := Lib.hid (Z1.out.setRow (pv ⟨tellP (qp r.r) 3, none, 0⟩))
    have BT := Lib.hid (below_setRow (g := W.heap.size + 1) (B0.out.trans (bt.mono B0.out.size)) (by omega) (pv ⟨tellP (qp r.r) 3, none, 0⟩).toArray)
    clear bt TT_
    go_wp2_with ((with_reducible refine store_blk 26 (.tmp 6) (.tmp 51) (W.heap.size + 1) 26 [.int .i64 0, .int .i64 0, .int .i64 0, .slice none 0 0, .bool false] (pv ⟨tellP (qp r.r) 3, none, 0⟩) rfl rfl ?_ ?_ ?_ ?_ ?_ ?_ ?_); exact Z1.out; exact rfl; exact FY.out; exact FA.out; exact rfl; exact rfl)
    exact ret_blk (p := 6) (ty := 26) rfl rfl (W.heap.size + 1) 26 _ _ rfl RT.out Tryz.underlying26 rfl FY.out ⟨x, ⟨tellP (qp r.r) 3, none, 0⟩, rfl, M.out.below BT.out, Mv.of_below BT.out, (by rw [HQ.out]), (by rw [HQ.out]), FT.nil _ _, rfl⟩
  · by_cases h3 : r.r.kd = 3
    · rw [if_pos (.inr h3)] at hP
      have HQ := Lib.hid hP
      rw [h3] at d2
      clear h hs hr hn hP
      go_enter Tryz.func136, Tryz.ntmps136
      go_upto_region 1 with (fail)
      clear hV
      go_upto_region 7 with (fail)
      have TT_ := Lib.hid (tell_t r 3 V)
      have FR := Lib.hid (rv_size r)
      have FY := Lib.hid (pv_size ⟨tellP (qp r.r) 3, none, 0⟩)
      have FA := Lib.hid (pv_oneA ⟨tellP (qp r.r) 3, none, 0⟩)
      go_wp2_with ((with_reducible refine load_blk 51 (.tmp 4) (W.heap.size) 51 (rv r) _ rfl rfl ?_ Tryz.underlying51 ?_ ?_ ?_ ?_); exact BR.out; exact rfl; exact FR.out; exact rfl)
      refine TT_.out.mono ?_
      rintro e wt ⟨rfl, bt⟩
      have Z1 := Lib.hid (BZ.out.below bt BZ.out.lt)
      have RT := Lib.hid (Z1.out.setRow (pv ⟨tellP (qp r.r) 3, none, 0⟩))
      have BT := Lib.hid (below_setRow (g := W.heap.size + 1) (B0.out.trans (bt.mono B0.out.size)) (by omega) (pv ⟨tellP (qp r.r) 3, none, 0⟩).toArray)
      clear bt TT_
      go_wp2_with ((with_reducible refine store_blk 26 (.tmp 6) (.tmp 51) (W.heap.size + 1) 26 [.int .i64 0, .int .i64 0, .int .i64 0, .slice none 0 0, .bool false] (pv ⟨tellP (qp r.r) 3, none, 0⟩) rfl rfl ?_ ?_ ?_ ?_ ?_ ?_ ?_); exact Z1.out; exact rfl; exact FY.out; exact FA.out; exact rfl; exact rfl)
      exact ret_blk (p := 6) (ty := 26) rfl rfl (W.heap.size + 1) 26 _ _ rfl RT.out Tryz.underlying26 rfl FY.out ⟨x, ⟨tellP (qp r.r) 3, none, 0⟩, rfl, M.out.below BT.out, Mv.of_below BT.out, (by rw [HQ.out]), (by rw [HQ.out]), FT.nil _ _, rfl⟩
    · rw [if_neg (not_or.2 ⟨h2, h3⟩)] at hP
      have e2 : (r.r.kd == 2) = false := by rw [beq_eq_false_iff_ne]; exact h2
      have e3 : (r.r.kd == 3) = false := by rw [beq_eq_false_iff_ne]; exact h3
      have c2 : V.cell? ⟨g, 2, none⟩ = some (.slice x.wp x.wts.length x.wc) := (B0.out.cell (p := ⟨g, 2, none⟩) HG.out).trans (sv_cells h.box).2.2.1
      by_cases h6 : 16 ≤ x.wts.length
      · have hj : (16 : Int) ≤ (x.wts.length : Int) := by omega
        rw [if_pos h6] at hP
        have HQ := Lib.hid hP
        clear h hs hr hP
        go_enter Tryz.func136, Tryz.ntmps136
        go_upto_region 1 with (fail)
        clear hV
        go_upto_region 9 with (fail)
        have TT_ := Lib.hid (tell_t r 5 V)
        have FR := Lib.hid (rv_size r)
        have FY := Lib.hid (pv_size ⟨tellP (qp r.r) 5, none, 0⟩)
        have FA := Lib.hid (pv_oneA ⟨tellP (qp r.r) 5, none, 0⟩)
        go_wp2_with ((with_reducible refine load_blk 51 (.tmp 4) (W.heap.size) 51 (rv r) _ rfl rfl ?_ Tryz.underlying51 ?_ ?_ ?_ ?_); exact BR.out; exact rfl; exact FR.out; exact rfl)
        refine TT_.out.mono ?_
        rintro e wt ⟨rfl, bt⟩
        have Z1 := Lib.hid (BZ.out.below bt BZ.out.lt)
        have RT := Lib.hid (Z1.out.setRow (pv ⟨tellP (qp r.r) 5, none, 0⟩))
        have BT := Lib.hid (below_setRow (g := W.heap.size + 1) (B0.out.trans (bt.mono B0.out.size)) (by omega) (pv ⟨tellP (qp r.r) 5, none, 0⟩).toArray)
        clear bt TT_
        go_wp2_with ((with_reducible refine store_blk 26 (.tmp 6) (.tmp 60) (W.heap.size + 1) 26 [.int .i64 0, .int .i64 0, .int .i64 0, .slice none 0 0, .bool false] (pv ⟨tellP (qp r.r) 5, none, 0⟩) rfl rfl ?_ ?_ ?_ ?_ ?_ ?_ ?_); exact Z1.out; exact rfl; exact FY.out; exact FA.out; exact rfl; exact rfl)
        exact ret_blk (p := 6) (ty := 26) rfl rfl (W.heap.size + 1) 26 _ _ rfl RT.out Tryz.underlying26 rfl FY.out ⟨x, ⟨tellP (qp r.r) 5, none, 0⟩, rfl, M.out.below BT.out, Mv.of_below BT.out, (by rw [HQ.out]), (by rw [HQ.out]), FT.nil _ _, rfl⟩
      · have hj : ¬ (16 : Int) ≤ (x.wts.length : Int) := by omega
        rw [if_neg h6] at hP
        have HQ := Lib.hid hP
        have TP := Lib.hid (tr_flQ hr.p hr.n)
        have HL := Lib.hid (show x.wts.length ≤ 16 from by omega)
        have ML := Lib.hid (fl_length r.r.n r.r.G)
        have HM := Lib.hid hm
        obtain ⟨p, hp⟩ : ∃ p, fl r.r.n r.r.G = p := ⟨_, rfl⟩
        rw [hp] at HQ TP ML
        clear h hs hr hP hp hm hn
        obtain ⟨bt, hbt⟩ : ∃ b, (r.r.kd == 5) = b := ⟨_, rfl⟩
        rw [hbt] at HQ
        go_enter Tryz.func136, Tryz.ntmps136
        go_upto_region 1 with (fail)
        clear hV
        go_upto_region 10 with (fail)
        obtain ⟨U, hU⟩ : ∃ U, V.drew = U := ⟨_, rfl⟩
        have BU := Lib.hid (show Below V.heap.size V U from by rw [← hU]; exact (Below.refl _ _).drew)
        have B1 := Lib.hid (B0.out.trans (BU.out.mono B0.out.size))
        have R1 := Lib.hid (BR.out.below BU.out BR.out.lt)
        have Z1 := Lib.hid (BZ.out.below BU.out BZ.out.lt)
        have MU := Lib.hid (M.out.below B1.out)
        have s0 : U.cell? ⟨g, 2, none⟩ = some (.slice x.wp x.wts.length x.wc) ∧ Blk U W.heap.size 51 (rv r) := ⟨(sv_cells MU.out.box).2.2.1, R1.out⟩
        have CF := Lib.hid (cloneF_t p r.p p.length r.c U rfl (rw_row.1 ((TP.out.below MU.out.bel).t)) (by have := HM.out; have := ML.out; omega))
        have BI := fun (q' : Option Addr) (d : Nat) => built_wait r.r.cl r.r.sq bt p q' d
        refine wp_region_E (fun Y => Y.cell? ⟨g, 2, none⟩ = some (.slice x.wp x.wts.length x.wc) ∧ Blk Y W.heap.size 51 (rv r)) (fun i => i == 18) (by kernel_rfl) ?_
        change wpAnyE _ _ _ _ _ _ _ _ _ V.drew
        rw [hU]
        clear hU BU BR BZ B0 c2 d2
        refine wpAnyE_take (i := 0) (v := ?_) rfl (by kernel_rfl) (by kernel_rfl) (by kernel_rfl) (by kernel_rfl) (fun _ _ _ h => h) (Or.inl ⟨by kernel_rfl, ?_⟩) s0 ?_
        rotate_left 1
        · (intro w hS; clear hS; go_simp; try (with_reducible rfl))
        refine wpAnyE_take (i := 1) (v := ?_) rfl (by kernel_rfl) (by kernel_rfl) (by kernel_rfl) (by kernel_rfl) (fun _ _ _ h => h) (Or.inl ⟨by kernel_rfl, ?_⟩) s0 ?_
        rotate_left 1
        · (intro w hS; clear hS; go_simp; try (with_reducible rfl))
        refine wpAnyE_take (i := 2) (v := ?_) rfl (by kernel_rfl) (by kernel_rfl) (by kernel_rfl) (by kernel_rfl) (fun _ _ _ h => h) (Or.inl ⟨by kernel_rfl, ?_⟩) s0 ?_
        rotate_left 1
        · (intro w hS; clear hS; go_simp; try (with_reducible rfl))
        refine wpAnyE_take (i := 3) (v := ?_) rfl (by kernel_rfl) (by kernel_rfl) (by kernel_rfl) (by kernel_rfl) (fun _ _ _ h => h) (Or.inl ⟨by kernel_rfl, ?_⟩) s0 ?_
        rotate_left 1
        · (intro w hS; clear hS; go_simp; try (with_reducible rfl))
        refine wpAnyE_take (i := 4) (v := ?_) rfl (by kernel_rfl) (by kernel_rfl) (by kernel_rfl) (by kernel_rfl) (fun _ _ _ h => h) (Or.inl ⟨by kernel_rfl, ?_⟩) s0 ?_
        rotate_left 1
        · (intro w hS; have hs := hS.1; clear hS; go_simp; try (with_reducible rfl))
        refine wpAnyE_take (i := 5) (v := ?_) rfl (by kernel_rfl) (by kernel_rfl) (by kernel_rfl) (by kernel_rfl) (fun _ _ _ h => h) (Or.inl ⟨by kernel_rfl, ?_⟩) s0 ?_
        rotate_left 1
        · (intro w hS; clear hS; go_simp; try (with_reducible rfl))
        refine wpAnyE_take (i := 6) (v := ?_) rfl (by kernel_rfl) (by kernel_rfl) (by kernel_rfl) (by kernel_rfl) (fun _ _ _ h => h) (Or.inl ⟨by kernel_rfl, ?_⟩) s0 ?_
        rotate_left 1
        · (intro w hS; have hs := (rv_cells hS.2).1; clear hS; go_simp; try (with_reducible rfl))
        refine wpAnyE_take (i := 7) (v := ?_) rfl (by kernel_rfl) (by kernel_rfl) (by kernel_rfl) (by kernel_rfl) (fun _ _ _ h => h) (Or.inl ⟨by kernel_rfl, ?_⟩) s0 ?_
        rotate_left 1
        · (intro w hS; clear hS; go_simp; try (with_reducible rfl))
        refine wpAnyE_take (i := 8) (v := ?_) rfl (by kernel_rfl) (by kernel_rfl) (by kernel_rfl) (by kernel_rfl) (fun _ _ _ h => h) (Or.inl ⟨by kernel_rfl, ?_⟩) s0 ?_
        rotate_left 1
        · (intro w hS; have hs := (rv_cells hS.2).2.1; clear hS; go_simp; try (with_reducible rfl))
        refine wpAnyE_take (i := 9) (v := ?_) rfl (by kernel_rfl) (by kernel_rfl) (by kernel_rfl) (by kernel_rfl) (fun _ _ _ h => h) (Or.inl ⟨by kernel_rfl, ?_⟩) s0 ?_
        rotate_left 1
        · (intro w hS; clear hS; go_simp; try (with_reducible rfl))
        refine wpAnyE_take (i := 10) (v := ?_) rfl (by kernel_rfl) (by kernel_rfl) (by kernel_rfl) (by kernel_rfl) (fun _ _ _ h => h) (Or.inl ⟨by kernel_rfl, ?_⟩) s0 ?_
        rotate_left 1
        · (intro w hS; clear hS; go_simp; try (with_reducible rfl))
        refine wpAnyE_take (i := 11) (v := ?_) rfl (by kernel_rfl) (by kernel_rfl) (by kernel_rfl) (by kernel_rfl) (fun _ _ _ h => h) (Or.inl ⟨by kernel_rfl, ?_⟩) s0 ?_
        rotate_left 1
        · (intro w hS; have hs := ((rv_cells hS.2).2.2.2.1.trans (by rw [← ML.out])); clear hS; go_simp; try (with_reducible rfl))
        refine wpAnyE_one (i := 12) (by kernel_rfl) rfl (by kernel_rfl) (fun K hK => ?_)
        go_simp
        refine CF.out.mono ?_
        rintro e w2 ⟨q', d, rfl, o2, b2⟩
        have M2 := Lib.hid (MU.out.below b2)
        have R2 := Lib.hid (R1.out.below b2 R1.out.lt)
        have Z2 := Lib.hid (Z1.out.below b2 Z1.out.lt)
        have B2 := Lib.hid (B1.out.trans (b2.mono B1.out.size))
        have F2 := Lib.hid (FT.low (base' := wB.heap.size) o2 (Nat.le_trans HB.out B1.out.size))
        have s2 : w2.cell? ⟨g, 2, none⟩ = some (.slice x.wp x.wts.length x.wc) ∧ Blk w2 W.heap.size 51 (rv r) := ⟨(sv_cells M2.out.box).2.2.1, R2.out⟩
        refine hK.out _ _ (.inr s2) ?_
        clear hK K b2 o2 CF s0 MU R1 Z1 B1
        have BI' := BI q' d
        refine wpAnyE_one (i := 13) (by kernel_rfl) rfl (by kernel_rfl) (fun K hK => ?_)
        go_simp
        refine hK.out _ _ (.inr s2) ?_
        clear hK K BI BI'
        obtain ⟨y3, hy3⟩ : ∃ y : Wtv, ⟨⟨r.r.cl, r.r.sq, bt, p⟩, q', d⟩ = y := ⟨_, rfl⟩
        have hyi : y3.x = ⟨r.r.cl, r.r.sq, bt, p⟩ := by rw [← hy3]
        have hyp : FT w2 wB.heap.size y3.p y3.c y3.x.p := by rw [← hy3]; exact F2.out
        have HYI := Lib.hid hyi; have HYP := Lib.hid hyp; have HY3 := Lib.hid hy3
        clear hy3 hyi hyp F2
        have BA := Lib.hid ((Below.refl w2.heap.size w2).alloc (Nat.le_refl _) (.cells (wv y3).toArray 64))
        have M4 := Lib.hid (M2.out.below BA.out)
        have R1' := Lib.hid (row_one wv 4 y3 w2 64)
        have s1 : (w2.alloc (.cells (wv y3).toArray 64)).cell? ⟨g, 2, none⟩ = some (.slice x.wp x.wts.length x.wc) ∧ Blk (w2.alloc (.cells (wv y3).toArray 64)) W.heap.size 51 (rv r) := ⟨(sv_cells M4.out.box).2.2.1, s2.2.alloc _⟩
        refine wpAnyE_one (i := 14) (by kernel_rfl) rfl (by kernel_rfl) (fun K hK => ?_)
        refine wp_build1 23 64 (.tmp 74) rfl (wv y3) (by rw [← HY3.out]; first | rfl | (go_simp; rfl)) (build_wv y3 _) ?_
        refine hK.out _ _ (.inr s1) ?_
        clear hK K
        have F4 := Lib.hid (HYP.out.below BA.out)
        have Z4 := Lib.hid (Z2.out.below BA.out Z2.out.lt)
        have B4 := Lib.hid (B2.out.trans (BA.out.mono B2.out.size))
        obtain ⟨U4, hU4⟩ : ∃ U', w2.alloc (.cells (wv y3).toArray 64) = U' := ⟨_, rfl⟩
        rw [hU4] at BA M4 R1' s1 F4 Z4 B4 ⊢
        clear hU4 s2 R2 Z2 M2 B2
        refine wpAnyE_one (i := 15) (by kernel_rfl) rfl (by kernel_rfl) (fun K hK => ?_)
        refine wp_append_rows (.tmp 65) (.tmp 75) 23 ?_ 64 Tryz.underlying23 infoW rfl (by decide) (by decide) wv_len wv_one wB.heap.size (.slice x.wp x.wts.length x.wc) x.wts.length (x.wts.flatMap wv) ?_ M4.out.sf.wts (some ⟨w2.heap.size, 0, none⟩) 1 1 ?_ [y3] rfl R1'.out (by have := HL.out; omega) M4.out.bel.size ?_
        · rfl
        · go_simp
        · go_simp
        intro v1 w5 h2' h3' h5 h6'
        obtain ⟨q9, c9, hv, _⟩ := own_form h2'.out
        subst hv
        have hkp : Kept (OB x.wp) U4 w5 := (Kept.refl (OB x.wp) U4).grown h3'.out (fun k e => .inl (ob_own' e))
        obtain ⟨M6, V6⟩ := M4.out.waits (x.wts ++ [y3]) q9 c9 hkp (fun k hk => by
          have ek := hk.own (n := x.wts.length + 1) (c := c9)
          rcases h5.out with e | e
          · exact .inl (ob_own' (n := x.wts.length) (c := x.wc) (by rw [← e]; exact ek))
          · rw [e] at ek
            injection ek with ek
            exact .inr (by omega)) (by rw [List.length_append, List.flatMap_append]; exact h2'.out) (fun z hz => by
          rcases List.mem_append.1 hz with hz | hz
          · exact own_kept (M4.out.sf.wt z hz) hkp (fun k hk e => own_two M4.out.sf.wts (M4.out.sf.wt z hz) (by decide) e.own hk)
          · rw [List.mem_singleton.1 hz]
            exact own_kept F4.out hkp (fun k hk e => own_two M4.out.sf.wts F4.out (by decide) e.own hk))
        rw [List.length_append, List.length_singleton] at M6 V6
        have V7 := Lib.hid ((Mv.of_below B4.out).trans V6)
        have M6H := Lib.hid M6
        have ct5 : w5.cell? ⟨g, 2, none⟩ = some (.slice x.wp x.wts.length x.wc) := (hkp.cell (p := ⟨g, 2, none⟩) M4.out.box.lt M4.out.apartW).trans s1.1
        have fg5 := (M4.out.box.kept hkp M4.out.apartW).frozen 2
        have s5 : w5.cell? ⟨g, 2, none⟩ = some (.slice x.wp x.wts.length x.wc) ∧ Blk w5 W.heap.size 51 (rv r) := ⟨ct5, s1.2.kept hkp (fun e => own_apart M4.out.sf.wts s1.2 (by decide) e.own)⟩
        have Z5 := Lib.hid (Z4.out.kept hkp (fun e => own_apart M4.out.sf.wts Z4.out (by decide) e.own))
        refine hK.out _ _ (.inr s5) ?_
        clear hK K M6 V6 h2' h3' h5 h6' hkp s1 M4 BA R1' F4 Z4
        refine wpAnyE_one (i := 16) (by kernel_rfl) rfl (by kernel_rfl) (fun K hK => ?_)
        go_simp
        refine hK.out _ _ (.inr s5) ?_
        clear hK K
        refine wpAnyE_one (i := 17) (by kernel_rfl) rfl (by kernel_rfl) (fun K hK => ?_)
        go_simp
        refine hK.out _ _ (.inr s5) ?_
        clear hK K
        refine wpAnyE_one (i := 18) (by kernel_rfl) rfl (by kernel_rfl) (fun K hK => ?_)
        go_simp
        refine hK.out _ _ (.inl rfl) ?_
        clear hK K
        refine wpAnyE_done (by kernel_rfl) ?_ _
        go_simp
        have R6 := Lib.hid (s5.2.far (p := ⟨g, 2, none⟩) (by have := HG.out; show W.heap.size ≠ g; omega) (.slice q9 (x.wts.length + 1) c9))
        have Z6 := Lib.hid (Z5.out.far (p := ⟨g, 2, none⟩) (by have := HG.out; show W.heap.size + 1 ≠ g; omega) (.slice q9 (x.wts.length + 1) c9))
        obtain ⟨w6, hw6⟩ : ∃ U, w5.setCell ⟨g, 2, none⟩ (.slice q9 (x.wts.length + 1) c9) = U := ⟨_, rfl⟩
        rw [hw6] at R6 Z6 M6H V7 ⊢
        clear hw6 s5 ct5 fg5 Z5
        go_upto_region 11 with (fail)
        have TT_ := Lib.hid (tell_t r 4 w6)
        have FR := Lib.hid (rv_size r)
        have FY := Lib.hid (pv_size ⟨tellP (qp r.r) 4, none, 0⟩)
        have FA := Lib.hid (pv_oneA ⟨tellP (qp r.r) 4, none, 0⟩)
        go_wp2_with ((with_reducible refine load_blk 51 (.tmp 4) (W.heap.size) 51 (rv r) _ rfl rfl ?_ Tryz.underlying51 ?_ ?_ ?_ ?_); exact R6.out; exact rfl; exact FR.out; exact rfl)
        refine TT_.out.mono ?_
        rintro e wt ⟨rfl, bt⟩
        have Z1 := Lib.hid (Z6.out.below bt Z6.out.lt)
        have RT := Lib.hid (Z1.out.setRow (pv ⟨tellP (qp r.r) 4, none, 0⟩))
        have BT_ := Lib.hid bt
        clear bt TT_
        go_wp2_with ((with_reducible refine store_blk 26 (.tmp 6) (.tmp 80) (W.heap.size + 1) 26 [.int .i64 0, .int .i64 0, .int .i64 0, .slice none 0 0, .bool false] (pv ⟨tellP (qp r.r) 4, none, 0⟩) rfl rfl ?_ ?_ ?_ ?_ ?_ ?_ ?_); exact Z1.out; exact rfl; exact FY.out; exact FA.out; exact rfl; exact rfl)
        have KF : Kept (fun k => k = W.heap.size + 1) wt (wt.setRow (W.heap.size + 1) (pv ⟨tellP (qp r.r) 4, none, 0⟩).toArray) := (Kept.refl (fun b => b = W.heap.size + 1) wt).setRowK (.inl rfl) _
        exact ret_blk (p := 6) (ty := 26) rfl rfl (W.heap.size + 1) 26 _ _ rfl RT.out Tryz.underlying26 rfl FY.out ⟨_, ⟨tellP (qp r.r) 4, none, 0⟩, rfl, (M6H.out.below BT_.out).far Z1.out (by have := HG.out; omega) (by have := HB.out; omega) KF, (V7.out.trans (Mv.of_below BT_.out)).far KF (by omega), (by
          rw [HQ.out]
          unfold Spv.sp
          dsimp only
          rw [List.map_append, List.map_singleton, HYI.out]), (by rw [HQ.out]), FT.nil _ _, rfl⟩
end Go.Proofs.YtojianpbjckipaaGreatDoor
