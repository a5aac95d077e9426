/-
  THE REFERENCE: SameReply, SameReplies, SameSpace.
  PACKAGE space, what is pure: no reply of Do's is long.
  StateMoves: two spaces that are alike, worked on one beside the other.
  StateMoves walked.
-/
import Derived.Test.YtojianpbjckipaaGreatDoorSrB
import Derived.Test.YtojianpbjckipaaGreatDoorSpD
import Derived.Test.YtojianpbjckipaaGreatDoorSpX
import Derived.Test.YtojianpbjckipaaGreatDoorStU
import Derived.Deep.CutBlock
namespace Go.Proofs.YtojianpbjckipaaGreatDoor
open Go Go.RowKit Sh

set_option maxRecDepth 100000 in
theorem refSameReply_t (x y : Rpv) (w : World) (hx : TR w x.p x.r.t) (hy : TR w y.p y.r.t) :
    Calls Tryz.prog 54 #[.agg (pv x).toArray, .agg (pv y).toArray] w fun e w' => e = .returned (.bool (rpS x.r y.r)) ∧ Below w.heap.size w w' := by
  have BA := Lib.hid ((Blk.new w 26 (pv x)).alloc (.cells (pv y).toArray 26))
  have BB := Lib.hid (Blk.new2 w (.cells (pv x).toArray 26) 26 (pv y))
  have BW := Lib.hid (((Below.refl w.heap.size w).alloc (Nat.le_refl _) (.cells (pv x).toArray 26)).alloc (by simp) (.cells (pv y).toArray 26))
  have ST := Lib.hid (show Calls _ _ _ _ fun e w' => e = .returned (.bool (sT x.r.t y.r.t)) ∧ _ from refsame_t x.r.t.length x.c y.r.t.length y.c x.p y.p (gl x.r.t) (gl y.r.t) _ hx.n hy.n (hx.below BW.out).t (hy.below BW.out).t)
  obtain ⟨c0, c1, c2, c3, c4⟩ := pv_cells BA.out
  obtain ⟨d0, d1, d2, d3, d4⟩ := pv_cells BB.out
  have hs : rpS x.r y.r = ((x.r.cl == y.r.cl) && ((x.r.sq == y.r.sq) && ((x.r.kd == y.r.kd) && ((x.r.lt == y.r.lt) && sT x.r.t y.r.t)))) := rfl
  rw [hs]
  obtain ⟨xs, hxs⟩ : ∃ l, pv x = l := ⟨_, rfl⟩
  obtain ⟨ys, hys⟩ : ∃ l, pv y = l := ⟨_, rfl⟩
  rw [hxs, hys] at BA BB BW ST c0 c1 c2 c3 c4 d0 d1 d2 d3 d4 ⊢
  obtain ⟨s, hs⟩ : ∃ n, sT x.r.t y.r.t = n := ⟨_, rfl⟩
  rw [hs] at ST ⊢
  clear hs
  obtain ⟨p0, hp0⟩ : ∃ n, x.r.cl = n := ⟨_, rfl⟩
  rw [hp0] at c0 ⊢
  clear hp0
  obtain ⟨p1, hp1⟩ : ∃ n, x.r.sq = n := ⟨_, rfl⟩
  rw [hp1] at c1 ⊢
  clear hp1
  obtain ⟨p2, hp2⟩ : ∃ n, x.r.kd = n := ⟨_, rfl⟩
  rw [hp2] at c2 ⊢
  clear hp2
  obtain ⟨p4, hp4⟩ : ∃ n, x.r.lt = n := ⟨_, rfl⟩
  rw [hp4] at c4 ⊢
  clear hp4
  obtain ⟨q0, hq0⟩ : ∃ n, y.r.cl = n := ⟨_, rfl⟩
  rw [hq0] at d0 ⊢
  clear hq0
  obtain ⟨q1, hq1⟩ : ∃ n, y.r.sq = n := ⟨_, rfl⟩
  rw [hq1] at d1 ⊢
  clear hq1
  obtain ⟨q2, hq2⟩ : ∃ n, y.r.kd = n := ⟨_, rfl⟩
  rw [hq2] at d2 ⊢
  clear hq2
  obtain ⟨q4, hq4⟩ : ∃ n, y.r.lt = n := ⟨_, rfl⟩
  rw [hq4] at d4 ⊢
  clear hq4
  clear hx hy hs hxs hys BA BB
  cases e0 : (p0 == q0) with
  | false =>
    go_enter Tryz.func54, Tryz.ntmps54
    go_wp2_with fail
    go_ret
    exact ⟨rfl, BW.out⟩
  | true =>
  cases e1 : (p1 == q1) with
  | false =>
    go_enter Tryz.func54, Tryz.ntmps54
    go_wp2_with fail
    go_ret
    exact ⟨rfl, BW.out⟩
  | true =>
  cases e2 : (p2 == q2) with
  | false =>
    go_enter Tryz.func54, Tryz.ntmps54
    go_wp2_with fail
    go_ret
    exact ⟨rfl, BW.out⟩
  | true =>
  cases p4 <;> cases q4
  · skip
    go_enter Tryz.func54, Tryz.ntmps54
    go_wp2_with fail
    refine ST.out.mono ?_
    rintro e w2 ⟨rfl, b2⟩
    go_wp2_with fail
    go_ret
    exact ⟨rfl, BW.out.trans (b2.mono BW.out.size)⟩
  · skip
    go_enter Tryz.func54, Tryz.ntmps54
    go_wp2_with fail
    go_ret
    exact ⟨rfl, BW.out⟩
  · skip
    go_enter Tryz.func54, Tryz.ntmps54
    go_wp2_with fail
    go_ret
    exact ⟨rfl, BW.out⟩
  · skip
    go_enter Tryz.func54, Tryz.ntmps54
    go_wp2_with fail
    refine ST.out.mono ?_
    rintro e w2 ⟨rfl, b2⟩
    go_wp2_with fail
    go_ret
    exact ⟨rfl, BW.out.trans (b2.mono BW.out.size)⟩
set_option maxRecDepth 100000 in
set_option maxHeartbeats 1000000 in
theorem refSameReplies_eq (L M : List Rpv) (p q : Option Addr) (c d : Nat) (w : World) (hL : RowL w p 5 pv L) (hM : RowL w q 5 pv M) (tL : ∀ y ∈ L, TR w y.p y.r.t) (tM : ∀ y ∈ M, TR w y.p y.r.t) (hn : L.length ≤ 1001) (he : M.map (·.r) = L.map (·.r)) :
    Calls Tryz.prog 22 #[.slice p L.length c, .slice q M.length d] w fun e w' => e = .returned (.bool true) ∧ Below w.heap.size w w' := by
  have hlen : M.length = L.length := by have h := congrArg List.length he; rwa [List.length_map, List.length_map] at h
  obtain ⟨n, hnn⟩ : ∃ n, L.length = n := ⟨_, rfl⟩
  rw [hlen, hnn]
  rw [hnn] at hn hlen
  have HL := Lib.hid hL; have HM := Lib.hid hM; have TL := Lib.hid tL; have TM := Lib.hid tM; have HE := Lib.hid he; have LN := Lib.hid hnn; have MN := Lib.hid hlen; have HN := Lib.hid hn
  have B0 := Lib.hid (Below.refl w.heap.size w)
  have nB : (n : Int) ≤ 9223372036854775807 := by omega
  clear hL hM tL tM he hnn hlen hn
  go_enter Tryz.func22, Tryz.ntmps22
  go_upto_region 4 with (fail)
  go_loopw [5] (fun t wr => ∃ j : Nat, j ≤ n ∧ t = .int .i64 (j : Int) ∧ Below w.heap.size w wr) (fun t _ => n - (intOf t).toNat)
  case atStart => exact ⟨0, by omega, rfl, B0.out⟩
  case round =>
    clear B0
    obtain ⟨j, hj, rfl, hb⟩ := hrel
    have B1 := Lib.hid hb
    clear hb
    by_cases hlt : j < n
    · obtain ⟨x, hx⟩ : ∃ x, L[j]? = some x := ⟨_, List.getElem?_eq_getElem (by rw [LN.out]; exact hlt)⟩
      obtain ⟨y, hy⟩ : ∃ y, M[j]? = some y := ⟨_, List.getElem?_eq_getElem (by rw [MN.out]; exact hlt)⟩
      have hxy : y.r = x.r := by
        have h := congrArg (fun l => l[j]?) HE.out
        simp only [List.getElem?_map, hx, hy, Option.map_some, Option.some.injEq] at h
        exact h
      obtain ⟨b1, o1, rfl, l1, r1⟩ := HL.out j x hx
      obtain ⟨b2, o2, rfl, l2, r2⟩ := HM.out j y hy
      have j1 : (j : Int) < (n : Int) := by omega
      have FX := Lib.hid (pv_size x); have FY := Lib.hid (pv_size y)
      have TX := Lib.hid (TL.out x (List.mem_of_getElem? hx)); have TY := Lib.hid (TM.out y (List.mem_of_getElem? hy))
      have RS := Lib.hid (show rpS x.r y.r = true from rpS_iff.2 hxy.symm)
      go_upto_region 6 with (fail)
      obtain ⟨U, hU⟩ : ∃ U, wr.drew = U := ⟨_, rfl⟩
      have BU := Lib.hid (show Below w.heap.size w U from by rw [← hU]; exact B1.out.drew)
      have s0 : U.rangeAt b1 (o1 + j * 5) (pv x) ∧ U.rangeAt b2 (o2 + j * 5) (pv y) := ⟨rows_below r1 BU.out l1, rows_below r2 BU.out l2⟩
      have SR := Lib.hid (refSameReply_t x y U (TX.out.below BU.out) (TY.out.below BU.out))
      rw [RS.out] at SR
      have LL := Lib.hid (And.intro l1 l2)
      clear hx hy hxy r1 r2 l1 l2
      refine wp_region_held (S := fun Y => Y.rangeAt b1 (o1 + j * 5) (pv x) ∧ Y.rangeAt b2 (o2 + j * 5) (pv y)) (by kernel_rfl) ?_
      change wpAnyH _ _ _ _ _ _ _ _ wr.drew
      rw [hU]
      clear hU
      refine wpAnyH_take (i := 0) (v := ?_) rfl (by kernel_rfl) (by kernel_rfl) (by kernel_rfl) (fun _ _ _ h => h) (Or.inl ⟨by kernel_rfl, ?_⟩) s0 ?_
      rotate_left 1
      · (intro w hS; clear hS; go_simp; try (with_reducible rfl))
      refine wpAnyH_take (i := 1) (v := ?_) rfl (by kernel_rfl) (by kernel_rfl) (by kernel_rfl) (fun _ _ _ h => h) (Or.inl ⟨by kernel_rfl, ?_⟩) s0 ?_
      rotate_left 1
      · (intro w hS; clear hS; go_simp; try (with_reducible rfl))
      refine wpAnyH_take (i := 2) (v := ?_) rfl (by kernel_rfl) (by kernel_rfl) (by kernel_rfl) (fun _ _ _ h => h) (Or.inl ⟨by kernel_rfl, ?_⟩) s0 ?_
      rotate_left 1
      · (intro w hS; clear hS; go_simp; try (with_reducible rfl))
      refine wpAnyH_take (i := 3) (v := .agg (pv x).toArray) rfl (by kernel_rfl) (by kernel_rfl) (by kernel_rfl) (fun _ _ _ h => h) (yieldsIf_load_mid (by kernel_rfl) 26 (.tmp 19) rfl b1 (o1 + j * 5) (by go_simp) (pv x) _ (fun _ h => h.1) Tryz.underlying26 rfl (FX.out)) s0 ?_
      refine wpAnyH_take (i := 4) (v := ?_) rfl (by kernel_rfl) (by kernel_rfl) (by kernel_rfl) (fun _ _ _ h => h) (Or.inl ⟨by kernel_rfl, ?_⟩) s0 ?_
      rotate_left 1
      · (intro w hS; clear hS; go_simp; try (with_reducible rfl))
      refine wpAnyH_take (i := 5) (v := ?_) rfl (by kernel_rfl) (by kernel_rfl) (by kernel_rfl) (fun _ _ _ h => h) (Or.inl ⟨by kernel_rfl, ?_⟩) s0 ?_
      rotate_left 1
      · (intro w hS; clear hS; go_simp; try (with_reducible rfl))
      refine wpAnyH_take (i := 6) (v := ?_) rfl (by kernel_rfl) (by kernel_rfl) (by kernel_rfl) (fun _ _ _ h => h) (Or.inl ⟨by kernel_rfl, ?_⟩) s0 ?_
      rotate_left 1
      · (intro w hS; clear hS; go_simp; try (with_reducible rfl))
      refine wpAnyH_take (i := 7) (v := .agg (pv y).toArray) rfl (by kernel_rfl) (by kernel_rfl) (by kernel_rfl) (fun _ _ _ h => h) (yieldsIf_load_mid (by kernel_rfl) 26 (.tmp 23) rfl b2 (o2 + j * 5) (by go_simp) (pv y) _ (fun _ h => h.2) Tryz.underlying26 rfl (FY.out)) s0 ?_
      go_simp
      refine wpAnyH_ready (rs := [8]) (by kernel_rfl) (by simp) ?_
      refine AllReadyH.cons rfl (fun K hK => ?_) AllReadyH.nil
      rw [if_pos (by kernel_rfl)]
      go_simp
      refine SR.out.mono ?_
      rintro e w2 ⟨rfl, b2_⟩
      have B2 := Lib.hid (BU.out.trans (b2_.mono BU.out.size))
      have s2 : w2.rangeAt b1 (o1 + j * 5) (pv x) ∧ w2.rangeAt b2 (o2 + j * 5) (pv y) := ⟨rows_below s0.1 b2_ (Nat.lt_of_lt_of_le LL.out.1 BU.out.size), rows_below s0.2 b2_ (Nat.lt_of_lt_of_le LL.out.2 BU.out.size)⟩
      refine hK.out _ _ s2 (fun _ => ?_)
      clear hK K s0 b2_ SR BU
      refine wpAnyH_take (i := 9) (v := ?_) rfl (by kernel_rfl) (by kernel_rfl) (by kernel_rfl) (fun _ _ _ h => h) (Or.inl ⟨by kernel_rfl, ?_⟩) s2 ?_
      rotate_left 1
      · (intro w hS; clear hS; go_simp; try (with_reducible rfl))
      refine wpAnyH_done (by kernel_rfl) ?_ _
      go_simp
      go_wp2_with fail
      go_roundw
      case rel => exact ⟨j + 1, hlt, by go_num, B2.out⟩
      case measure => simp [intOf]; omega
    · obtain rfl : j = n := by omega
      clear hlt
      go_wp2_with fail
      go_ret
      exact ⟨rfl, B1.out⟩
end Go.Proofs.YtojianpbjckipaaGreatDoor
namespace Go.Proofs.YtojianpbjckipaaGreatDoor
open Go Go.RowKit Sh

def SmL (t : List Fld) : Prop := t.length ≤ 1000
structure SmS (s : Sp) : Prop where
  it : ∀ i ∈ s.its, SmL i.t
  wt : ∀ x ∈ s.wts, SmL x.p
  la : ∀ r ∈ s.last, SmL r.t
theorem smL_nil : SmL [] := Nat.zero_le _
theorem sm_new (rd wx : Int) : SmS (newS rd wx) := by
  refine ⟨fun i hi => ?_, fun i hi => ?_, fun r hr => ?_⟩
  · cases hi
  · cases hi
  · simp only [newS, List.mem_cons, List.not_mem_nil, or_false] at hr
    rcases hr with rfl | rfl | rfl | rfl <;> exact smL_nil
theorem sm_goOn {s : Sp} (h : SmS s) (now : Int) : SmS (goOnP s now) := ⟨fun i hi => h.it i (List.mem_filter.1 hi).1, h.wt, h.la⟩
theorem sm_note {s : Sp} (h : SmS s) {r : Rp} (hr : SmL r.t) : SmS (noteP s r) := ⟨h.it, h.wt, fun x hx => by
  rcases List.mem_or_eq_of_mem_set hx with hx | rfl
  · exact h.la x hx
  · exact hr⟩
theorem sm_getD {s : Sp} (h : SmS s) (k : Nat) : SmL (s.its.getD k i0).t := by
  rw [List.getD_eq_getElem?_getD]
  cases hq : s.its[k]? with
  | none => exact smL_nil
  | some i => exact h.it i (List.mem_of_getElem? hq)
theorem sm_erase {s : Sp} (h : SmS s) (k : Nat) : SmS { s with its := s.its.eraseIdx k } := ⟨fun i hi => h.it i (List.mem_of_mem_eraseIdx hi), h.wt, h.la⟩
theorem sm_bring (s : Sp) (r : Qp) : SmL (bringP s r).1.t := by
  unfold bringP
  split
  · exact smL_nil
  · exact smL_nil
theorem sm_repl {s : Sp} {r : Qp} (h : SmS s) (o : Option Nat) : SmS (replP s r o).1 ∧ SmL (replP s r o).2.1.t := by
  cases o with
  | none => exact ⟨h, smL_nil⟩
  | some k =>
    unfold replP
    dsimp only
    split
    · exact ⟨h, smL_nil⟩
    · exact ⟨sm_erase h k, sm_getD h k⟩
theorem sm_look {s : Sp} {r : Qp} (h : SmS s) (hp : SmL r.p) (o : Option Nat) : SmS (lookP s r o).1 ∧ SmL (lookP s r o).2.t := by
  cases o with
  | some k =>
    unfold lookP
    dsimp only
    split
    · exact ⟨sm_erase h k, sm_getD h k⟩
    · exact ⟨h, sm_getD h k⟩
  | none =>
    unfold lookP
    dsimp only
    split
    · exact ⟨h, smL_nil⟩
    · split
      · exact ⟨h, smL_nil⟩
      · refine ⟨⟨h.it, fun x hx => ?_, h.la⟩, smL_nil⟩
        rcases List.mem_append.1 hx with hx | hx
        · exact h.wt x hx
        · rw [List.mem_singleton.1 hx]; exact hp
theorem sm_act {s : Sp} {r : Qp} (h : SmS s) (hp : SmL r.p) : SmS (actP s r).1 ∧ SmL (actP s r).2.1.t := by
  unfold actP
  split
  · exact ⟨h, smL_nil⟩
  · split
    · exact ⟨h, sm_bring s r⟩
    · split
      · split
        · exact ⟨h, smL_nil⟩
        · exact ⟨h, sm_bring s r⟩
      · split
        · exact sm_repl h _
        · split
          · exact ⟨h, smL_nil⟩
          · exact sm_look h hp _
theorem sm_wake {t : List Fld} (ht : SmL t) : ∀ {l : List Wt}, (∀ x ∈ l, SmL x.p) → (∀ x ∈ (wakeP t l).1, SmL x.p) ∧ ∀ r ∈ (wakeP t l).2.1, SmL r.t
  | [], h => ⟨h, fun r hr => by cases hr⟩
  | x :: l, h => by
    have i := sm_wake ht (l := l) (fun z hz => h z (List.mem_cons_of_mem _ hz))
    unfold wakeP
    split
    · split
      · refine ⟨fun z hz => h z (List.mem_cons_of_mem _ hz), fun r hr => ?_⟩
        rw [List.mem_singleton.1 hr]; exact ht
      · refine ⟨i.1, fun r hr => ?_⟩
        rcases List.mem_cons.1 hr with rfl | hr
        · exact ht
        · exact i.2 r hr
    · refine ⟨fun z hz => ?_, i.2⟩
      rcases List.mem_cons.1 hz with rfl | hz
      · exact h _ List.mem_cons_self
      · exact i.1 z hz
theorem sm_lates : ∀ {l : List Rp} {s : Sp}, SmS s → (∀ r ∈ l, SmL r.t) → SmS (l.foldl lateS s)
  | [], _, h, _ => h
  | r :: l, s, h, hl => by
    refine sm_lates (l := l) ?_ (fun z hz => hl z (List.mem_cons_of_mem _ hz))
    unfold lateS
    split
    · exact sm_note h (hl r List.mem_cons_self)
    · exact h
theorem sm_put {s : Sp} {r : Qp} (h : SmS s) (ht : SmL r.t) : SmS (putP s r).1 := by
  have i := sm_wake ht h.wt
  have j : SmS ((wakeP r.t s.wts).2.1.foldl lateS { s with wts := (wakeP r.t s.wts).1 }) := sm_lates ⟨h.it, i.1, h.la⟩ i.2
  unfold putP
  dsimp only
  split
  · exact j
  · refine ⟨fun x hx => ?_, j.wt, j.la⟩
    rcases List.mem_append.1 hx with hx | hx
    · exact j.it x hx
    · rw [List.mem_singleton.1 hx]; exact ht
theorem lastOf_sm {s : Sp} (h : SmS s) (c : Int) : SmL (lastOf s c).t := by
  unfold lastOf
  rw [List.getD_eq_getElem?_getD]
  cases hq : s.last[c.toNat]? with
  | none => exact smL_nil
  | some i => exact h.la i (List.mem_of_getElem? hq)
/-- Do keeps all short. -/
theorem do_sm {s : Sp} (h : SmS s) (now : Int) (r : Rq) (hp : SmL (fl r.n r.G)) (ht : SmL (fl r.m r.H)) : SmS (doP s now r).1 := by
  unfold doP
  split
  · exact h
  · dsimp only
    have g := sm_goOn h now
    split
    · exact g
    · split
      · exact g
      · have a := sm_act (r := qp r) g hp
        unfold answP
        dsimp only
        split
        · exact sm_put (sm_note a.1 a.2) ht
        · exact sm_note a.1 a.2
/-- No reply of Do's is long. -/
theorem do_rows {s : Sp} (h : SmS s) (now : Int) (r : Rq) : ∀ z ∈ (doP s now r).2, SmL z.t := by
  cases hok : okDo s now r with
  | false => rw [do_no hok]; intro z hz; cases hz
  | true =>
    have hs := may_smallU (okDo_h hok).2.1
    have hp : SmL (fl r.n r.G) := by unfold SmL; rw [fl_length]; exact hs.1
    have ht : SmL (fl r.m r.H) := by unfold SmL; rw [fl_length]; exact hs.2
    unfold doP
    rw [if_neg (by rw [hok]; decide)]
    dsimp only
    have g := sm_goOn h now
    split
    · intro z hz; rw [List.mem_singleton.1 hz]; exact smL_nil
    · split
      · intro z hz; rw [List.mem_singleton.1 hz]; exact lastOf_sm h _
      · have a := sm_act (r := qp r) g hp
        unfold answP
        dsimp only
        split
        · intro z hz
          rcases List.mem_cons.1 hz with rfl | hz
          · exact a.2
          · exact (sm_wake ht (sm_note a.1 a.2).wt).2 z hz
        · intro z hz; rw [List.mem_singleton.1 hz]; exact a.2
end Go.Proofs.YtojianpbjckipaaGreatDoor
namespace Go.Proofs.YtojianpbjckipaaGreatDoor
open Go Go.RowKit Sh

theorem do_lenV {s : Sp} (hs : s.wts.length ≤ 1000) (now : Int) (r : Rq) : (doP s now r).2.length ≤ 1001 := by
  unfold doP
  split
  · exact Nat.zero_le _
  · dsimp only
    split
    · exact Nat.le_add_left 1 1000
    · split
      · exact Nat.le_add_left 1 1000
      · unfold answP
        dsimp only
        split
        · rename_i hb
          have h1 := (wake_le (qp r).t (noteP (actP (goOnP s now) (qp r)).1 (actP (goOnP s now) (qp r)).2.1).wts).1
          have h2 : (noteP (actP (goOnP s now) (qp r)).1 (actP (goOnP s now) (qp r)).2.1).wts = s.wts := by
            rcases act_puts hb with e | ⟨k, e⟩
            · rw [e]; rfl
            · rw [e]; rfl
          rw [h2] at h1
          show (wakeP (qp r).t (noteP (actP (goOnP s now) (qp r)).1 (actP (goOnP s now) (qp r)).2.1).wts).2.1.length + 1 ≤ 1001
          rw [h2]
          omega
        · exact Nat.le_add_left 1 1000
theorem FT.nf {W : World} {B c : Nat} {p : Option Addr} {l : List Fld} (h : FT W B p c l) : NF W B p := by
  unfold FT at h
  rcases h.2 with ⟨hv, _⟩ | ⟨g', cap, cur, hv, hb, hh, _⟩
  · injection hv with h1 _ _
    rw [h1]
    exact NF.no _ _
  · injection hv with h1 _ _
    subst h1
    exact ⟨fun a ha => by cases ha; exact hb, fun a ha => by cases ha; exact ⟨cur.toList, by simpa [Blk] using hh⟩⟩
theorem SF.ys {B : Nat} {W : World} {x : Spv} (h : SF B W x) (hs : Small x.sp) : YS B W x := by
  have w := h.w hs
  have hn : x.its.length ≤ 1000 := by have := hs.n; rwa [show x.sp.its = x.its.map (·.i) from rfl, List.length_map] at this
  have hm : x.wts.length ≤ 1000 := by have := hs.m; rwa [show x.sp.wts = x.wts.map (·.x) from rfl, List.length_map] at this
  refine ⟨h.its, fun y hy => ⟨(h.it y hy).tr ?_, (h.it y hy).nf⟩, h.wts, fun y hy => ⟨(h.wt y hy).tr ?_, (h.wt y hy).nf⟩, h.l4, fun y hy => ⟨(h.la y hy).tr ?_, (h.la y hy).nf⟩, by omega, by omega⟩
  · have := hs.it y.i (List.mem_map_of_mem hy); omega
  · have := hs.wt y.x (List.mem_map_of_mem hy); omega
  · have := hs.la y.r (List.mem_map_of_mem hy); omega
/-- Do of a space that may be: what it leaves. -/
theorem DoC (x : Spv) (now : Int) (r : Rv) (w : World) (hx : SpW w x) (ho : MayS x.sp) (hr : RvW w r) (hu : UT w) :
    Calls Tryz.prog 20 #[.agg (sv x).toArray, .int .i64 now, .agg (rv r).toArray] w fun e w' => ∃ (x' : Spv) (R : List Rpv) (q : Option Addr) (c : Nat), e = .returned (.tuple #[.agg (sv x').toArray, .slice q R.length c]) ∧ x'.sp = (doP x.sp now r.r).1 ∧ R.map (·.r) = (doP x.sp now r.r).2 ∧ YS w.heap.size w' x' ∧ MayS x'.sp ∧ w'.ownsRow w.heap.size 26 5 (.slice q R.length c) R.length (R.flatMap pv) ∧ (∀ y ∈ R, FT w' w.heap.size y.p y.c y.r.t) ∧ Below w.heap.size w w' := by
  refine (DoA_t x now r w hx ho.small hr hu).mono ?_
  rintro e w' ⟨x', R, q, c, he, p, rr, sf, o, ft, ap, b⟩
  have hm' : MayS x'.sp := by rw [p]; exact (do_ok ho now r.r).1
  exact ⟨x', R, q, c, he, p, rr, sf.ys hm'.small, hm', o, ft, b⟩
/-- What Do leaves. -/
structure PR (w0 W : World) (x : Spv) (R : List Rpv) (q : Option Addr) (g : Nat) : Prop where
  box : Blk W g 29 (sv x)
  ys : YS w0.heap.size W x
  mx : MayS x.sp
  row : RowL W q 5 pv R
  ft : ∀ y ∈ R, FT W w0.heap.size y.p y.c y.r.t
  ge : w0.heap.size ≤ g
  bel : Below w0.heap.size w0 W
theorem PR.below {w0 W W' : World} {x : Spv} {R : List Rpv} {q : Option Addr} {g : Nat} (h : PR w0 W x R q g) (hb : Below W.heap.size W W') : PR w0 W' x R q g :=
  ⟨h.box.below hb h.box.lt, h.ys.below hb, h.mx, h.row.below hb, fun y hy => (h.ft y hy).below hb, h.ge, h.bel.trans (hb.mono h.bel.size)⟩
theorem PR.tr {w0 W : World} {s : Sp} {now : Int} {r : Rq} {x : Spv} {R : List Rpv} {q : Option Addr} {g : Nat} (h : PR w0 W x R q g) (hs : Small s) (he : R.map (·.r) = (doP s now r).2) : ∀ v ∈ R, TR W v.p v.r.t := fun v hv => (h.ft v hv).tr (by
  have h1 := do_rows ⟨hs.it, hs.wt, hs.la⟩ now r v.r (by rw [← he]; exact List.mem_map_of_mem hv)
  unfold SmL at h1
  omega)
/-- Both spaces as they are kept, in the blocks gs, gt. -/
structure PM (w0 W : World) (gs gt : Nat) (x y : Spv) : Prop where
  bx : Blk W gs 29 (sv x)
  bt : Blk W gt 29 (sv y)
  xs : YS w0.heap.size W x
  ys : YS w0.heap.size W y
  mx : MayS x.sp
  eq : y.sp = x.sp
  ne : gs ≠ gt
  gsl : w0.heap.size ≤ gs
  gtl : w0.heap.size ≤ gt
  bel : Below w0.heap.size w0 W
theorem PM.my {w0 W : World} {gs gt : Nat} {x y : Spv} (h : PM w0 W gs gt x y) : MayS y.sp := by rw [h.eq]; exact h.mx
theorem PM.below {w0 W W' : World} {gs gt : Nat} {x y : Spv} (h : PM w0 W gs gt x y) (hb : Below W.heap.size W W') : PM w0 W' gs gt x y :=
  ⟨h.bx.below hb h.bx.lt, h.bt.below hb h.bt.lt, h.xs.below hb, h.ys.below hb, h.mx, h.eq, h.ne, h.gsl, h.gtl, h.bel.trans (hb.mono h.bel.size)⟩
theorem below_oneV {g : Nat} {w V W : World} (hb : Below w.heap.size w V) (hg : w.heap.size ≤ g) (hk : Kept (fun k => k = g) V W) : Below w.heap.size w W :=
  hb.trans ⟨hk.os, hk.tape, hk.output, hk.size, fun k hlt => hk.block k (Nat.lt_of_lt_of_le hlt hb.size) (by omega)⟩
/-- Both are kept anew. -/
theorem PM.next {w0 wr W1 W2 W W' W'' : World} {gs gt gx gy : Nat} {x y x' y' : Spv} {R R2 : List Rpv} {q q2 : Option Addr} (h : PM w0 wr gs gt x y) (hx : PR wr W1 x' R q gx) (h12 : Below W1.heap.size W1 W2) (hy : PR W1 W2 y' R2 q2 gy) (h2 : Below W2.heap.size W2 W)
    (k1 : Kept (fun k => k = gs) W W') (b1 : Blk W' gs 29 (sv x')) (k2 : Kept (fun k => k = gt) W' W'') (b2 : Blk W'' gt 29 (sv y')) (he : y'.sp = x'.sp) : PM w0 W'' gs gt x' y' := by
  have hW : Below wr.heap.size wr W := (hx.bel.trans (h12.mono hx.bel.size)).trans (h2.mono (Nat.le_trans hx.bel.size h12.size))
  have p := h.below hW
  have bt1 := p.bt.kept k1 (fun e => h.ne e.symm)
  have sx := ((((hx.ys.below h12).below h2).low h.bel.size).kept k1 p.bx).kept k2 bt1
  have sy := (((hy.ys.below h2).low (Nat.le_trans h.bel.size hx.bel.size)).kept k1 p.bx).kept k2 bt1
  exact ⟨b1.kept k2 h.ne, b2, sx, sy, hx.mx, he, h.ne, h.gsl, h.gtl, below_oneV (below_oneV p.bel h.gsl k1) h.gtl k2⟩
end Go.Proofs.YtojianpbjckipaaGreatDoor
namespace Go.Proofs.YtojianpbjckipaaGreatDoor
open Go Go.RowKit Sh

set_option maxRecDepth 100000 in
set_option maxHeartbeats 8000000 in
theorem smoves_t (A : Option Addr) (n c : Nat) (F : Nat → Av) (A2 : Option Addr) (m c2 : Nat) (F2 : Nat → Av) (w : World) (hn : n ≤ 9223372036854775807) (hm : m ≤ 9223372036854775807) (hA : AW w A n F) (hq : ∀ j, j < n → InRq (F j).r.r) (hA2 : AW w A2 m F2) (hu : UT w) (hk : KAt w) :
    Calls Tryz.prog 5 #[.slice A n c, .slice A2 m c2] w fun e w' => e = .returned (.bool true) ∧ Below w.heap.size w w' := by
  have HA := Lib.hid hA; have HQ := Lib.hid hq; have HU := Lib.hid hu; have HK := Lib.hid hk; have HG := Lib.hid hk.lt; have HA2 := Lib.hid hA2; have HM := Lib.hid hm
  clear hA hq hu hk hA2 hm
  go_enter Tryz.func5, Tryz.ntmps5
  go_wp2_with fail
  refine (New_t 15 15 w).mono ?_
  rintro e w2 ⟨rfl, b2⟩
  have B2 := Lib.hid b2
  have Z2 := Lib.hid (Blk.new w2 29 zSp)
  obtain ⟨x0, hx0⟩ : ∃ x, nsp 15 15 0 1 2 3 = x := ⟨_, rfl⟩
  have P0 : x0.sp = newS 15 15 := by rw [← hx0]; exact nsp_sp 15 15
  have hl0 : x0.last.length = 4 := by rw [← hx0]; rfl
  have PB0 := Lib.hid (show PB w ((w2.alloc (.cells zSp.toArray 29)).setRow w2.heap.size (sv x0).toArray) w2.heap.size x0 from
    ⟨(Blk.new w2 29 zSp).setRow (sv x0), by rw [← hx0]; exact sf_new _ _ _ _ _ _ _ _, by rw [P0]; exact Op15.new.may, by rw [P0]; exact in_new 15 15, B2.out.size, below_setRow (B2.out.alloc B2.out.size _) B2.out.size _⟩)
  have FX0 := Lib.hid (sv_size x0 hl0); have FO0 := Lib.hid (sv_one x0); have SL0 := Lib.hid (sv_len x0 hl0)
  rw [hx0]
  clear b2 B2 hx0 hl0 P0
  go_upto_region 2 with ((with_reducible refine at_op (.store 29 (.tmp 5) (.tmp 17)) rfl ?_); go_must (refine store_blk 29 (.tmp 5) (.tmp 17) w2.heap.size 29 _ (sv x0) rfl rfl Z2.out SL0.out.symm FX0.out FO0.out rfl rfl ?_))
  change Code.wp _ _ _ _ ((w2.alloc (.cells zSp.toArray 29)).setRow w2.heap.size (sv x0).toArray)
  obtain ⟨V2, hV2⟩ : ∃ V, (w2.alloc (.cells zSp.toArray 29)).setRow w2.heap.size (sv x0).toArray = V := ⟨_, rfl⟩
  rw [hV2] at PB0 ⊢
  obtain ⟨g, hg⟩ : ∃ g, w2.heap.size = g := ⟨_, rfl⟩
  rw [hg] at PB0 ⊢
  clear hV2 hg Z2 FX0 FO0 SL0
  go_upto_block 0 with (fail)
  go_cut [6] from 18 to 48 (fun s6 wx => ∃ (now : Int) (x : Spv), s6 = .int .i64 now ∧ 0 ≤ now ∧ now ≤ 600 ∧ PB w wx g x)
  case first =>
    go_wp2_with fail
    go_loopw [6, 7] (fun s t wr => ∃ (i : Nat) (now : Int) (x : Spv), i ≤ n ∧ (i : Int) ≤ 30 ∧ s = .int .i64 now ∧ t = .int .i64 (i : Int) ∧ now ≤ 20 * (i : Int) ∧ 0 ≤ now ∧ PB w wr g x) (fun _ t _ => n - (intOf t).toNat)
    case atStart => exact ⟨0, 0, x0, by omega, by omega, rfl, rfl, by omega, by omega, PB0.out⟩
    case round =>
      clear PB0
      obtain ⟨j, now, x, hj, hj40, rfl, rfl, hn20, hn0, px⟩ := hrel
      have PX := Lib.hid px; have HN20 := Lib.hid hn20
      clear px
      by_cases hlt : j < n
      · by_cases hm : (j : Int) < 30
        · obtain ⟨b, o, rfl, hbl, rg0, cd0⟩ := HA.out.read hlt
          have rg := rows_below rg0 PX.out.bel hbl
          have cd := (PX.out.bel.cell (p := ⟨b, o + j * 7 + 6, none⟩) hbl).trans cd0
          clear rg0 cd0
          have j1 : (j : Int) < (n : Int) := by omega
          have n800 : now ≤ 800 := by omega
          obtain ⟨y, hy⟩ : ∃ y, F j = y := ⟨_, rfl⟩
          have HRY := Lib.hid (show RvW w y.r by rw [← hy]; exact HA.out.r j hlt)
          have HQY := Lib.hid (show InRq y.r.r by rw [← hy]; exact HQ.out j hlt)
          rw [hy] at rg cd
          obtain ⟨k, hk, hke⟩ := mod_s 20 (by decide) (by decide) y.d
          rw [show ((20 : Nat) : Int) = 20 from rfl] at hke
          have k1 : (k : Int) < 20 := by omega
          have RG := Lib.hid rg; have HBL := Lib.hid hbl
          have HK20 := Lib.hid (show now + (k : Int) ≤ 20 * ((j + 1 : Nat) : Int) ∧ (j : Int) + 1 ≤ 30 ∧ 0 ≤ now + (k : Int) from ⟨by have := HN20.out; omega, by omega, by omega⟩)
          clear hy rg hbl hn20 hk
          go_upto_region 7 with (fail)
          obtain ⟨now', hnw⟩ : ∃ z, now + (k : Int) = z := ⟨_, rfl⟩
          rw [hnw] at HK20 ⊢
          have FXU := Lib.hid (sv_size x PX.out.sf.l4); have FR := Lib.hid (rv_size y.r)
          obtain ⟨U, hU⟩ : ∃ U, wr.drew = U := ⟨_, rfl⟩
          have BU := Lib.hid (show Below wr.heap.size wr U from by rw [← hU]; exact (Below.refl _ _).drew)
          have PU := Lib.hid (PX.out.below BU.out)
          have HBW := Lib.hid (show b < wr.heap.size from Nat.lt_of_lt_of_le HBL.out PX.out.bel.size)
          have G1 : U.rangeAt b (o + j * 7) (rv y.r) := rows_below RG.out BU.out HBW.out
          have HBU := Lib.hid (show b < U.heap.size from Nat.lt_of_lt_of_le HBW.out BU.out.size)
          have BX := Lib.hid PU.out.box
          have HBG := Lib.hid (show b ≠ g by have := PX.out.ge; have := HBL.out; omega)
          have DO_ := Lib.hid (DoB x now' y.r U PU.out.w PU.out.mx PU.out.inn (HRY.out.below PU.out.bel) HQY.out (HU.out.below PU.out.bel))
          clear hnw PX RG HBL hke k1 cd
          refine wp_region_E (fun Y => Y.rangeAt b (o + j * 7) (rv y.r)) (fun _ => false) (by kernel_rfl) ?_
          change wpAnyE _ _ _ _ _ _ _ _ _ wr.drew
          rw [hU]
          clear hU
          refine wpAnyE_take (i := 1) (v := ?_) rfl (by kernel_rfl) (by kernel_rfl) (by kernel_rfl) (by kernel_rfl) (fun _ _ _ h => h) (Or.inl ⟨by kernel_rfl, ?_⟩) G1 ?_
          rotate_left 1
          · (intro w hS; clear hS; go_simp; try (with_reducible rfl))
          refine wpAnyE_take (i := 2) (v := ?_) rfl (by kernel_rfl) (by kernel_rfl) (by kernel_rfl) (by kernel_rfl) (fun _ _ _ h => h) (Or.inl ⟨by kernel_rfl, ?_⟩) G1 ?_
          rotate_left 1
          · (intro w hS; clear hS; go_simp; try (with_reducible rfl))
          refine wpAnyE_take (i := 3) (v := ?_) rfl (by kernel_rfl) (by kernel_rfl) (by kernel_rfl) (by kernel_rfl) (fun _ _ _ h => h) (Or.inl ⟨by kernel_rfl, ?_⟩) G1 ?_
          rotate_left 1
          · (intro w hS; clear hS; go_simp; try (with_reducible rfl))
          refine wpAnyE_take (i := 4) (v := ?_) rfl (by kernel_rfl) (by kernel_rfl) (by kernel_rfl) (by kernel_rfl) (fun _ _ _ h => h) (Or.inl ⟨by kernel_rfl, ?_⟩) G1 ?_
          rotate_left 1
          · (intro w hS; clear hS; go_simp; try (with_reducible rfl))
          refine wpAnyE_take (i := 5) (v := ?_) rfl (by kernel_rfl) (by kernel_rfl) (by kernel_rfl) (by kernel_rfl) (fun _ _ _ h => h) (Or.inl ⟨by kernel_rfl, ?_⟩) G1 ?_
          rotate_left 1
          · (intro w hS; clear hS; go_simp; try (with_reducible rfl))
          refine wpAnyE_take (i := 6) (v := .agg (rv y.r).toArray) rfl (by kernel_rfl) (by kernel_rfl) (by kernel_rfl) (by kernel_rfl) (fun _ _ _ h => h) (yieldsIf_load_mid (by kernel_rfl) 51 (.tmp 44) rfl b (o + j * 7) (by go_simp) (rv y.r) _ (fun _ h => h) Tryz.underlying51 rfl (FR.out)) G1 ?_
          refine wpAnyE_load (i := 0) (by kernel_rfl) rfl (by kernel_rfl) 29 (.tmp 5) g 29 (sv x) _ rfl BX.out Tryz.underlying29 rfl FXU.out rfl (.inr G1) ?_
          refine wpAnyE_one (i := 7) (by kernel_rfl) rfl (by kernel_rfl) (fun K hK => ?_)
          go_simp
          refine DO_.out.mono ?_
          rintro e w2 ⟨x', R, q, c', rfl, -, -, s', -, m', i', -, -, b'⟩
          have HL4 := Lib.hid (show x'.last.length = 4 from s'.l4)
          have FX2 := Lib.hid (sv_size x' HL4.out); have FO2 := Lib.hid (sv_one x'); have SL2 := Lib.hid (sv_len x' HL4.out); have SL1 := Lib.hid (sv_len x PU.out.sf.l4)
          have S2 := Lib.hid s'; have B2 := Lib.hid b'; have M2 := Lib.hid m'; have I2 := Lib.hid i'
          have BX2 := Lib.hid (BX.out.below b' BX.out.lt)
          have G2 : w2.rangeAt b (o + j * 7) (rv y.r) := rows_below G1 b' HBU.out
          refine hK.out _ _ (.inr G2) ?_
          clear hK K s' b' m' i' DO_ G1 BX
          refine wpAnyE_take (i := 8) (v := ?_) rfl (by kernel_rfl) (by kernel_rfl) (by kernel_rfl) (by kernel_rfl) (fun _ _ _ h => h) (Or.inl ⟨by kernel_rfl, ?_⟩) G2 ?_
          rotate_left 1
          · (intro w hS; clear hS; go_simp; try (with_reducible rfl))
          refine wpAnyE_take (i := 9) (v := ?_) rfl (by kernel_rfl) (by kernel_rfl) (by kernel_rfl) (by kernel_rfl) (fun _ _ _ h => h) (Or.inl ⟨by kernel_rfl, ?_⟩) G2 ?_
          rotate_left 1
          · (intro w hS; clear hS; go_simp; try (with_reducible rfl))
          refine wpAnyE_take (i := 10) (v := ?_) rfl (by kernel_rfl) (by kernel_rfl) (by kernel_rfl) (by kernel_rfl) (fun _ _ _ h => h) (Or.inl ⟨by kernel_rfl, ?_⟩) G2 ?_
          rotate_left 1
          · (intro w hS; clear hS; go_simp; try (with_reducible rfl))
          refine wpAnyE_store (i := 11) (by kernel_rfl) rfl (by kernel_rfl) 29 (.tmp 5) (.tmp 47) g 29 (sv x) (sv x') rfl BX2.out (SL1.out.trans SL2.out.symm) FX2.out FO2.out rfl rfl fun wz rz KZ => ?_
          have RZ := Lib.hid rz
          have P3 := Lib.hid (PU.out.put S2.out M2.out I2.out B2.out KZ RZ.out)
          have G3 : wz.rangeAt b (o + j * 7) (rv y.r) := fun i v hv => by
            exact (KZ.cell (p := ⟨b, o + j * 7 + i, none⟩) (Nat.lt_of_lt_of_le HBU.out B2.out.size) HBG.out).trans (G2 i v hv)
          refine ⟨.inr G3, ?_⟩
          clear G2 G3 KZ rz
          refine wpAnyE_done (by kernel_rfl) ?_ _
          go_simp
          go_wp2_with fail
          exact ⟨⟨j + 1, now', x', hlt, by have := HK20.out.2.1; omega, rfl, by go_num, HK20.out.1, HK20.out.2.2, P3.out⟩, by simp [intOf]; omega⟩
        · have hmf : decide ((j : Int) < 30) = false := decide_eq_false hm
          have j1 : (j : Int) < (n : Int) := by omega
          clear hm
          go_wp2_with fail
          go_meet
          exact ⟨now, x, rfl, hn0, by have := HN20.out; omega, PX.out⟩
      · obtain rfl : j = n := by omega
        clear hlt
        go_wp2_with fail
        go_meet
        exact ⟨now, x, rfl, hn0, by have := HN20.out; omega, PX.out⟩
  case rest =>
  obtain ⟨now0, x, rfl, hn0, hn6, pb⟩ := hcut
  have P3 := Lib.hid pb; have NOW0 := Lib.hid (show 0 ≤ now0 ∧ now0 ≤ 600 from ⟨hn0, hn6⟩)
  obtain ⟨w3, hw3⟩ : ∃ W, wc = W := ⟨_, rfl⟩
  rw [hw3] at P3 ⊢
  clear pb hw3 PB0 HA HQ hn0 hn6
  have MX := Lib.hid (mayS_iff.2 P3.out.mx)
  have L4 := Lib.hid (show x.sp.last.length = 4 from by show (x.last.map (·.r)).length = 4; rw [List.length_map]; exact P3.out.w.l4)
  have FX := Lib.hid (sv_size x P3.out.w.l4)
  have PY := Lib.hid (SPut_yes x w3 P3.out.w MX.out)
  have FO := Lib.hid (frontS_ok MX.out L4.out P3.out.inn)
  have PBY := Lib.hid (putS_bytes x.sp)
  have LE := Lib.hid (putS_le MX.out L4.out)
  obtain ⟨xs, hxs⟩ : ∃ l, putS x.sp = l := ⟨_, rfl⟩
  rw [hxs] at PY FO PBY LE
  obtain ⟨L, hL⟩ : ∃ L, xs.length = L := ⟨_, rfl⟩
  rw [hL] at PY LE
  have HL := Lib.hid hL
  clear hxs hL
  have KB := Lib.hid P3.out.box
  go_wp2_with ((with_reducible refine load_blk 29 (.tmp 5) g 29 (sv x) _ rfl rfl ?_ Tryz.underlying29 ?_ ?_ ?_ ?_); exact KB.out; exact rfl; exact FX.out; exact rfl)
  refine PY.out.mono ?_
  rintro e w4 ⟨u, rfl, o4, b4⟩
  obtain ⟨A4, c4, rfl, _⟩ := own_form o4
  have P4 := Lib.hid (P3.out.below b4); have S4 := Lib.hid (Sr.of_own o4)
  clear o4 b4 PY P3 KB
  have GT := Lib.hid (SGetY_t xs A4 L c4 w4 HL.out S4.out PBY.out (by have := LE.out; omega))
  go_wp2_with fail
  refine GT.out.mono ?_
  rintro e w5 ⟨b5, hh⟩
  rcases hh with ⟨hbad, _⟩ | ⟨hok, y, hy, rfl, hyw, hyy⟩
  · rw [FO.out.2] at hbad; cases hbad
  have HY := Lib.hid (hy.trans FO.out.1); have P5 := Lib.hid (P4.out.below b5); have YW := Lib.hid hyw; have YY := Lib.hid (hyy.low P4.out.bel.size)
  clear hok b5 hy hyw hyy GT P4 S4 FO PBY LE HL
  have FX_y := Lib.hid (sv_size y YW.out.l4); have FO_y := Lib.hid (sv_one y); have SL_y := Lib.hid (sv_len y YW.out.l4)
  have Z_y := Lib.hid (Blk.new w5 29 [.int .i64 0, .slice none 0 0, .slice none 0 0, .int .i64 0, .int .i64 0, .int .i64 0, .int .i64 0, .int .i64 0, .slice none 0 0, .bool false, .int .i64 0, .int .i64 0, .int .i64 0, .slice none 0 0, .bool false, .int .i64 0, .int .i64 0, .int .i64 0, .slice none 0 0, .bool false, .int .i64 0, .int .i64 0, .int .i64 0, .slice none 0 0, .bool false])
  have KN_y := Lib.hid (KSp.new (w1 := w5) (x := y) YW.out)
  go_upto_region 10 with ((with_reducible refine at_op (.store 29 (.tmp 10) (.tmp 57)) rfl ?_); go_must (refine store_blk 29 (.tmp 10) (.tmp 57) (w5).heap.size 29 _ (sv y) rfl rfl Z_y.out SL_y.out.symm FX_y.out FO_y.out rfl rfl ?_))
  obtain ⟨V5, hV5⟩ : ∃ V, ((w5).alloc (.cells #[.int .i64 0, .slice none 0 0, .slice none 0 0, .int .i64 0, .int .i64 0, .int .i64 0, .int .i64 0, .int .i64 0, .slice none 0 0, .bool false, .int .i64 0, .int .i64 0, .int .i64 0, .slice none 0 0, .bool false, .int .i64 0, .int .i64 0, .int .i64 0, .slice none 0 0, .bool false, .int .i64 0, .int .i64 0, .int .i64 0, .slice none 0 0, .bool false] 29)).setRow (w5).heap.size (sv y).toArray = V := ⟨_, rfl⟩
  rw [hV5] at KN_y ⊢
  have K_y := Lib.hid KN_y.out.1
  have B_y := Lib.hid KN_y.out.2
  clear hV5 KN_y Z_y FO_y SL_y
  obtain ⟨gt, hgt⟩ : ∃ g, (w5).heap.size = g := ⟨_, rfl⟩
  have NE := Lib.hid (show g ≠ gt from by have := P5.out.box.lt; omega); have GTL := Lib.hid (show w.heap.size ≤ gt from by have := P5.out.bel.size; omega)
  rw [hgt] at K_y ⊢
  clear hgt
  have P6 := Lib.hid (P5.out.below B_y.out)
  have PM0 := Lib.hid (show PM w V5 g gt x y from ⟨P6.out.box, K_y.out.box, P6.out.sf.ys P6.out.mx.small, YY.out.below B_y.out, P6.out.mx, HY.out, NE.out, P6.out.ge, GTL.out, P6.out.bel⟩)
  clear P5 P6 K_y B_y YW YY HY NE GTL FX FX_y MX L4
  go_wp2_with fail
  go_loopw [6, 12] (fun s t wr => ∃ (i : Nat) (now : Int) (x y : Spv), i ≤ m ∧ (i : Int) ≤ 20 ∧ s = .int .i64 now ∧ t = .int .i64 (i : Int) ∧ now ≤ 600 + 20 * (i : Int) ∧ 0 ≤ now ∧ PM w wr g gt x y) (fun _ t _ => m - (intOf t).toNat)
  case atStart => exact ⟨0, now0, x, y, by omega, by omega, rfl, rfl, by have := NOW0.out.2; omega, NOW0.out.1, PM0.out⟩
  case round =>
    clear PM0 NOW0
    obtain ⟨j, now, x, y, hj, hj20, rfl, rfl, hn20, hn0, pq⟩ := hrel
    have PX := Lib.hid pq; have HN20 := Lib.hid hn20
    clear pq
    by_cases hlt : j < m
    · by_cases hm : (j : Int) < 20
      · obtain ⟨b, o, rfl, hbl, rg0, cd0⟩ := HA2.out.read hlt
        have HBL := Lib.hid hbl
        have RG0 := Lib.hid rg0
        have cd := (PX.out.bel.cell (p := ⟨b, o + j * 7 + 6, none⟩) hbl).trans cd0
        clear rg0 cd0 hbl
        have j1 : (j : Int) < (m : Int) := by omega
        have n1000 : now ≤ 1000 := by omega
        obtain ⟨z, hz⟩ : ∃ z, F2 j = z := ⟨_, rfl⟩
        have HRZ := Lib.hid (show RvW w z.r by rw [← hz]; exact HA2.out.r j hlt)
        rw [hz] at cd RG0
        have FR := Lib.hid (rv_size z.r)
        obtain ⟨k, hk, hke⟩ := mod_s 20 (by decide) (by decide) z.d
        rw [show ((20 : Nat) : Int) = 20 from rfl] at hke
        have k1 : (k : Int) < 20 := by omega
        have HK20 := Lib.hid (show now + (k : Int) ≤ 600 + 20 * ((j + 1 : Nat) : Int) ∧ 0 ≤ now + (k : Int) ∧ ((j + 1 : Nat) : Int) ≤ 20 from ⟨by have := HN20.out; omega, by omega, by omega⟩)
        have HLT := Lib.hid hlt; have P4 := PX
        clear hz hk hlt hn20 PX
        go_upto_region 16 with (fail)
        clear cd
        obtain ⟨now', hnw⟩ : ∃ z, now + (k : Int) = z := ⟨_, rfl⟩
        rw [hnw] at HK20 ⊢
        clear hnw hke k1 hn0 HN20 n1000 hm
        go_cut [13, 14] (fun s13 s14 wx => ∃ (x' : Spv) (R : List Rpv) (q : Option Addr) (d gx : Nat), s13 = .pointer (some ⟨gx, 0, none⟩) ∧ s14 = .slice q R.length d ∧ x'.sp = (doP x.sp now' z.r.r).1 ∧ R.map (·.r) = (doP x.sp now' z.r.r).2 ∧ PR wr wx x' R q gx)
        case first =>
          obtain ⟨U, hU⟩ : ∃ U, wr.drew = U := ⟨_, rfl⟩
          have BU := Lib.hid (show Below wr.heap.size wr U from by rw [← hU]; exact (Below.refl _ _).drew)
          have PU := Lib.hid (P4.out.below BU.out)
          have FXU := Lib.hid (sv_size x PU.out.xs.l4)
          have SU := Lib.hid (fun (Y : World) (hb : Below U.heap.size U Y) => show Blk Y g 29 (sv x) ∧ Y.rangeAt b (o + j * 7) (rv z.r) from
            ⟨PU.out.bx.below hb PU.out.bx.lt, rows_below (rows_below RG0.out PU.out.bel HBL.out) hb (Nat.lt_of_lt_of_le HBL.out PU.out.bel.size)⟩)
          have BR0 := Lib.hid (Below.refl U.heap.size U)
          have s0 := SU.out U BR0.out
          have DOU := Lib.hid (fun (Y : World) (hb : Below U.heap.size U Y) => DoC x now' z.r Y (PU.out.xs.w.below hb) PU.out.mx (HRZ.out.below (PU.out.below hb).bel) (HU.out.below (PU.out.below hb).bel))
          refine wp_region_held (S := fun Y => Blk Y g 29 (sv x) ∧ Y.rangeAt b (o + j * 7) (rv z.r)) (by kernel_rfl) ?_
          change wpAnyH _ _ _ _ _ _ _ _ wr.drew
          rw [hU]
          clear hU
          refine wpAnyH_take (i := 0) (v := .agg (sv x).toArray) rfl (by kernel_rfl) (by kernel_rfl) (by kernel_rfl) (fun _ _ _ h => h) (yieldsIf_load_mid (by kernel_rfl) 29 (.tmp 5) rfl g 0 (by go_simp) (sv x) _ (fun _ h => rows_of_blk h.1) Tryz.underlying29 rfl (FXU.out)) s0 ?_
          refine wpAnyH_take (i := 1) (v := ?_) rfl (by kernel_rfl) (by kernel_rfl) (by kernel_rfl) (fun _ _ _ h => h) (Or.inl ⟨by kernel_rfl, ?_⟩) s0 ?_
          rotate_left 1
          · (intro w hS; clear hS; go_simp; try (with_reducible rfl))
          refine wpAnyH_take (i := 2) (v := ?_) rfl (by kernel_rfl) (by kernel_rfl) (by kernel_rfl) (fun _ _ _ h => h) (Or.inl ⟨by kernel_rfl, ?_⟩) s0 ?_
          rotate_left 1
          · (intro w hS; clear hS; go_simp; try (with_reducible rfl))
          refine wpAnyH_take (i := 3) (v := ?_) rfl (by kernel_rfl) (by kernel_rfl) (by kernel_rfl) (fun _ _ _ h => h) (Or.inl ⟨by kernel_rfl, ?_⟩) s0 ?_
          rotate_left 1
          · (intro w hS; clear hS; go_simp; try (with_reducible rfl))
          refine wpAnyH_take (i := 4) (v := ?_) rfl (by kernel_rfl) (by kernel_rfl) (by kernel_rfl) (fun _ _ _ h => h) (Or.inl ⟨by kernel_rfl, ?_⟩) s0 ?_
          rotate_left 1
          · (intro w hS; clear hS; go_simp; try (with_reducible rfl))
          refine wpAnyH_take (i := 5) (v := ?_) rfl (by kernel_rfl) (by kernel_rfl) (by kernel_rfl) (fun _ _ _ h => h) (Or.inl ⟨by kernel_rfl, ?_⟩) s0 ?_
          rotate_left 1
          · (intro w hS; clear hS; go_simp; try (with_reducible rfl))
          refine wpAnyH_take (i := 6) (v := .agg (rv z.r).toArray) rfl (by kernel_rfl) (by kernel_rfl) (by kernel_rfl) (fun _ _ _ h => h) (yieldsIf_load_mid (by kernel_rfl) 51 (.tmp 91) rfl b (o + j * 7) (by go_simp) (rv z.r) _ (fun _ h => h.2) Tryz.underlying51 rfl (FR.out)) s0 ?_
          go_simp
          refine wpAnyH_ready (rs := [7, 11]) (by kernel_rfl) (by simp) ?_
          refine AllReadyH.cons rfl (fun K hK => ?_) ?_
          · skip
            go_simp
            refine (DOU.out U BR0.out).mono ?_
            rintro e w5 ⟨x', R, q, d, rfl, hx5, hR5, sf5, mx5, ow5, tr5, bb⟩
            have b6 := Lib.hid bb
            have b5 := Lib.hid (show Below U.heap.size U w5 from BR0.out.trans (bb.mono BR0.out.size))
            have HX5 := Lib.hid hx5; have HR5 := Lib.hid hR5; have MXA := Lib.hid mx5
            have SFA := Lib.hid (sf5.low (B' := (wr).heap.size) (Nat.le_trans BU.out.size BR0.out.size))
            have RWA := Lib.hid ow5
            have TRA := Lib.hid (fun (v : Rpv) (hv : v ∈ R) => show FT w5 (wr).heap.size v.p v.c v.r.t from (tr5 v hv).low (Nat.le_trans BU.out.size BR0.out.size))
            clear hx5 hR5 sf5 mx5 ow5 tr5 bb
            refine hK.out _ _ (SU.out _ b5.out) (fun _ => ?_)
            clear hK K
            refine wpAnyH_take (i := 8) (v := ?_) rfl (by kernel_rfl) (by kernel_rfl) (by kernel_rfl) (fun _ _ _ h => h) (Or.inl ⟨by kernel_rfl, ?_⟩) (SU.out _ b5.out) ?_
            rotate_left 1
            · (intro w hS; clear hS; go_simp; try (with_reducible rfl))
            refine wpAnyH_take (i := 9) (v := ?_) rfl (by kernel_rfl) (by kernel_rfl) (by kernel_rfl) (fun _ _ _ h => h) (Or.inl ⟨by kernel_rfl, ?_⟩) (SU.out _ b5.out) ?_
            rotate_left 1
            · (intro w hS; clear hS; go_simp; try (with_reducible rfl))
            refine wpAnyH_take (i := 10) (v := ?_) rfl (by kernel_rfl) (by kernel_rfl) (by kernel_rfl) (fun _ _ _ h => h) (Or.inl ⟨by kernel_rfl, ?_⟩) (SU.out _ b5.out) ?_
            rotate_left 1
            · (intro w hS; clear hS; go_simp; try (with_reducible rfl))
            refine wpAnyH_ready (rs := [11]) (by kernel_rfl) (by simp) ?_
            refine AllReadyH.cons rfl (fun K hK => ?_) AllReadyH.nil
            rw [if_pos (by kernel_rfl)]
            go_simp
            have BA := Lib.hid (b5.out.alloc b5.out.size (.cells zSp.toArray 29))
            have GZ := Lib.hid (Blk.new w5 29 zSp)
            have BZ := Lib.hid ((Below.refl (w5).heap.size w5).alloc (Nat.le_refl _) (.cells zSp.toArray 29))
            refine hK.out _ _ (SU.out _ BA.out) (fun _ => ?_)
            clear hK K
            obtain ⟨WA, hWA⟩ : ∃ V, (w5).alloc (.cells zSp.toArray 29) = V := ⟨_, rfl⟩
            change wpAnyH _ _ _ _ _ _ _ _ ((w5).alloc (.cells zSp.toArray 29))
            rw [hWA] at BA GZ BZ ⊢
            clear hWA
            have SF6 := Lib.hid (SFA.out.below BZ.out); have OW6 := Lib.hid (own_below RWA.out BZ.out); have TA6 := Lib.hid (fun (v : Rpv) (hv : v ∈ R) => (TRA.out v hv).below BZ.out)
            have FXE := Lib.hid (sv_size x' SF6.out.l4); have FOE := Lib.hid (sv_one x'); have LXE := Lib.hid (show (sv x').length = zSp.length from sv_len x' SF6.out.l4)
            have HGE := Lib.hid (show (wr).heap.size ≤ w5.heap.size from by have h1 := BU.out.size; have h2 := b5.out.size; first | omega | (simp; omega))
            have HGU := Lib.hid (show U.heap.size ≤ w5.heap.size from by have h2 := b5.out.size; first | omega | (simp; omega))
            refine wpAnyH_ready (rs := [12]) (by kernel_rfl) (by simp) ?_
            refine AllReadyH.cons rfl (fun K hK => ?_) AllReadyH.nil
            rw [if_pos (by kernel_rfl)]
            refine wstore_part 29 (.tmp 13) (.tmp 94) (w5.heap.size) 0 29 [] zSp [] (sv x') rfl (by rw [List.nil_append, List.append_nil]; exact GZ.out) rfl LXE.out.symm FXE.out FOE.out rfl rfl ?_
            intro wz a1 a2 a3
            have RZ := Lib.hid (show Blk wz (w5.heap.size) 29 (sv x') by have := a1.out; rwa [List.nil_append, List.append_nil] at this)
            have KZ := a2.out.keptOne rfl
            have bz := Lib.hid (below_oneV BA.out HGU.out KZ)
            have PZ := Lib.hid (show PR (wr) wz x' R q (w5.heap.size) from ⟨RZ.out, SF6.out.kept KZ GZ.out, MXA.out, RowL.of_own pv_len rfl (own_kept OW6.out KZ (fun k hk e => own_apart OW6.out GZ.out (by decide) (by rw [hk, e]))), fun v hv => own_kept (TA6.out v hv) KZ (fun k hk e => own_apart (TA6.out v hv) GZ.out (by decide) (by rw [hk, e])), HGE.out, BU.out.trans (bz.out.mono BU.out.size)⟩)
            refine hK.out _ _ (SU.out _ bz.out) (fun _ => ?_)
            clear hK K a1 a2 a3
            refine wpAnyH_take (i := 13) (v := ?_) rfl (by kernel_rfl) (by kernel_rfl) (by kernel_rfl) (fun _ _ _ h => h) (Or.inl ⟨by kernel_rfl, ?_⟩) (SU.out _ bz.out) ?_
            rotate_left 1
            · (intro w hS; clear hS; go_simp; try (with_reducible rfl))
            refine wpAnyH_done (by kernel_rfl) ?_ _
            go_simp
            go_wp2_with fail
            go_meet
            exact ⟨x', R, q, d, _, rfl, rfl, HX5.out, HR5.out, PZ.out⟩
          · refine AllReadyH.cons rfl (fun K hK => ?_) AllReadyH.nil
            go_simp
            have BA := Lib.hid (BR0.out.alloc BR0.out.size (.cells zSp.toArray 29))
            have GZ := Lib.hid (Blk.new U 29 zSp)
            have BZ := Lib.hid ((Below.refl (U).heap.size U).alloc (Nat.le_refl _) (.cells zSp.toArray 29))
            refine hK.out _ _ (SU.out _ BA.out) (fun _ => ?_)
            clear hK K
            obtain ⟨WA, hWA⟩ : ∃ V, (U).alloc (.cells zSp.toArray 29) = V := ⟨_, rfl⟩
            change wpAnyH _ _ _ _ _ _ _ _ ((U).alloc (.cells zSp.toArray 29))
            rw [hWA] at BA GZ BZ ⊢
            clear hWA
            refine wpAnyH_ready (rs := [7]) (by kernel_rfl) (by simp) ?_
            refine AllReadyH.cons rfl (fun K hK => ?_) AllReadyH.nil
            rw [if_pos (by kernel_rfl)]
            go_simp
            refine (DOU.out WA BA.out).mono ?_
            rintro e w5 ⟨x', R, q, d, rfl, hx5, hR5, sf5, mx5, ow5, tr5, bb⟩
            have b6 := Lib.hid bb
            have b5 := Lib.hid (show Below U.heap.size U w5 from BA.out.trans (bb.mono BA.out.size))
            have HX5 := Lib.hid hx5; have HR5 := Lib.hid hR5; have MXA := Lib.hid mx5
            have SFA := Lib.hid (sf5.low (B' := (wr).heap.size) (Nat.le_trans BU.out.size BA.out.size))
            have RWA := Lib.hid ow5
            have TRA := Lib.hid (fun (v : Rpv) (hv : v ∈ R) => show FT w5 (wr).heap.size v.p v.c v.r.t from (tr5 v hv).low (Nat.le_trans BU.out.size BA.out.size))
            clear hx5 hR5 sf5 mx5 ow5 tr5 bb
            have HGX := Lib.hid (show U.heap.size < WA.heap.size from GZ.out.lt)
            have GZ2 := Lib.hid (GZ.out.below b6.out GZ.out.lt)
            refine hK.out _ _ (SU.out _ b5.out) (fun _ => ?_)
            clear hK K GZ
            have SF6 := SFA; have OW6 := RWA; have TA6 := TRA; have GZ := GZ2
            clear SFA RWA TRA GZ2
            refine wpAnyH_take (i := 8) (v := ?_) rfl (by kernel_rfl) (by kernel_rfl) (by kernel_rfl) (fun _ _ _ h => h) (Or.inl ⟨by kernel_rfl, ?_⟩) (SU.out _ b5.out) ?_
            rotate_left 1
            · (intro w hS; clear hS; go_simp; try (with_reducible rfl))
            refine wpAnyH_take (i := 9) (v := ?_) rfl (by kernel_rfl) (by kernel_rfl) (by kernel_rfl) (fun _ _ _ h => h) (Or.inl ⟨by kernel_rfl, ?_⟩) (SU.out _ b5.out) ?_
            rotate_left 1
            · (intro w hS; clear hS; go_simp; try (with_reducible rfl))
            refine wpAnyH_take (i := 10) (v := ?_) rfl (by kernel_rfl) (by kernel_rfl) (by kernel_rfl) (fun _ _ _ h => h) (Or.inl ⟨by kernel_rfl, ?_⟩) (SU.out _ b5.out) ?_
            rotate_left 1
            · (intro w hS; clear hS; go_simp; try (with_reducible rfl))
            have FXE := Lib.hid (sv_size x' SF6.out.l4); have FOE := Lib.hid (sv_one x'); have LXE := Lib.hid (show (sv x').length = zSp.length from sv_len x' SF6.out.l4)
            have HGE := Lib.hid (show (wr).heap.size ≤ U.heap.size from by have h1 := BU.out.size; have h2 := b5.out.size; first | omega | (simp; omega))
            have HGU := Lib.hid (show U.heap.size ≤ U.heap.size from by have h2 := b5.out.size; first | omega | (simp; omega))
            refine wpAnyH_ready (rs := [12]) (by kernel_rfl) (by simp) ?_
            refine AllReadyH.cons rfl (fun K hK => ?_) AllReadyH.nil
            rw [if_pos (by kernel_rfl)]
            refine wstore_part 29 (.tmp 13) (.tmp 94) (U.heap.size) 0 29 [] zSp [] (sv x') rfl (by rw [List.nil_append, List.append_nil]; exact GZ.out) rfl LXE.out.symm FXE.out FOE.out rfl rfl ?_
            intro wz a1 a2 a3
            have RZ := Lib.hid (show Blk wz (U.heap.size) 29 (sv x') by have := a1.out; rwa [List.nil_append, List.append_nil] at this)
            have KZ := a2.out.keptOne rfl
            have bz := Lib.hid (below_oneV b5.out HGU.out KZ)
            have PZ := Lib.hid (show PR (wr) wz x' R q (U.heap.size) from ⟨RZ.out, SF6.out.kept KZ GZ.out, MXA.out, RowL.of_own pv_len rfl (own_kept OW6.out KZ (fun k hk e => own_apart OW6.out GZ.out (by decide) (by rw [hk, e]))), fun v hv => own_kept (TA6.out v hv) KZ (fun k hk e => own_apart (TA6.out v hv) GZ.out (by decide) (by rw [hk, e])), HGE.out, BU.out.trans (bz.out.mono BU.out.size)⟩)
            refine hK.out _ _ (SU.out _ bz.out) (fun _ => ?_)
            clear hK K a1 a2 a3
            refine wpAnyH_take (i := 13) (v := ?_) rfl (by kernel_rfl) (by kernel_rfl) (by kernel_rfl) (fun _ _ _ h => h) (Or.inl ⟨by kernel_rfl, ?_⟩) (SU.out _ bz.out) ?_
            rotate_left 1
            · (intro w hS; clear hS; go_simp; try (with_reducible rfl))
            refine wpAnyH_done (by kernel_rfl) ?_ _
            go_simp
            go_wp2_with fail
            go_meet
            exact ⟨x', R, q, d, _, rfl, rfl, HX5.out, HR5.out, PZ.out⟩
        case rest =>
          obtain ⟨x', R, q, d, gx, rfl, rfl, hx5, hR5, pr⟩ := hcut
          have PRX := Lib.hid pr; have HX5 := Lib.hid hx5; have HR5 := Lib.hid hR5
          obtain ⟨w7, hw7⟩ : ∃ W, wc = W := ⟨_, rfl⟩
          rw [hw7] at PRX ⊢
          have P5 := Lib.hid (P4.out.below PRX.out.bel)
          clear pr hx5 hR5 hw7
          go_upto_region 17 with (fail)
          go_cut [15, 16] (fun s15 s16 wx => ∃ (y' : Spv) (R2 : List Rpv) (q2 : Option Addr) (d2 gy : Nat), s15 = .pointer (some ⟨gy, 0, none⟩) ∧ s16 = .slice q2 R2.length d2 ∧ y'.sp = (doP y.sp now' z.r.r).1 ∧ R2.map (·.r) = (doP y.sp now' z.r.r).2 ∧ PR w7 wx y' R2 q2 gy)
          case first =>
            obtain ⟨U, hU⟩ : ∃ U, w7.drew = U := ⟨_, rfl⟩
            have BU := Lib.hid (show Below w7.heap.size w7 U from by rw [← hU]; exact (Below.refl _ _).drew)
            have PU := Lib.hid (P5.out.below BU.out)
            have FXU := Lib.hid (sv_size y PU.out.ys.l4)
            have SU := Lib.hid (fun (Y : World) (hb : Below U.heap.size U Y) => show Blk Y gt 29 (sv y) ∧ Y.rangeAt b (o + j * 7) (rv z.r) from
              ⟨PU.out.bt.below hb PU.out.bt.lt, rows_below (rows_below RG0.out PU.out.bel HBL.out) hb (Nat.lt_of_lt_of_le HBL.out PU.out.bel.size)⟩)
            have BR0 := Lib.hid (Below.refl U.heap.size U)
            have s0 := SU.out U BR0.out
            have DOU := Lib.hid (fun (Y : World) (hb : Below U.heap.size U Y) => DoC y now' z.r Y (PU.out.ys.w.below hb) PU.out.my (HRZ.out.below (PU.out.below hb).bel) (HU.out.below (PU.out.below hb).bel))
            refine wp_region_held (S := fun Y => Blk Y gt 29 (sv y) ∧ Y.rangeAt b (o + j * 7) (rv z.r)) (by kernel_rfl) ?_
            change wpAnyH _ _ _ _ _ _ _ _ w7.drew
            rw [hU]
            clear hU
            refine wpAnyH_take (i := 0) (v := .agg (sv y).toArray) rfl (by kernel_rfl) (by kernel_rfl) (by kernel_rfl) (fun _ _ _ h => h) (yieldsIf_load_mid (by kernel_rfl) 29 (.tmp 10) rfl gt 0 (by go_simp) (sv y) _ (fun _ h => rows_of_blk h.1) Tryz.underlying29 rfl (FXU.out)) s0 ?_
            refine wpAnyH_take (i := 1) (v := ?_) rfl (by kernel_rfl) (by kernel_rfl) (by kernel_rfl) (fun _ _ _ h => h) (Or.inl ⟨by kernel_rfl, ?_⟩) s0 ?_
            rotate_left 1
            · (intro w hS; clear hS; go_simp; try (with_reducible rfl))
            refine wpAnyH_take (i := 2) (v := ?_) rfl (by kernel_rfl) (by kernel_rfl) (by kernel_rfl) (fun _ _ _ h => h) (Or.inl ⟨by kernel_rfl, ?_⟩) s0 ?_
            rotate_left 1
            · (intro w hS; clear hS; go_simp; try (with_reducible rfl))
            refine wpAnyH_take (i := 3) (v := ?_) rfl (by kernel_rfl) (by kernel_rfl) (by kernel_rfl) (fun _ _ _ h => h) (Or.inl ⟨by kernel_rfl, ?_⟩) s0 ?_
            rotate_left 1
            · (intro w hS; clear hS; go_simp; try (with_reducible rfl))
            refine wpAnyH_take (i := 4) (v := ?_) rfl (by kernel_rfl) (by kernel_rfl) (by kernel_rfl) (fun _ _ _ h => h) (Or.inl ⟨by kernel_rfl, ?_⟩) s0 ?_
            rotate_left 1
            · (intro w hS; clear hS; go_simp; try (with_reducible rfl))
            refine wpAnyH_take (i := 5) (v := ?_) rfl (by kernel_rfl) (by kernel_rfl) (by kernel_rfl) (fun _ _ _ h => h) (Or.inl ⟨by kernel_rfl, ?_⟩) s0 ?_
            rotate_left 1
            · (intro w hS; clear hS; go_simp; try (with_reducible rfl))
            refine wpAnyH_take (i := 6) (v := .agg (rv z.r).toArray) rfl (by kernel_rfl) (by kernel_rfl) (by kernel_rfl) (fun _ _ _ h => h) (yieldsIf_load_mid (by kernel_rfl) 51 (.tmp 102) rfl b (o + j * 7) (by go_simp) (rv z.r) _ (fun _ h => h.2) Tryz.underlying51 rfl (FR.out)) s0 ?_
            go_simp
            refine wpAnyH_ready (rs := [7, 11]) (by kernel_rfl) (by simp) ?_
            refine AllReadyH.cons rfl (fun K hK => ?_) ?_
            · skip
              go_simp
              refine (DOU.out U BR0.out).mono ?_
              rintro e w5 ⟨x', R, q, d, rfl, hx5, hR5, sf5, mx5, ow5, tr5, bb⟩
              have b6 := Lib.hid bb
              have b5 := Lib.hid (show Below U.heap.size U w5 from BR0.out.trans (bb.mono BR0.out.size))
              have HX5 := Lib.hid hx5; have HR5 := Lib.hid hR5; have MXA := Lib.hid mx5
              have SFA := Lib.hid (sf5.low (B' := (w7).heap.size) (Nat.le_trans BU.out.size BR0.out.size))
              have RWA := Lib.hid ow5
              have TRA := Lib.hid (fun (v : Rpv) (hv : v ∈ R) => show FT w5 (w7).heap.size v.p v.c v.r.t from (tr5 v hv).low (Nat.le_trans BU.out.size BR0.out.size))
              clear hx5 hR5 sf5 mx5 ow5 tr5 bb
              refine hK.out _ _ (SU.out _ b5.out) (fun _ => ?_)
              clear hK K
              refine wpAnyH_take (i := 8) (v := ?_) rfl (by kernel_rfl) (by kernel_rfl) (by kernel_rfl) (fun _ _ _ h => h) (Or.inl ⟨by kernel_rfl, ?_⟩) (SU.out _ b5.out) ?_
              rotate_left 1
              · (intro w hS; clear hS; go_simp; try (with_reducible rfl))
              refine wpAnyH_take (i := 9) (v := ?_) rfl (by kernel_rfl) (by kernel_rfl) (by kernel_rfl) (fun _ _ _ h => h) (Or.inl ⟨by kernel_rfl, ?_⟩) (SU.out _ b5.out) ?_
              rotate_left 1
              · (intro w hS; clear hS; go_simp; try (with_reducible rfl))
              refine wpAnyH_take (i := 10) (v := ?_) rfl (by kernel_rfl) (by kernel_rfl) (by kernel_rfl) (fun _ _ _ h => h) (Or.inl ⟨by kernel_rfl, ?_⟩) (SU.out _ b5.out) ?_
              rotate_left 1
              · (intro w hS; clear hS; go_simp; try (with_reducible rfl))
              refine wpAnyH_ready (rs := [11]) (by kernel_rfl) (by simp) ?_
              refine AllReadyH.cons rfl (fun K hK => ?_) AllReadyH.nil
              rw [if_pos (by kernel_rfl)]
              go_simp
              have BA := Lib.hid (b5.out.alloc b5.out.size (.cells zSp.toArray 29))
              have GZ := Lib.hid (Blk.new w5 29 zSp)
              have BZ := Lib.hid ((Below.refl (w5).heap.size w5).alloc (Nat.le_refl _) (.cells zSp.toArray 29))
              refine hK.out _ _ (SU.out _ BA.out) (fun _ => ?_)
              clear hK K
              obtain ⟨WA, hWA⟩ : ∃ V, (w5).alloc (.cells zSp.toArray 29) = V := ⟨_, rfl⟩
              change wpAnyH _ _ _ _ _ _ _ _ ((w5).alloc (.cells zSp.toArray 29))
              rw [hWA] at BA GZ BZ ⊢
              clear hWA
              have SF6 := Lib.hid (SFA.out.below BZ.out); have OW6 := Lib.hid (own_below RWA.out BZ.out); have TA6 := Lib.hid (fun (v : Rpv) (hv : v ∈ R) => (TRA.out v hv).below BZ.out)
              have FXE := Lib.hid (sv_size x' SF6.out.l4); have FOE := Lib.hid (sv_one x'); have LXE := Lib.hid (show (sv x').length = zSp.length from sv_len x' SF6.out.l4)
              have HGE := Lib.hid (show (w7).heap.size ≤ w5.heap.size from by have h1 := BU.out.size; have h2 := b5.out.size; first | omega | (simp; omega))
              have HGU := Lib.hid (show U.heap.size ≤ w5.heap.size from by have h2 := b5.out.size; first | omega | (simp; omega))
              refine wpAnyH_ready (rs := [12]) (by kernel_rfl) (by simp) ?_
              refine AllReadyH.cons rfl (fun K hK => ?_) AllReadyH.nil
              rw [if_pos (by kernel_rfl)]
              refine wstore_part 29 (.tmp 15) (.tmp 105) (w5.heap.size) 0 29 [] zSp [] (sv x') rfl (by rw [List.nil_append, List.append_nil]; exact GZ.out) rfl LXE.out.symm FXE.out FOE.out rfl rfl ?_
              intro wz a1 a2 a3
              have RZ := Lib.hid (show Blk wz (w5.heap.size) 29 (sv x') by have := a1.out; rwa [List.nil_append, List.append_nil] at this)
              have KZ := a2.out.keptOne rfl
              have bz := Lib.hid (below_oneV BA.out HGU.out KZ)
              have PZ := Lib.hid (show PR (w7) wz x' R q (w5.heap.size) from ⟨RZ.out, SF6.out.kept KZ GZ.out, MXA.out, RowL.of_own pv_len rfl (own_kept OW6.out KZ (fun k hk e => own_apart OW6.out GZ.out (by decide) (by rw [hk, e]))), fun v hv => own_kept (TA6.out v hv) KZ (fun k hk e => own_apart (TA6.out v hv) GZ.out (by decide) (by rw [hk, e])), HGE.out, BU.out.trans (bz.out.mono BU.out.size)⟩)
              refine hK.out _ _ (SU.out _ bz.out) (fun _ => ?_)
              clear hK K a1 a2 a3
              refine wpAnyH_take (i := 13) (v := ?_) rfl (by kernel_rfl) (by kernel_rfl) (by kernel_rfl) (fun _ _ _ h => h) (Or.inl ⟨by kernel_rfl, ?_⟩) (SU.out _ bz.out) ?_
              rotate_left 1
              · (intro w hS; clear hS; go_simp; try (with_reducible rfl))
              refine wpAnyH_done (by kernel_rfl) ?_ _
              go_simp
              go_wp2_with fail
              go_meet
              exact ⟨x', R, q, d, _, rfl, rfl, HX5.out, HR5.out, PZ.out⟩
            · refine AllReadyH.cons rfl (fun K hK => ?_) AllReadyH.nil
              go_simp
              have BA := Lib.hid (BR0.out.alloc BR0.out.size (.cells zSp.toArray 29))
              have GZ := Lib.hid (Blk.new U 29 zSp)
              have BZ := Lib.hid ((Below.refl (U).heap.size U).alloc (Nat.le_refl _) (.cells zSp.toArray 29))
              refine hK.out _ _ (SU.out _ BA.out) (fun _ => ?_)
              clear hK K
              obtain ⟨WA, hWA⟩ : ∃ V, (U).alloc (.cells zSp.toArray 29) = V := ⟨_, rfl⟩
              change wpAnyH _ _ _ _ _ _ _ _ ((U).alloc (.cells zSp.toArray 29))
              rw [hWA] at BA GZ BZ ⊢
              clear hWA
              refine wpAnyH_ready (rs := [7]) (by kernel_rfl) (by simp) ?_
              refine AllReadyH.cons rfl (fun K hK => ?_) AllReadyH.nil
              rw [if_pos (by kernel_rfl)]
              go_simp
              refine (DOU.out WA BA.out).mono ?_
              rintro e w5 ⟨x', R, q, d, rfl, hx5, hR5, sf5, mx5, ow5, tr5, bb⟩
              have b6 := Lib.hid bb
              have b5 := Lib.hid (show Below U.heap.size U w5 from BA.out.trans (bb.mono BA.out.size))
              have HX5 := Lib.hid hx5; have HR5 := Lib.hid hR5; have MXA := Lib.hid mx5
              have SFA := Lib.hid (sf5.low (B' := (w7).heap.size) (Nat.le_trans BU.out.size BA.out.size))
              have RWA := Lib.hid ow5
              have TRA := Lib.hid (fun (v : Rpv) (hv : v ∈ R) => show FT w5 (w7).heap.size v.p v.c v.r.t from (tr5 v hv).low (Nat.le_trans BU.out.size BA.out.size))
              clear hx5 hR5 sf5 mx5 ow5 tr5 bb
              have HGX := Lib.hid (show U.heap.size < WA.heap.size from GZ.out.lt)
              have GZ2 := Lib.hid (GZ.out.below b6.out GZ.out.lt)
              refine hK.out _ _ (SU.out _ b5.out) (fun _ => ?_)
              clear hK K GZ
              have SF6 := SFA; have OW6 := RWA; have TA6 := TRA; have GZ := GZ2
              clear SFA RWA TRA GZ2
              refine wpAnyH_take (i := 8) (v := ?_) rfl (by kernel_rfl) (by kernel_rfl) (by kernel_rfl) (fun _ _ _ h => h) (Or.inl ⟨by kernel_rfl, ?_⟩) (SU.out _ b5.out) ?_
              rotate_left 1
              · (intro w hS; clear hS; go_simp; try (with_reducible rfl))
              refine wpAnyH_take (i := 9) (v := ?_) rfl (by kernel_rfl) (by kernel_rfl) (by kernel_rfl) (fun _ _ _ h => h) (Or.inl ⟨by kernel_rfl, ?_⟩) (SU.out _ b5.out) ?_
              rotate_left 1
              · (intro w hS; clear hS; go_simp; try (with_reducible rfl))
              refine wpAnyH_take (i := 10) (v := ?_) rfl (by kernel_rfl) (by kernel_rfl) (by kernel_rfl) (fun _ _ _ h => h) (Or.inl ⟨by kernel_rfl, ?_⟩) (SU.out _ b5.out) ?_
              rotate_left 1
              · (intro w hS; clear hS; go_simp; try (with_reducible rfl))
              have FXE := Lib.hid (sv_size x' SF6.out.l4); have FOE := Lib.hid (sv_one x'); have LXE := Lib.hid (show (sv x').length = zSp.length from sv_len x' SF6.out.l4)
              have HGE := Lib.hid (show (w7).heap.size ≤ U.heap.size from by have h1 := BU.out.size; have h2 := b5.out.size; first | omega | (simp; omega))
              have HGU := Lib.hid (show U.heap.size ≤ U.heap.size from by have h2 := b5.out.size; first | omega | (simp; omega))
              refine wpAnyH_ready (rs := [12]) (by kernel_rfl) (by simp) ?_
              refine AllReadyH.cons rfl (fun K hK => ?_) AllReadyH.nil
              rw [if_pos (by kernel_rfl)]
              refine wstore_part 29 (.tmp 15) (.tmp 105) (U.heap.size) 0 29 [] zSp [] (sv x') rfl (by rw [List.nil_append, List.append_nil]; exact GZ.out) rfl LXE.out.symm FXE.out FOE.out rfl rfl ?_
              intro wz a1 a2 a3
              have RZ := Lib.hid (show Blk wz (U.heap.size) 29 (sv x') by have := a1.out; rwa [List.nil_append, List.append_nil] at this)
              have KZ := a2.out.keptOne rfl
              have bz := Lib.hid (below_oneV b5.out HGU.out KZ)
              have PZ := Lib.hid (show PR (w7) wz x' R q (U.heap.size) from ⟨RZ.out, SF6.out.kept KZ GZ.out, MXA.out, RowL.of_own pv_len rfl (own_kept OW6.out KZ (fun k hk e => own_apart OW6.out GZ.out (by decide) (by rw [hk, e]))), fun v hv => own_kept (TA6.out v hv) KZ (fun k hk e => own_apart (TA6.out v hv) GZ.out (by decide) (by rw [hk, e])), HGE.out, BU.out.trans (bz.out.mono BU.out.size)⟩)
              refine hK.out _ _ (SU.out _ bz.out) (fun _ => ?_)
              clear hK K a1 a2 a3
              refine wpAnyH_take (i := 13) (v := ?_) rfl (by kernel_rfl) (by kernel_rfl) (by kernel_rfl) (fun _ _ _ h => h) (Or.inl ⟨by kernel_rfl, ?_⟩) (SU.out _ bz.out) ?_
              rotate_left 1
              · (intro w hS; clear hS; go_simp; try (with_reducible rfl))
              refine wpAnyH_done (by kernel_rfl) ?_ _
              go_simp
              go_wp2_with fail
              go_meet
              exact ⟨x', R, q, d, _, rfl, rfl, HX5.out, HR5.out, PZ.out⟩
          case rest =>
            obtain ⟨y', R2, q2, d2, gy, rfl, rfl, hy5, hS5, pt⟩ := hcut
            have PTY := Lib.hid pt
            have HEQ := Lib.hid (show y'.sp = x'.sp from by rw [hy5, P4.out.eq]; exact HX5.out.symm)
            have ER := Lib.hid (show R2.map (·.r) = R.map (·.r) from by rw [hS5, P4.out.eq]; exact HR5.out.symm)
            obtain ⟨w8, hw8⟩ : ∃ W, wc = W := ⟨_, rfl⟩
            rw [hw8] at PTY ⊢
            have HS5 := Lib.hid hS5
            clear pt hy5 hS5 hw8
            have PR8 := Lib.hid (PRX.out.below PTY.out.bel)
            have SX := Lib.hid P4.out.mx.small; have SY := Lib.hid P4.out.my.small
            have TA2 := Lib.hid (PR8.out.tr SX.out HR5.out); have TB2 := Lib.hid (PTY.out.tr SY.out HS5.out)
            clear SX SY
            have LR := Lib.hid (show R.length ≤ 1001 from by
              have h := do_lenV (s := x.sp) (by have := P4.out.mx.wl; omega) now' z.r.r
              rw [← HR5.out, List.length_map] at h
              exact h)
            have RR := Lib.hid (refSameReplies_eq R R2 q q2 d d2 w8 PR8.out.row PTY.out.row TA2.out TB2.out LR.out ER.out)
            go_wp2_with fail
            refine RR.out.mono ?_
            rintro e w9 ⟨rfl, b9⟩
            have PR9 := Lib.hid (PR8.out.below b9); have PT9 := Lib.hid (PTY.out.below b9); have B9 := Lib.hid b9
            have FX := Lib.hid (sv_size x' PR9.out.ys.l4); have FY := Lib.hid (sv_size y' PT9.out.ys.l4)
            have SG := Lib.hid (SpSame_t x' y' w9 PR9.out.ys.w PT9.out.ys.w)
            rw [spS_iff.2 HEQ.out.symm] at SG
            clear b9 RR TA2 TB2 LR
            go_wp2_with (first
              | ((with_reducible refine load_blk_gdO 112 29 (.tmp 13) gx 29 (sv x') _ ?_ ?_ rfl ?_ Tryz.underlying29 ?_ ?_ ?_ ?_); exact rfl; kernel_rfl; exact PR9.out.box; exact rfl; exact FX.out; exact rfl)
              | ((with_reducible refine load_blk_gdO 113 29 (.tmp 15) gy 29 (sv y') _ ?_ ?_ rfl ?_ Tryz.underlying29 ?_ ?_ ?_ ?_); exact rfl; kernel_rfl; exact PT9.out.box; exact rfl; exact FY.out; exact rfl))
            refine SG.out.mono ?_
            rintro e w10 ⟨rfl, b10⟩
            have PRa := Lib.hid (PR9.out.below b10); have PTa := Lib.hid (PT9.out.below b10); have Ba := Lib.hid (B9.out.trans (b10.mono B9.out.size))
            clear b10 SG PR9 PT9 B9
            go_upto_region 20 with (fail)
            obtain ⟨U, hU⟩ : ∃ U, w10.drew = U := ⟨_, rfl⟩
            have BU := Lib.hid (show Below w10.heap.size w10 U from by rw [← hU]; exact (Below.refl _ _).drew)
            have PRb := Lib.hid (PRa.out.below BU.out); have PTb := Lib.hid (PTa.out.below BU.out)
            have BUw := Lib.hid (show Below w8.heap.size w8 U from Ba.out.trans (BU.out.mono Ba.out.size))
            have PQU := Lib.hid (((P4.out.below PRX.out.bel).below PTY.out.bel).below BUw.out)
            have FOX := Lib.hid (sv_one x'); have FOY := Lib.hid (sv_one y')
            have LXX := Lib.hid (show (sv x).length = (sv x').length from (sv_len x PQU.out.xs.l4).trans (sv_len x' PRb.out.ys.l4).symm)
            have LYY := Lib.hid (show (sv y).length = (sv y').length from (sv_len y PQU.out.ys.l4).trans (sv_len y' PTb.out.ys.l4).symm)
            have NGX := Lib.hid (show gx ≠ g ∧ gx ≠ gt ∧ gy ≠ g ∧ gy ≠ gt from by
              have h1 := P4.out.bx.lt; have h2 := P4.out.bt.lt; have h3 := PRX.out.ge; have h4 := PTY.out.ge; have h5 := PRX.out.bel.size
              omega)
            have s0 : Blk U gx 29 (sv x') ∧ Blk U gy 29 (sv y') := ⟨PRb.out.box, PTb.out.box⟩
            refine wp_region_held (S := fun Y => Blk Y gx 29 (sv x') ∧ Blk Y gy 29 (sv y')) (by kernel_rfl) ?_
            change wpAnyH _ _ _ _ _ _ _ _ w10.drew
            rw [hU]
            clear hU
            refine wpAnyH_take (i := 0) (v := .agg (sv x').toArray) rfl (by kernel_rfl) (by kernel_rfl) (by kernel_rfl) (fun _ _ _ h => h) (yieldsIf_load_mid (by kernel_rfl) 29 (.tmp 13) rfl gx 0 (by go_simp) (sv x') _ (fun _ h => rows_of_blk h.1) Tryz.underlying29 rfl (FX.out)) s0 ?_
            refine wpAnyH_take (i := 1) (v := .agg (sv y').toArray) rfl (by kernel_rfl) (by kernel_rfl) (by kernel_rfl) (fun _ _ _ h => h) (yieldsIf_load_mid (by kernel_rfl) 29 (.tmp 15) rfl gy 0 (by go_simp) (sv y') _ (fun _ h => rows_of_blk h.2) Tryz.underlying29 rfl (FY.out)) s0 ?_
            go_simp
            refine wpAnyH_ready (rs := [2]) (by kernel_rfl) (by simp) ?_
            refine AllReadyH.cons rfl (fun K hK => ?_) AllReadyH.nil
            rw [if_pos (by kernel_rfl)]
            refine wstore_part 29 (.tmp 5) (.tmp 117) g 0 29 [] (sv x) [] (sv x') rfl (by rw [List.nil_append, List.append_nil]; exact PQU.out.bx) rfl LXX.out FX.out FOX.out rfl rfl ?_
            intro wz a1 a2 a3
            have RZ := Lib.hid (show Blk wz g 29 (sv x') by have := a1.out; rwa [List.nil_append, List.append_nil] at this)
            have KZ := Lib.hid (a2.out.keptOne rfl)
            have s1 : Blk wz gx 29 (sv x') ∧ Blk wz gy 29 (sv y') := ⟨s0.1.kept KZ.out NGX.out.1, s0.2.kept KZ.out NGX.out.2.2.1⟩
            have BT2 := Lib.hid (PQU.out.bt.kept KZ.out (fun e => PQU.out.ne e.symm))
            refine hK.out _ _ s1 (fun _ => ?_)
            clear hK K a1 a2 a3
            refine wpAnyH_ready (rs := [3]) (by kernel_rfl) (by simp) ?_
            refine AllReadyH.cons rfl (fun K hK => ?_) AllReadyH.nil
            rw [if_pos (by kernel_rfl)]
            refine wstore_part 29 (.tmp 10) (.tmp 118) gt 0 29 [] (sv y) [] (sv y') rfl (by rw [List.nil_append, List.append_nil]; exact BT2.out) rfl LYY.out FY.out FOY.out rfl rfl ?_
            intro wy a1 a2 a3
            have RY := Lib.hid (show Blk wy gt 29 (sv y') by have := a1.out; rwa [List.nil_append, List.append_nil] at this)
            have KY := Lib.hid (a2.out.keptOne rfl)
            have PQN := Lib.hid (P4.out.next PRX.out PTY.out.bel PTY.out BUw.out KZ.out RZ.out KY.out RY.out HEQ.out)
            refine hK.out _ _ ⟨s1.1.kept KY.out NGX.out.2.1, s1.2.kept KY.out NGX.out.2.2.2⟩ (fun _ => ?_)
            clear hK K a1 a2 a3
            refine wpAnyH_done (by kernel_rfl) ?_ _
            go_simp
            go_wp2_with fail
            exact ⟨⟨j + 1, now', x', y', HLT.out, HK20.out.2.2, rfl, by go_num, HK20.out.1, HK20.out.2.1, PQN.out⟩, by have := HLT.out; simp [intOf]; omega⟩
      · have hmf : decide ((j : Int) < 20) = false := decide_eq_false hm
        have j1 : (j : Int) < (m : Int) := by omega
        clear hm hlt hn20 hn0
        have TD := Lib.hid (told9_t wr (HK.out.below PX.out.bel HG.out))
        go_wp2_with fail
        refine TD.out.mono ?_
        rintro e wT ⟨rfl, bT⟩
        have BT := Lib.hid (PX.out.bel.trans (bT.mono PX.out.bel.size))
        clear bT TD
        go_wp2_with fail
        go_ret
        exact ⟨rfl, BT.out⟩
    · obtain rfl : j = m := by omega
      clear hlt hn20 hn0
      have TD := Lib.hid (told9_t wr (HK.out.below PX.out.bel HG.out))
      go_wp2_with fail
      refine TD.out.mono ?_
      rintro e wT ⟨rfl, bT⟩
      have BT := Lib.hid (PX.out.bel.trans (bT.mono PX.out.bel.size))
      clear bT TD
      go_wp2_with fail
      go_ret
      exact ⟨rfl, BT.out⟩
end Go.Proofs.YtojianpbjckipaaGreatDoor
