/-
  PACKAGE space, what is pure, for its laws: a space that may be stays one, no waiter waits for what is there (8.3); what comes twice, who may not, a tuple put, a look; the spaces of SpaceTimes, SpaceLease, SpaceOldest.
-/
import Derived.Test.YtphgognhjdbdjaaGreatDoorSpUq
namespace Go.Proofs.YtphgognhjdbdjaaGreatDoor
open Go Go.RowKit Sh

theorem vT_le {t : List Fld} (h : vT t = true) : t.length ≤ 6 := by
  unfold vT mayV at h
  simp only [Bool.and_eq_true] at h
  exact (fewN_le h.1).2
theorem pT_le {t : List Fld} (h : pT t = true) : t.length ≤ 6 := (mayP_iff h).2.1
/-- What a space that may be is. -/
structure MayS (s : Sp) : Prop where
  n0 : 0 ≤ s.now
  n1 : s.now ≤ 1099511627776
  rd : alB s.rd = true
  wr : alB s.wr = true
  il : s.its.length ≤ 64
  it : ∀ y ∈ s.its, itB s.now y = true
  io : ∀ c, ownN c s.its ≤ 24
  wl : s.wts.length ≤ 16
  wt : ∀ y ∈ s.wts, wtB y = true
  la : ∀ (j : Nat) (y : Rp), s.last[j]? = some y → y.cl = (j : Int) ∧ rpB y = true
theorem lasB_iff : ∀ {l : List Rp} {c : Nat}, lasB c l = true ↔ ∀ (j : Nat) (y : Rp), l[j]? = some y → y.cl = ((c + j : Nat) : Int) ∧ rpB y = true
  | [], c => by simp [lasB]
  | r :: l, c => by
    unfold lasB
    simp only [Bool.and_eq_true, beq_iff_eq]
    rw [lasB_iff (l := l) (c := c + 1)]
    constructor
    · rintro ⟨h1, h2, h3⟩ j y hy
      cases j with
      | zero =>
        obtain rfl : r = y := by simpa using hy
        exact ⟨by simpa using h1, h2⟩
      | succ j =>
        have := h3 j y (by simpa using hy)
        exact ⟨by rw [this.1]; congr 1; omega, this.2⟩
    · intro h
      have h0 := h 0 r rfl
      refine ⟨by simpa using h0.1, h0.2, fun j y hy => ?_⟩
      have := h (j + 1) y (by simpa using hy)
      exact ⟨by rw [this.1]; congr 1; omega, this.2⟩
theorem ownN_pos {c : Int} {l : List It} (h : ownN c l ≠ 0) : ∃ i ∈ l, i.own = c := by
  unfold ownN at h
  have h1 : 0 < l.countP (fun i => i.own == c) := by omega
  rw [List.countP_pos_iff] at h1
  obtain ⟨i, hi, e⟩ := h1
  exact ⟨i, hi, by simpa using e⟩
theorem mayS_iff {s : Sp} : spMay s = true ↔ MayS s := by
  unfold spMay itsB wtsB
  simp only [Bool.and_eq_true, decide_eq_true_eq, List.all_eq_true, lasB_iff]
  constructor
  · rintro ⟨h1, h2, h3, h4, ⟨h5, h6, h7⟩, ⟨h8, h9⟩, h10⟩
    refine ⟨h1, h2, h3, h4, h5, h6, fun c => ?_, h8, h9, fun j y hy => by simpa using h10 j y hy⟩
    by_cases hc : ownN c s.its = 0
    · omega
    · obtain ⟨i, hi, rfl⟩ := ownN_pos hc
      exact h7 i hi
  · intro h
    exact ⟨h.n0, h.n1, h.rd, h.wr, ⟨h.il, h.it, fun y _ => h.io y.own⟩, ⟨h.wl, h.wt⟩, fun j y hy => by simpa using h.la j y hy⟩
theorem wtB_h {y : Wt} (h : wtB y = true) : clB y.cl = true ∧ 1 ≤ y.sq ∧ y.sq ≤ 1073741824 ∧ pT y.p = true := by
  unfold wtB at h
  simpa only [Bool.and_eq_true, decide_eq_true_eq] using h
theorem itB_h {now : Int} {y : It} (h : itB now y = true) : clB y.own = true ∧ lastB y.un now = true ∧ vT y.t = true := by
  unfold itB at h
  simpa only [Bool.and_eq_true] using h
theorem rpB_len {r : Rp} (h : rpB r = true) : r.t.length ≤ 6 := by
  unfold rpB at h
  split at h
  · simp only [Bool.and_eq_true, List.isEmpty_iff] at h
    rw [h.2.1]; decide
  · split at h
    · cases h
    · split at h
      · exact vT_le h
      · simp only [Bool.and_eq_true, List.isEmpty_iff] at h
        rw [h.2.2.1]; decide
theorem MayS.small {s : Sp} (h : MayS s) : Small s :=
  ⟨by have := h.il; omega, fun y hy => by have := vT_le (itB_h (h.it y hy)).2.2; omega, by have := h.wl; omega, fun y hy => by have := pT_le (wtB_h (h.wt y hy)).2.2.2; omega,
    fun y hy => by
      obtain ⟨j, hj⟩ := List.mem_iff_getElem?.1 hy
      have := rpB_len (h.la j y hj).2
      omega⟩
theorem lastB_go {un n n' : Int} (h : lastB un n = true) (hg : ((un != 0) && decide (un ≤ n')) = false) : lastB un n' = true := by
  unfold lastB at h ⊢
  simp only [Bool.or_eq_true, Bool.and_eq_true, beq_iff_eq, decide_eq_true_eq, Bool.and_eq_false_iff, bne_eq_false_iff_eq, decide_eq_false_iff_not] at h hg ⊢
  omega
theorem MayS.goOn {s : Sp} (h : MayS s) {now : Int} (h0 : s.now ≤ now) (h1 : now ≤ 1099511627776) : MayS (goOnP s now) := by
  refine ⟨by have := h.n0; show 0 ≤ now; omega, h1, h.rd, h.wr, Nat.le_trans (List.length_filter_le _ _) h.il, fun y hy => ?_, fun c => ?_, h.wl, h.wt, h.la⟩
  · obtain ⟨hy, hg⟩ := List.mem_filter.1 hy
    obtain ⟨a, b, c⟩ := itB_h (h.it y hy)
    unfold itB
    rw [a, c]
    have : lastB y.un now = true := lastB_go b (show gone now y = false by simpa using hg)
    show (true && (lastB y.un now && true)) = true
    rw [this]; rfl
  · exact Nat.le_trans (List.Sublist.countP_le List.filter_sublist) (h.io c)
theorem MayS.sub {s : Sp} (h : MayS s) {l : List It} (hl : l.Sublist s.its) : MayS { s with its := l } :=
  ⟨h.n0, h.n1, h.rd, h.wr, Nat.le_trans hl.length_le h.il, fun y hy => h.it y (hl.subset hy), fun c => Nat.le_trans (List.Sublist.countP_le hl) (h.io c), h.wl, h.wt, h.la⟩
theorem MayS.wsub {s : Sp} (h : MayS s) {l : List Wt} (hl : l.Sublist s.wts) : MayS { s with wts := l } :=
  ⟨h.n0, h.n1, h.rd, h.wr, h.il, h.it, h.io, Nat.le_trans hl.length_le h.wl, fun y hy => h.wt y (hl.subset hy), h.la⟩
theorem clB_q {c : Int} (h : clB c = true) : ((c.toNat : Nat) : Int) = c ∧ c.toNat < 4 := by
  unfold clB at h
  simp only [Bool.and_eq_true, decide_eq_true_eq] at h
  omega
theorem MayS.note {s : Sp} (h : MayS s) {r : Rp} (hc : clB r.cl = true) (hr : rpB r = true) : MayS (noteP s r) := by
  refine ⟨h.n0, h.n1, h.rd, h.wr, h.il, h.it, h.io, h.wl, h.wt, fun j y hy => ?_⟩
  change (s.last.set r.cl.toNat r)[j]? = some y at hy
  rw [List.getElem?_set] at hy
  split at hy
  · rename_i e
    split at hy
    · obtain rfl : r = y := by simpa using hy
      exact ⟨by rw [← e]; exact (clB_q hc).1.symm, hr⟩
    · cases hy
  · exact h.la j y hy
/-- What a request that may be is, as a row of fields. -/
structure MayQ (r : Qp) : Prop where
  cl : clB r.cl = true
  s1 : 1 ≤ r.sq
  s2 : r.sq ≤ 1073741824
  k1 : 1 ≤ r.kd
  k8 : r.kd ≤ 8
  p : rdK r.kd = true → pT r.p = true
  t : brK r.kd = true → vT r.t = true ∧ 0 ≤ r.le ∧ r.le ≤ 1099511627776
theorem mayR_q {r : Rq} (h : mayR r = true) : MayQ (qp r) := by
  have h' := h
  unfold mayR headB isK findB bringB at h'
  simp only [Bool.and_eq_true, decide_eq_true_eq] at h'
  obtain ⟨⟨⟨c0, c4⟩, ⟨s1, s2⟩, k1, k8⟩, f, b⟩ := h'
  refine ⟨by unfold clB; simp [qp, c0, c4], s1, s2, k1, k8, fun hk => ?_, fun hk => ?_⟩
  · have hk' : rdK r.kd = true := hk
    rw [if_pos hk'] at f
    show pT (fl r.n r.G) = true
    rw [pT_fl]; exact f
  · have hk' : brK r.kd = true := hk
    rw [if_pos hk'] at b
    simp only [Bool.and_eq_true, decide_eq_true_eq] at b
    refine ⟨?_, b.2.1, b.2.2⟩
    show vT (fl r.m r.H) = true
    rw [vT_fl]; exact b.1
theorem tell_ok {r : Qp} (h : MayQ r) {k : Int} (h1 : 1 ≤ k) (h6 : k ≤ 6) (h2 : k ≠ 2) : rpB (tellP r k) = true := by
  have h1' := h.s1; have h2' := h.s2
  unfold rpB tellP
  rw [if_neg (show ¬ r.sq = 0 by omega), if_neg (show ¬ (r.sq < 0 ∨ 1073741824 < r.sq) by omega), if_neg h2, decide_eq_true h1, decide_eq_true h6]
  rfl
theorem give_ok {r : Qp} (h : MayQ r) {t : List Fld} (ht : vT t = true) : rpB (giveP r t) = true := by
  have h1' := h.s1; have h2' := h.s2
  unfold rpB giveP
  rw [if_neg (show ¬ r.sq = 0 by omega), if_neg (show ¬ (r.sq < 0 ∨ 1073741824 < r.sq) by omega), if_pos rfl]
  exact ht
theorem late_ok {x : Wt} (h : wtB x = true) {t : List Fld} (ht : vT t = true) : rpB (lateP t x) = true := by
  obtain ⟨_, h1', h2', _⟩ := wtB_h h
  unfold rpB lateP
  rw [if_neg (show ¬ x.sq = 0 by omega), if_neg (show ¬ (x.sq < 0 ∨ 1073741824 < x.sq) by omega), if_pos rfl]
  exact ht
theorem wake_sub (t : List Fld) : ∀ l : List Wt, (wakeP t l).1.Sublist l
  | [] => List.Sublist.refl _
  | x :: l => by
    unfold wakeP
    split
    · split
      · exact List.sublist_cons_self x l
      · exact (wake_sub t l).cons x
    · exact (wake_sub t l).cons_cons x
theorem wake_late (t : List Fld) : ∀ (l : List Wt), ∀ z ∈ (wakeP t l).2.1, ∃ x ∈ l, z = lateP t x
  | [], z, hz => by simp [wakeP] at hz
  | x :: l, z, hz => by
    unfold wakeP at hz
    split at hz
    · split at hz
      · exact ⟨x, List.mem_cons_self, by simpa using hz⟩
      · rcases List.mem_cons.1 hz with rfl | hz
        · exact ⟨x, List.mem_cons_self, rfl⟩
        · obtain ⟨y, hy, e⟩ := wake_late t l z hz
          exact ⟨y, List.mem_cons_of_mem _ hy, e⟩
    · obtain ⟨y, hy, e⟩ := wake_late t l z hz
      exact ⟨y, List.mem_cons_of_mem _ hy, e⟩
theorem wake_left (t : List Fld) : ∀ (l : List Wt), (wakeP t l).2.2 = false → ∀ y ∈ (wakeP t l).1, mT y.p t = false
  | [], _, y, hy => by simp [wakeP] at hy
  | x :: l, h, y, hy => by
    unfold wakeP at h hy
    split at h
    · split at h
      · cases h
      · rename_i hm hk
        rw [if_pos hm, if_neg hk] at hy
        exact wake_left t l h y hy
    · rename_i hm
      rw [if_neg hm] at hy
      rcases List.mem_cons.1 hy with rfl | hy
      · simpa using hm
      · exact wake_left t l h y hy
theorem late_fold : ∀ {l : List Rp} {s : Sp}, MayS s → (∀ z ∈ l, clB z.cl = true ∧ rpB z = true) → MayS (l.foldl lateS s) ∧ (l.foldl lateS s).its = s.its ∧ (l.foldl lateS s).wts = s.wts ∧ (l.foldl lateS s).now = s.now
  | [], s, h, _ => ⟨h, rfl, rfl, rfl⟩
  | z :: l, s, h, hl => by
    have hz := hl z List.mem_cons_self
    have h1 : MayS (lateS s z) ∧ (lateS s z).its = s.its ∧ (lateS s z).wts = s.wts ∧ (lateS s z).now = s.now := by
      unfold lateS
      split
      · exact ⟨h.note hz.1 hz.2, rfl, rfl, rfl⟩
      · exact ⟨h, rfl, rfl, rfl⟩
    obtain ⟨a, b, c, d⟩ := late_fold (l := l) (s := lateS s z) h1.1 fun z hz => hl z (List.mem_cons_of_mem _ hz)
    exact ⟨a, b.trans h1.2.1, c.trans h1.2.2.1, d.trans h1.2.2.2⟩
theorem fnd_none {p : List Fld} {l : List It} : fnd p l = none ↔ ∀ i ∈ l, mT p i.t = false := by
  unfold fnd
  rw [List.findIdx?_eq_none_iff]
/-- No waiter waits for what is there. -/
def NoW (s : Sp) : Prop := ∀ y ∈ s.wts, ∀ i ∈ s.its, mT y.p i.t = false
theorem MayS.put {s : Sp} (h : MayS s) {r : Qp} (hr : MayQ r) (hb : brK r.kd = true) (hl : s.its.length < 64) (ho : ownN r.cl s.its < 24) : MayS (putP s r).1 ∧ (NoW s → NoW (putP s r).1) ∧ (∀ z ∈ (putP s r).2, clB z.cl = true ∧ rpB z = true) := by
  obtain ⟨ht, l0, l1⟩ := hr.t hb
  have hw := h.wsub (wake_sub r.t s.wts)
  have hz : ∀ z ∈ (wakeP r.t s.wts).2.1, clB z.cl = true ∧ rpB z = true := fun z hz => by
    obtain ⟨x, hx, rfl⟩ := wake_late r.t s.wts z hz
    exact ⟨(wtB_h (h.wt x hx)).1, late_ok (h.wt x hx) ht⟩
  obtain ⟨f1, f2, f3, f4⟩ := late_fold hw hz
  unfold putP
  dsimp only
  refine ⟨?_, ?_, hz⟩
  · split
    · exact f1
    · refine ⟨f1.n0, f1.n1, f1.rd, f1.wr, ?_, fun y hy => ?_, fun c => ?_, f1.wl, f1.wt, f1.la⟩
      · show (_ ++ [_]).length ≤ 64
        rw [List.length_append, f2]
        show s.its.length + 1 ≤ 64
        omega
      · rcases List.mem_append.1 hy with hy | hy
        · exact f1.it y hy
        · obtain rfl := List.mem_singleton.1 hy
          unfold itB
          rw [hr.cl, ht, f4]
          have n0 : 0 ≤ s.now := h.n0
          have n1 : s.now ≤ 1099511627776 := h.n1
          show (true && (lastB (if r.le = 0 then 0 else s.now + r.le) s.now && true)) = true
          have : lastB (if r.le = 0 then 0 else s.now + r.le) s.now = true := by
            unfold lastB
            split
            · rfl
            · rw [decide_eq_true (show s.now < s.now + r.le by omega), decide_eq_true (show s.now + r.le ≤ 2199023255552 by omega)]
              simp
          rw [this]; rfl
      · show ownN c (_ ++ [_]) ≤ 24
        unfold ownN
        rw [List.countP_append, f2]
        have h1 : List.countP (fun i => i.own == c) s.its ≤ 24 := h.io c
        show List.countP (fun i => i.own == c) s.its + _ ≤ 24
        by_cases e : r.cl = c
        · subst e
          have : List.countP (fun i => i.own == r.cl) s.its < 24 := ho
          have := List.countP_le_length (p := fun i : It => i.own == r.cl) (l := [⟨r.cl, if r.le = 0 then 0 else s.now + r.le, r.t⟩])
          simp only [List.length_singleton] at this
          omega
        · rw [List.countP_cons_of_neg (by simpa using e)]
          simpa using h1
  · intro hn y hy i hi
    split at hy
    · rename_i hk
      rw [if_pos hk] at hi
      rw [f3] at hy; rw [f2] at hi
      exact hn y ((wake_sub _ _).subset hy) i hi
    · rename_i hk
      rw [if_neg hk] at hi
      change y ∈ (List.foldl lateS _ _).wts at hy
      rw [f3] at hy
      change i ∈ (List.foldl lateS _ _).its ++ _ at hi
      rw [f2] at hi
      rcases List.mem_append.1 hi with hi | hi
      · exact hn y ((wake_sub _ _).subset hy) i hi
      · obtain rfl := List.mem_singleton.1 hi
        exact wake_left r.t s.wts (by simpa using hk) y hy
/-- What an act leaves. -/
structure ActOk (s : Sp) (r : Qp) (a : Sp × Rp × Bool) : Prop where
  may : MayS a.1
  rp : rpB a.2.1 = true
  cl : a.2.1.cl = r.cl
  sq : a.2.1.sq = r.sq
  puts : a.2.2 = true → brK r.kd = true ∧ a.1.its.length < 64 ∧ ownN r.cl a.1.its < 24
  now : NoW s → NoW a.1
  nw : a.1.now = s.now
  ls : a.1.last = s.last
theorem item_t {s : Sp} (h : MayS s) {k : Nat} (hk : k < s.its.length) : vT (s.its.getD k i0).t = true := by
  rw [List.getD_eq_getElem?_getD, List.getElem?_eq_getElem hk]
  exact (itB_h (h.it _ (List.getElem_mem hk))).2.2
theorem fnd_lt0 {p : List Fld} {l : List It} {k : Nat} (h : fnd p l = some k) : k < l.length := (List.findIdx?_eq_some_iff_findIdx_eq.1 h).1
theorem bring_ok {s : Sp} {r : Qp} (h : MayS s) (hr : MayQ r) (hb : brK r.kd = true) : ActOk s r (s, bringP s r) := by
  unfold bringP
  split
  · exact ⟨h, tell_ok hr (by decide) (by decide) (by decide), rfl, rfl, fun h => (by cases h), id, rfl, rfl⟩
  · exact ⟨h, tell_ok hr (by decide) (by decide) (by decide), rfl, rfl, fun _ => ⟨hb, by show s.its.length < 64; omega, by show ownN r.cl s.its < 24; omega⟩, id, rfl, rfl⟩
theorem tell_act {s : Sp} {r : Qp} (h : MayS s) (hr : MayQ r) {k : Int} (h1 : 1 ≤ k) (h6 : k ≤ 6) (h2 : k ≠ 2) : ActOk s r (s, tellP r k, false) :=
  ⟨h, tell_ok hr h1 h6 h2, rfl, rfl, fun h => (by cases h), id, rfl, rfl⟩
theorem MayS.act {s : Sp} (h : MayS s) {r : Qp} (hr : MayQ r) : ActOk s r (actP s r) := by
  cases ha : allowP s r with
  | false =>
    unfold actP
    rw [if_pos ha]
    exact tell_act h hr (by decide) (by decide) (by decide)
  | true =>
    rw [actP_o ha]
    split
    · rename_i hk
      exact bring_ok h hr (by rw [hk]; rfl)
    · split
      · rename_i hk
        unfold casP
        split
        · exact tell_act h hr (by decide) (by decide) (by decide)
        · exact bring_ok h hr (by rw [hk]; rfl)
      · split
        · rename_i hk
          have hb : brK r.kd = true := by rw [hk]; rfl
          cases hf : fnd r.p s.its with
          | none => exact tell_act h hr (by decide) (by decide) (by decide)
          | some k =>
            have hlt := fnd_lt0 hf
            unfold replP
            dsimp only
            split
            · exact tell_act h hr (by decide) (by decide) (by decide)
            · refine ⟨h.sub (List.eraseIdx_sublist _ _), give_ok hr (item_t h hlt), rfl, rfl, fun _ => ⟨hb, ?_, ?_⟩, fun hn y hy i hi => hn y hy i ((List.eraseIdx_sublist _ _).subset hi), rfl, rfl⟩
              · show (s.its.eraseIdx k).length < 64
                rw [List.length_eraseIdx, if_pos hlt]
                have := h.il
                omega
              · show ownN r.cl (s.its.eraseIdx k) < 24
                omega
        · split
          · exact tell_act h hr (by decide) (by decide) (by decide)
          · rename_i k1 k6 k7 k8
            have hrd : rdK r.kd = true := by
              have := hr.k1; have := hr.k8
              unfold rdK
              rw [decide_eq_true (show 2 ≤ r.kd by omega), decide_eq_true (show r.kd ≤ 7 by omega)]; rfl
            cases hf : fnd r.p s.its with
            | some k =>
              have hlt := fnd_lt0 hf
              unfold lookP
              dsimp only
              split
              · exact ⟨h.sub (List.eraseIdx_sublist _ _), give_ok hr (item_t h hlt), rfl, rfl, fun h => (by cases h), fun hn y hy i hi => hn y hy i ((List.eraseIdx_sublist _ _).subset hi), rfl, rfl⟩
              · exact ⟨h, give_ok hr (item_t h hlt), rfl, rfl, fun h => (by cases h), id, rfl, rfl⟩
            | none =>
              unfold lookP
              dsimp only
              split
              · exact tell_act h hr (by decide) (by decide) (by decide)
              · split
                · exact tell_act h hr (by decide) (by decide) (by decide)
                · rename_i hw
                  refine ⟨⟨h.n0, h.n1, h.rd, h.wr, h.il, h.it, h.io, ?_, fun y hy => ?_, h.la⟩, tell_ok hr (by decide) (by decide) (by decide), rfl, rfl, fun h => (by cases h), fun hn y hy i hi => ?_, rfl, rfl⟩
                  · show (s.wts ++ [_]).length ≤ 16
                    rw [List.length_append, List.length_singleton]
                    omega
                  · rcases List.mem_append.1 hy with hy | hy
                    · exact h.wt y hy
                    · obtain rfl := List.mem_singleton.1 hy
                      unfold wtB
                      show (clB r.cl && (decide (1 ≤ r.sq) && (decide (r.sq ≤ 1073741824) && pT r.p))) = true
                      rw [hr.cl, decide_eq_true hr.s1, decide_eq_true hr.s2, hr.p hrd]; rfl
                  · rcases List.mem_append.1 hy with hy | hy
                    · exact hn y hy i hi
                    · obtain rfl := List.mem_singleton.1 hy
                      exact fnd_none.1 hf i hi
theorem answ_ok {s : Sp} (h : MayS s) {r : Qp} (hr : MayQ r) : MayS (answP s r).1 ∧ (NoW s → NoW (answP s r).1) := by
  have ha := h.act hr
  have hn := ha.may.note (r := (actP s r).2.1) (by rw [ha.cl]; exact hr.cl) ha.rp
  unfold answP
  dsimp only
  split
  · rename_i hp
    obtain ⟨b1, b2, b3⟩ := ha.puts hp
    obtain ⟨p1, p2, _⟩ := hn.put hr b1 b2 b3
    exact ⟨p1, fun hw => p2 (ha.now hw)⟩
  · exact ⟨hn, fun hw => ha.now hw⟩
theorem okDo_h {s : Sp} {now : Int} {r : Rq} (h : okDo s now r = true) : MayS s ∧ mayR r = true ∧ s.now ≤ now ∧ now ≤ 1099511627776 := by
  unfold okDo at h
  simp only [Bool.and_eq_true, decide_eq_true_eq] at h
  exact ⟨mayS_iff.1 h.1, h.2.1, h.2.2.1, h.2.2.2⟩
theorem NoW.goOn {s : Sp} (h : NoW s) (now : Int) : NoW (goOnP s now) := fun y hy i hi => h y hy i (List.mem_filter.1 hi).1
/-- 8.3: a space that may be stays one; no waiter waits for what is there. -/
theorem do_ok {s : Sp} (h : MayS s) (now : Int) (r : Rq) : MayS (doP s now r).1 ∧ (NoW s → NoW (doP s now r).1) := by
  cases ho : okDo s now r with
  | false =>
    rw [do_no ho]
    exact ⟨h, id⟩
  | true =>
    obtain ⟨_, hm, h0, h1⟩ := okDo_h ho
    have hg := h.goOn h0 h1
    unfold doP
    rw [if_neg (by rw [ho]; decide)]
    dsimp only
    split
    · exact ⟨hg, fun hw => hw.goOn now⟩
    · split
      · exact ⟨hg, fun hw => hw.goOn now⟩
      · have := answ_ok hg (mayR_q hm)
        exact ⟨this.1, fun hw => this.2 (hw.goOn now)⟩
theorem newS_may (rd wr : Int) (h1 : alB (bits .and .i64 rd 15) = true) (h2 : alB (bits .and .i64 wr 15) = true) : MayS (newS rd wr) :=
  ⟨Int.le_refl 0, (show (0 : Int) ≤ 1099511627776 by decide), h1, h2, Nat.zero_le _, (fun y hy => by cases hy), (fun c => by simp [newS, ownN]), Nat.zero_le _, (fun y hy => by cases hy), fun j y hy => by
    have hj : j < 4 := by have := (List.getElem?_eq_some_iff.1 hy).1; simpa [newS] using this
    rcases (show j = 0 ∨ j = 1 ∨ j = 2 ∨ j = 3 by omega) with rfl | rfl | rfl | rfl <;> obtain rfl := Option.some.inj hy <;> exact ⟨rfl, rfl⟩⟩
theorem okDo_mk {s : Sp} {now : Int} {r : Rq} (h : MayS s) (hr : mayR r = true) (h0 : s.now ≤ now) (h1 : now ≤ 1099511627776) : okDo s now r = true := by
  unfold okDo
  rw [mayS_iff.2 h, hr, decide_eq_true h0, decide_eq_true h1]; rfl
theorem do_new {s : Sp} {now : Int} {r : Rq} (h : okDo s now r = true) (hq : (lastOf s r.cl).sq < r.sq) : doP s now r = answP (goOnP s now) (qp r) := by
  unfold doP
  rw [if_neg (by rw [h]; decide)]
  dsimp only
  rw [if_neg (show ¬ r.sq < (lastOf (goOnP s now) r.cl).sq from fun e => by have : (lastOf (goOnP s now) r.cl).sq = (lastOf s r.cl).sq := rfl; omega), if_neg (show ¬ r.sq = (lastOf (goOnP s now) r.cl).sq from fun e => by have : (lastOf (goOnP s now) r.cl).sq = (lastOf s r.cl).sq := rfl; omega)]
theorem do_again {s : Sp} {now : Int} {r : Rq} (h : okDo s now r = true) (hq : (lastOf s r.cl).sq = r.sq) : doP s now r = (goOnP s now, [lastOf s r.cl]) := by
  unfold doP
  rw [if_neg (by rw [h]; decide)]
  dsimp only
  rw [if_neg (show ¬ r.sq < (lastOf (goOnP s now) r.cl).sq from fun e => by have : (lastOf (goOnP s now) r.cl).sq = (lastOf s r.cl).sq := rfl; omega), if_pos (show r.sq = (lastOf (goOnP s now) r.cl).sq from hq.symm)]
  rfl
theorem lastOf_note (s : Sp) (x : Rp) (c : Int) : lastOf (noteP s x) c = if x.cl.toNat = c.toNat ∧ x.cl.toNat < s.last.length then x else lastOf s c := by
  unfold lastOf noteP
  dsimp only
  rw [List.getD_eq_getElem?_getD, List.getD_eq_getElem?_getD, List.getElem?_set]
  by_cases h : x.cl.toNat = c.toNat
  · rw [if_pos h]
    by_cases hl : x.cl.toNat < s.last.length
    · rw [if_pos hl, if_pos ⟨h, hl⟩]; rfl
    · rw [if_neg hl, if_neg (fun e => hl e.2), List.getElem?_eq_none (by omega)]
  · rw [if_neg h, if_neg (fun e => h e.1)]
theorem lateS_sq (s : Sp) (x : Rp) (c : Int) : (lastOf (lateS s x) c).sq = (lastOf s c).sq := by
  unfold lateS
  split
  · rename_i h
    rw [lastOf_note]
    split
    · rename_i e
      rw [← h]
      unfold lastOf
      rw [e.1]
    · rfl
  · rfl
theorem late_sq (c : Int) : ∀ (l : List Rp) (s : Sp), (lastOf (l.foldl lateS s) c).sq = (lastOf s c).sq
  | [], s => rfl
  | x :: l, s => by rw [List.foldl_cons, late_sq c l, lateS_sq]
theorem put_sq (s : Sp) (r : Qp) (c : Int) : (lastOf (putP s r).1 c).sq = (lastOf s c).sq := by
  unfold putP
  dsimp only
  split
  · rw [late_sq]; rfl
  · show (lastOf (List.foldl lateS _ _) c).sq = _
    rw [late_sq]; rfl
theorem lateS_kept (s : Sp) (x : Rp) : (lateS s x).rd = s.rd ∧ (lateS s x).wr = s.wr ∧ (lateS s x).last.length = s.last.length ∧ (lateS s x).now = s.now ∧ (lateS s x).its = s.its ∧ (lateS s x).wts = s.wts := by
  unfold lateS
  split
  · exact ⟨rfl, rfl, by simp [noteP], rfl, rfl, rfl⟩
  · exact ⟨rfl, rfl, rfl, rfl, rfl, rfl⟩
theorem late_kept : ∀ (l : List Rp) (s : Sp), (l.foldl lateS s).rd = s.rd ∧ (l.foldl lateS s).wr = s.wr ∧ (l.foldl lateS s).last.length = s.last.length ∧ (l.foldl lateS s).now = s.now ∧ (l.foldl lateS s).its = s.its ∧ (l.foldl lateS s).wts = s.wts
  | [], s => ⟨rfl, rfl, rfl, rfl, rfl, rfl⟩
  | x :: l, s => by
    obtain ⟨a1, a2, a3, a4, a5, a6⟩ := late_kept l (lateS s x)
    obtain ⟨b1, b2, b3, b4, b5, b6⟩ := lateS_kept s x
    exact ⟨a1.trans b1, a2.trans b2, a3.trans b3, a4.trans b4, a5.trans b5, a6.trans b6⟩
theorem put_kept (s : Sp) (r : Qp) : (putP s r).1.rd = s.rd ∧ (putP s r).1.wr = s.wr ∧ (putP s r).1.last.length = s.last.length ∧ (putP s r).1.now = s.now := by
  obtain ⟨a1, a2, a3, a4, _, _⟩ := late_kept (wakeP r.t s.wts).2.1 { s with wts := (wakeP r.t s.wts).1 }
  unfold putP
  dsimp only
  split
  · exact ⟨a1, a2, a3, a4⟩
  · exact ⟨a1, a2, a3, a4⟩
theorem act_kept (s : Sp) (r : Qp) : (actP s r).1.rd = s.rd ∧ (actP s r).1.wr = s.wr ∧ (actP s r).1.last = s.last ∧ (actP s r).1.now = s.now := by
  refine act_cases (P := fun a => a.1.rd = s.rd ∧ a.1.wr = s.wr ∧ a.1.last = s.last ∧ a.1.now = s.now) ⟨rfl, rfl, rfl, rfl⟩ ⟨rfl, rfl, rfl, rfl⟩ ⟨rfl, rfl, rfl, rfl⟩ (fun o => ?_) ⟨rfl, rfl, rfl, rfl⟩ (fun o => ?_)
  · cases o with
    | none => exact ⟨rfl, rfl, rfl, rfl⟩
    | some k =>
      unfold replP
      dsimp only
      split <;> exact ⟨rfl, rfl, rfl, rfl⟩
  · cases o with
    | none =>
      unfold lookP
      dsimp only
      split
      · exact ⟨rfl, rfl, rfl, rfl⟩
      · split <;> exact ⟨rfl, rfl, rfl, rfl⟩
    | some k =>
      unfold lookP
      dsimp only
      split <;> exact ⟨rfl, rfl, rfl, rfl⟩
theorem answ_kept (s : Sp) (r : Qp) : (answP s r).1.rd = s.rd ∧ (answP s r).1.wr = s.wr ∧ (answP s r).1.last.length = s.last.length ∧ (answP s r).1.now = s.now := by
  obtain ⟨a1, a2, a3, a4⟩ := act_kept s r
  unfold answP
  dsimp only
  split
  · obtain ⟨b1, b2, b3, b4⟩ := put_kept (noteP (actP s r).1 (actP s r).2.1) r
    refine ⟨b1.trans a1, b2.trans a2, b3.trans ?_, b4.trans a4⟩
    show ((actP s r).1.last.set _ _).length = _
    rw [List.length_set, a3]
  · refine ⟨a1, a2, ?_, a4⟩
    show ((actP s r).1.last.set _ _).length = _
    rw [List.length_set, a3]
theorem do_kept (s : Sp) (now : Int) (r : Rq) : (doP s now r).1.rd = s.rd ∧ (doP s now r).1.wr = s.wr ∧ (doP s now r).1.last.length = s.last.length ∧ (doP s now r).1.now = (if okDo s now r = false then s.now else now) := by
  cases ho : okDo s now r with
  | false =>
    rw [do_no ho]
    exact ⟨rfl, rfl, rfl, rfl⟩
  | true =>
    rw [if_neg (by decide)]
    unfold doP
    rw [if_neg (by rw [ho]; decide)]
    dsimp only
    split
    · exact ⟨rfl, rfl, rfl, rfl⟩
    · split
      · exact ⟨rfl, rfl, rfl, rfl⟩
      · obtain ⟨a1, a2, a3, a4⟩ := answ_kept (goOnP s now) (qp r)
        exact ⟨a1, a2, a3, a4⟩
theorem answ_sq {s : Sp} {r : Qp} (h : MayS s) (hr : MayQ r) (h4 : s.last.length = 4) : (lastOf (answP s r).1 r.cl).sq = r.sq := by
  have ha := h.act hr
  have hc := (clB_q hr.cl).2
  have hn : (lastOf (noteP (actP s r).1 (actP s r).2.1) r.cl).sq = r.sq := by
    rw [lastOf_note, if_pos ⟨by rw [ha.cl], by rw [ha.cl, ha.ls, h4]; exact hc⟩]
    exact ha.sq
  unfold answP
  dsimp only
  split
  · rw [put_sq]; exact hn
  · exact hn
/-- 8.2: what comes twice. -/
theorem twice {s : Sp} {now : Int} {r : Rq} (h : MayS s) (h4 : s.last.length = 4) (hr : mayR r = true) (h0 : s.now ≤ now) (h1 : now ≤ 1099511627776) (hq : (lastOf s r.cl).sq < r.sq) :
    (∃ x l, (doP s now r).2 = x :: l) ∧ MayS (doP s now r).1 ∧ (doP s now r).1.last.length = 4 ∧ (doP s now r).1.now = now ∧ (lastOf (doP s now r).1 r.cl).sq = r.sq := by
  have ho := okDo_mk h hr h0 h1
  have hg := h.goOn h0 h1
  have hm := do_ok h now r
  obtain ⟨_, _, k3, k4⟩ := do_kept s now r
  rw [ho, if_neg (by decide)] at k4
  refine ⟨?_, hm.1, k3.trans h4, k4, ?_⟩
  · rw [do_new ho hq]
    unfold answP
    dsimp only
    split <;> exact ⟨_, _, rfl⟩
  · rw [do_new ho hq]
    exact answ_sq hg (mayR_q hr) h4
theorem again {s : Sp} {r : Rq} (h : MayS s) (hr : mayR r = true) (hq : (lastOf s r.cl).sq = r.sq) {now : Int} (h0 : s.now ≤ now) (h1 : now ≤ 1099511627776) :
    doP s now r = (goOnP s now, [lastOf s r.cl]) := do_again (okDo_mk h hr h0 h1) hq
/-- A request that puts a tuple into a space in which nobody waits. -/
def newIt (s : Sp) (r : Qp) : It := ⟨r.cl, if r.le = 0 then 0 else s.now + r.le, r.t⟩
theorem put_quiet {s : Sp} {r : Qp} (hw : ∀ y ∈ s.wts, mT y.p r.t = false) : putP s r = ({ s with its := s.its ++ [newIt s r] }, []) := by
  have hk : ∀ l : List Wt, (∀ y ∈ l, mT y.p r.t = false) → wakeP r.t l = (l, [], false) := by
    intro l hl
    induction l with
    | nil => rfl
    | cons x l ih =>
      unfold wakeP
      rw [if_neg (by rw [hl x List.mem_cons_self]; decide), ih fun y hy => hl y (List.mem_cons_of_mem _ hy)]
  unfold putP
  rw [hk s.wts hw]
  rfl
theorem bit15 {c : Int} (h : clB c = true) : bitB 15 c = true := by
  obtain ⟨h1, h2⟩ := clB_q h
  unfold bitB
  rcases (show c.toNat = 0 ∨ c.toNat = 1 ∨ c.toNat = 2 ∨ c.toNat = 3 by omega) with e | e | e | e <;> rw [e] <;> decide
theorem allow15 {s : Sp} {r : Qp} (hr : s.rd = 15) (hw : s.wr = 15) (hc : clB r.cl = true) : allowP s r = true := by
  unfold allowP
  rw [hr, hw, bit15 hc]; rfl
theorem answ_out {s : Sp} {r : Qp} (ha : allowP s r = true) (hk : r.kd = 1) (hl : s.its.length < 64) (ho : ownN r.cl s.its < 24) (hw : ∀ y ∈ s.wts, mT y.p r.t = false) :
    answP s r = ({ noteP s (tellP r 1) with its := s.its ++ [newIt s r] }, [tellP r 1]) := by
  have e : actP s r = (s, tellP r 1, true) := by
    rw [actP_o ha, if_pos hk]
    unfold bringP
    rw [if_neg (by omega)]
  unfold answP
  rw [e]
  dsimp only
  rw [if_pos rfl, put_quiet (s := noteP s (tellP r 1)) hw]
  rfl
/-- A space that all may read and write. -/
structure Op15 (s : Sp) : Prop where
  may : MayS s
  rd : s.rd = 15
  wr : s.wr = 15
  l4 : s.last.length = 4
theorem Op15.do {s : Sp} (h : Op15 s) (now : Int) (r : Rq) : Op15 (doP s now r).1 := by
  obtain ⟨k1, k2, k3, _⟩ := do_kept s now r
  exact ⟨(do_ok h.may now r).1, k1.trans h.rd, k2.trans h.wr, k3.trans h.l4⟩
theorem Op15.new : Op15 (newS 15 15) := ⟨newS_may 15 15 (by decide) (by decide), by decide, by decide, rfl⟩
theorem out_step {s : Sp} (h : Op15 s) {now : Int} {r : Rq} (hr : mayR r = true) (hk : r.kd = 1) (h0 : s.now ≤ now) (h1 : now ≤ 1099511627776) (hq : (lastOf s r.cl).sq < r.sq)
    (hl : (goOnP s now).its.length < 64) (ho : ownN r.cl (goOnP s now).its < 24) (hw : ∀ y ∈ s.wts, mT y.p (qp r).t = false) :
    doP s now r = ({ noteP (goOnP s now) (tellP (qp r) 1) with its := (goOnP s now).its ++ [newIt (goOnP s now) (qp r)] }, [tellP (qp r) 1]) := by
  rw [do_new (okDo_mk h.may hr h0 h1) hq]
  exact answ_out (allow15 h.rd h.wr (mayR_q hr).cl) hk hl ho hw
theorem mayR_out {c q le : Int} {n : Nat} {F G : Nat → Fld} (hc : clB c = true) (h1 : 1 ≤ q) (h2 : q ≤ 1073741824) (hl : 0 ≤ le) (hm : le ≤ 1099511627776) (hg : mayV n G = true) : mayR ⟨c, q, 1, le, 0, F, n, G⟩ = true := by
  unfold clB at hc
  simp only [Bool.and_eq_true, decide_eq_true_eq] at hc
  show ((decide (0 ≤ c) && decide (c < 4)) && ((decide (1 ≤ q) && decide (q ≤ 1073741824)) && true) && (true && (mayV n G && (decide (0 ≤ le) && decide (le ≤ 1099511627776))))) = true
  rw [decide_eq_true hc.1, decide_eq_true hc.2, decide_eq_true h1, decide_eq_true h2, hg, decide_eq_true hl, decide_eq_true hm]; rfl
theorem last_new (c : Int) : (lastOf (newS 15 15) c).sq = 0 := by
  unfold lastOf newS
  dsimp only
  rcases Nat.lt_or_ge c.toNat 4 with h | h
  · rcases (show c.toNat = 0 ∨ c.toNat = 1 ∨ c.toNat = 2 ∨ c.toNat = 3 by omega) with e | e | e | e <;> rw [e] <;> rfl
  · rw [List.getD_eq_getElem?_getD, List.getElem?_eq_none (by simpa using h)]; rfl
/-- A first tuple. -/
def oneS (c x le : Int) (t : List Fld) : Sp := ⟨x, [⟨c, if le = 0 then 0 else x + le, t⟩], [], 15, 15, (newS 15 15).last.set c.toNat ⟨c, 1, 1, [], false⟩⟩
theorem out_one {c x le : Int} {n : Nat} {F G : Nat → Fld} (hc : clB c = true) (hx : 0 ≤ x) (hx1 : x ≤ 1099511627776) (hl : 0 ≤ le) (hm : le ≤ 1099511627776) (hg : mayV n G = true) :
    doP (newS 15 15) x ⟨c, 1, 1, le, 0, F, n, G⟩ = (oneS c x le (fl n G), [⟨c, 1, 1, [], false⟩]) :=
  out_step Op15.new (mayR_out hc (by decide) (by decide) hl hm hg) rfl hx hx1 (by rw [last_new]; exact (show (0 : Int) < 1 by decide)) (show 0 < 64 by decide) (show 0 < 24 by decide) (fun y hy => by cases hy)
theorem Op15.one {c x le : Int} {n : Nat} {G : Nat → Fld} (hc : clB c = true) (hx : 0 ≤ x) (hx1 : x ≤ 1099511627776) (hl : 0 ≤ le) (hm : le ≤ 1099511627776) (hg : mayV n G = true) : Op15 (oneS c x le (fl n G)) := by
  have := Op15.new.do x ⟨c, 1, 1, le, 0, gl [], n, G⟩
  rwa [out_one hc hx hx1 hl hm hg] at this
def fN (v : Int) : Fld := ⟨1, v, eS⟩
/-- A list of numbers that are kept, the tuples that they stand for. -/
def keptL (f : Nat → It) (n : Nat) (keep : Nat → Bool) : List It := ((List.range n).filter keep).map f
theorem keptL_mem {f : Nat → It} {n : Nat} {keep : Nat → Bool} {i : It} (h : i ∈ keptL f n keep) : ∃ j, j < n ∧ keep j = true ∧ i = f j := by
  unfold keptL at h
  obtain ⟨j, hj, rfl⟩ := List.mem_map.1 h
  obtain ⟨h1, h2⟩ := List.mem_filter.1 hj
  exact ⟨j, List.mem_range.1 h1, h2, rfl⟩
/-- The space of SpaceOldest. -/
def itO (L : Nat → Int) (j : Nat) : It := ⟨((j % 4 : Nat) : Int), 0, [fN (L j), fN j]⟩
structure OldS (L : Nat → Int) (n : Nat) (keep : Nat → Bool) (b t : Int) (s : Sp) : Prop where
  o : Op15 s
  its : s.its = keptL (itO L) n keep
  wts : s.wts = []
  sq : ∀ c, (lastOf s c).sq ≤ b
  now : s.now ≤ t
theorem OldS.un {L : Nat → Int} {n : Nat} {keep : Nat → Bool} {b t : Int} {s : Sp} (h : OldS L n keep b t s) : ∀ i ∈ s.its, i.un = 0 := fun i hi => by
  rw [h.its] at hi
  obtain ⟨j, _, _, rfl⟩ := keptL_mem hi
  rfl
end Go.Proofs.YtphgognhjdbdjaaGreatDoor
