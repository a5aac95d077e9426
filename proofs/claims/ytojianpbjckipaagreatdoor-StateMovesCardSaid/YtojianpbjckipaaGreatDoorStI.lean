/-
  PACKAGE state, what is pure: what Do does keeps numbers as they lie.
-/
import Derived.Test.YtojianpbjckipaaGreatDoorStN
namespace Go.Proofs.YtojianpbjckipaaGreatDoor
open Go Go.RowKit Sh

theorem inL_nil : InL [] := fun f hf => by cases hf
theorem in_new (rd wx : Int) : InS (newS rd wx) := by
  refine ⟨fun i hi => ?_, fun i hi => ?_, fun r hr => ?_⟩
  · cases hi
  · cases hi
  · simp only [newS, List.mem_cons, List.not_mem_nil, or_false] at hr
    rcases hr with rfl | rfl | rfl | rfl <;> exact inL_nil
theorem in_goOn {s : Sp} (h : InS s) (now : Int) : InS (goOnP s now) := ⟨fun i hi => h.it i (List.mem_filter.1 hi).1, h.wt, h.la⟩
theorem in_note {s : Sp} (h : InS s) {r : Rp} (hr : InL r.t) : InS (noteP s r) := ⟨h.it, h.wt, fun x hx => by
  rcases List.mem_or_eq_of_mem_set hx with hx | rfl
  · exact h.la x hx
  · exact hr⟩
theorem in_getD {s : Sp} (h : InS s) (k : Nat) : InL (s.its.getD k i0).t := by
  rw [List.getD_eq_getElem?_getD]
  cases hq : s.its[k]? with
  | none => exact inL_nil
  | some i => exact h.it i (List.mem_of_getElem? hq)
theorem in_erase {s : Sp} (h : InS s) (k : Nat) : InS { s with its := s.its.eraseIdx k } := ⟨fun i hi => h.it i (List.mem_of_mem_eraseIdx hi), h.wt, h.la⟩
theorem in_bring (s : Sp) (r : Qp) : InL (bringP s r).1.t := by
  unfold bringP
  split
  · exact inL_nil
  · exact inL_nil
theorem in_repl {s : Sp} {r : Qp} (h : InS s) (o : Option Nat) : InS (replP s r o).1 ∧ InL (replP s r o).2.1.t := by
  cases o with
  | none => exact ⟨h, inL_nil⟩
  | some k =>
    unfold replP
    dsimp only
    split
    · exact ⟨h, inL_nil⟩
    · exact ⟨in_erase h k, in_getD h k⟩
theorem in_look {s : Sp} {r : Qp} (h : InS s) (hp : InL r.p) (o : Option Nat) : InS (lookP s r o).1 ∧ InL (lookP s r o).2.t := by
  cases o with
  | some k =>
    unfold lookP
    dsimp only
    split
    · exact ⟨in_erase h k, in_getD h k⟩
    · exact ⟨h, in_getD h k⟩
  | none =>
    unfold lookP
    dsimp only
    split
    · exact ⟨h, inL_nil⟩
    · split
      · exact ⟨h, inL_nil⟩
      · refine ⟨⟨h.it, fun x hx => ?_, h.la⟩, inL_nil⟩
        rcases List.mem_append.1 hx with hx | hx
        · exact h.wt x hx
        · rw [List.mem_singleton.1 hx]; exact hp
theorem in_act {s : Sp} {r : Qp} (h : InS s) (hp : InL r.p) : InS (actP s r).1 ∧ InL (actP s r).2.1.t := by
  unfold actP
  split
  · exact ⟨h, inL_nil⟩
  · split
    · exact ⟨h, in_bring s r⟩
    · split
      · split
        · exact ⟨h, inL_nil⟩
        · exact ⟨h, in_bring s r⟩
      · split
        · exact in_repl h _
        · split
          · exact ⟨h, inL_nil⟩
          · exact in_look h hp _
theorem in_wake {t : List Fld} (ht : InL t) : ∀ {l : List Wt}, (∀ x ∈ l, InL x.p) → (∀ x ∈ (wakeP t l).1, InL x.p) ∧ ∀ r ∈ (wakeP t l).2.1, InL r.t
  | [], h => ⟨h, fun r hr => by cases hr⟩
  | x :: l, h => by
    have i := in_wake ht (l := l) (fun z hz => h z (List.mem_cons_of_mem _ hz))
    unfold wakeP
    split
    · split
      · refine ⟨fun z hz => h z (List.mem_cons_of_mem _ hz), fun r hr => ?_⟩
        rw [List.mem_singleton.1 hr]; exact ht
      · refine ⟨i.1, fun r hr => ?_⟩
        rcases List.mem_cons.1 hr with rfl | hr
        · exact ht
        · exact i.2 r hr
    · refine ⟨fun z hz => ?_, i.2⟩
      rcases List.mem_cons.1 hz with rfl | hz
      · exact h _ List.mem_cons_self
      · exact i.1 z hz
theorem in_lates : ∀ {l : List Rp} {s : Sp}, InS s → (∀ r ∈ l, InL r.t) → InS (l.foldl lateS s)
  | [], _, h, _ => h
  | r :: l, s, h, hl => by
    refine in_lates (l := l) ?_ (fun z hz => hl z (List.mem_cons_of_mem _ hz))
    unfold lateS
    split
    · exact in_note h (hl r List.mem_cons_self)
    · exact h
theorem in_put {s : Sp} {r : Qp} (h : InS s) (ht : InL r.t) : InS (putP s r).1 := by
  have i := in_wake ht h.wt
  have j : InS ((wakeP r.t s.wts).2.1.foldl lateS { s with wts := (wakeP r.t s.wts).1 }) := in_lates ⟨h.it, i.1, h.la⟩ i.2
  unfold putP
  dsimp only
  split
  · exact j
  · refine ⟨fun x hx => ?_, j.wt, j.la⟩
    rcases List.mem_append.1 hx with hx | hx
    · exact j.it x hx
    · rw [List.mem_singleton.1 hx]; exact ht
theorem lastOf_in {s : Sp} (h : InS s) (c : Int) : InL (lastOf s c).t := by
  unfold lastOf
  rw [List.getD_eq_getElem?_getD]
  cases hq : s.last[c.toNat]? with
  | none => exact inL_nil
  | some i => exact h.la i (List.mem_of_getElem? hq)
/-- Do keeps numbers as they lie. -/
theorem do_in {s : Sp} (h : InS s) (now : Int) (r : Rq) (hp : InL (fl r.n r.G)) (ht : InL (fl r.m r.H)) : InS (doP s now r).1 := by
  unfold doP
  split
  · exact h
  · dsimp only
    have g := in_goOn h now
    split
    · exact g
    · split
      · exact g
      · have a := in_act (r := qp r) g hp
        unfold answP
        dsimp only
        split
        · exact in_put (in_note a.1 a.2) ht
        · exact in_note a.1 a.2
end Go.Proofs.YtojianpbjckipaaGreatDoor
