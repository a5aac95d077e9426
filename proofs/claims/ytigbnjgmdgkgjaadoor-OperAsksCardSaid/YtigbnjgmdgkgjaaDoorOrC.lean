/-
  THE REFERENCE of chapter 7, what is pure: what it reads is what the program reads.
-/
import Derived.Test.YtigbnjgmdgkgjaaDoorOpH
import Derived.Test.YtigbnjgmdgkgjaaDoorTrE
namespace Go.Proofs.YtigbnjgmdgkgjaaDoor
open Go Go.RowKit Sh

/-- What number reads. -/
def nmb (v : Nat) (ys : List Nat) (b : Bool) : Nat × List Nat × Bool := if 4611686018427387904 ≤ v then (0, [], true) else (v, ys, b)
/-- What some reads. -/
def smN (ys : List Nat) (b : Bool) : List Nat × List Nat × Bool := if fOK (rTxtM ys b 1000).1 then rTxtM ys b 1000 else ([], [], true)
def r1 (xs : List Nat) := nmb (q4 xs).1 (q4 xs).2.1 (q4 xs).2.2
def r2 (xs : List Nat) := smN (r1 xs).2.1 (r1 xs).2.2
def r3 (xs : List Nat) := smN (r2 xs).2.1 (r2 xs).2.2
def gotRr (xs : List Nat) : Rq := ⟨((q1 xs).1 : Int), ((q2 xs).1 : Int), ((q3 xs).1 : Int), ((r1 xs).1 : Int), fN (r2 xs).1, gotN (r2 xs).1, fN (r3 xs).1, gotN (r3 xs).1⟩
def okRr (xs : List Nat) : Bool := decide (endN (r3 xs).2.1 (r3 xs).2.2 = 0) && mayR (gotRr xs)
theorem rNum_none {xs : List Nat} {bad : Bool} {n : Nat} (h : bad = true → xs = []) (hn : 1 ≤ n) : (rNum xs bad n).2.2 = true → (rNum xs bad n).2.1 = [] := by
  unfold rNum
  split
  · intro _; rfl
  · rename_i hx
    intro hb
    have := h hb
    subst this
    exact absurd (show ([] : List Nat).length < n by simp; omega) hx
theorem fOK_nil : fOK [] = true := rfl
theorem smN_bad : smN [] true = ([], [], true) := by
  unfold smN
  rw [rTxtM_bad]
  rfl
theorem rTxt_badO (n : Nat) : rTxt [] true n = ([], [], true) := by
  unfold rTxt
  rw [if_neg (by simp)]
theorem endN_bad (ys : List Nat) : endN ys true = 2 := if_pos (.inl rfl)
theorem fOK_long {l : List Nat} (hb : Bytes l) (h : 1000 < l.length) : fOK l = false := by
  cases hq : fOK l with
  | false => rfl
  | true =>
    obtain ⟨e, _⟩ := pf_front hb hq
    have hm : fN l = 0 ∨ mayP (fN l) (gotN l) = true := by
      unfold fN
      cases hg : getOK l with
      | false => exact .inl rfl
      | true => exact .inr (get_back hb hg).2.1
    have := pf_length hm
    rw [← e] at this
    omega
/-- A text that the reference reads is what the program reads, or neither is one of fields. -/
theorem sm_eq (ys : List Nat) (hb : Bytes ys) : (smN ys false = rTxt ys false ys.length ∧ fOK (rTxt ys false ys.length).1 = true) ∨ (smN ys false = ([], [], true) ∧ fOK (rTxt ys false ys.length).1 = false) := by
  have ht := rTxt_text ys false ys.length hb
  unfold smN
  rw [rTxtM_eq]
  by_cases h : 4 ≤ ys.length ∧ val (ys.take 4) ≤ ys.length ∧ val (ys.take 4) ≤ ys.length - 4
  · have e1 : rTxt ys false ys.length = ((ys.drop 4).take (val (ys.take 4)), (ys.drop 4).drop (val (ys.take 4)), false) := if_pos h
    by_cases h2 : val (ys.take 4) ≤ 1000
    · have e2 : rTxt ys false 1000 = ((ys.drop 4).take (val (ys.take 4)), (ys.drop 4).drop (val (ys.take 4)), false) := if_pos ⟨h.1, h2, h.2.2⟩
      rw [e1, e2]
      cases hq : fOK ((ys.drop 4).take (val (ys.take 4))) with
      | true => exact .inl ⟨if_pos rfl, rfl⟩
      | false => exact .inr ⟨if_neg (by decide), rfl⟩
    · have e2 : rTxt ys false 1000 = ([], [], true) := if_neg (fun q => h2 q.2.1)
      have hl : fOK (rTxt ys false ys.length).1 = false := fOK_long ht (by
        rw [e1]
        show 1000 < ((ys.drop 4).take (val (ys.take 4))).length
        rw [List.length_take, List.length_drop]
        omega)
      rw [e2]
      exact .inr ⟨if_pos rfl, hl⟩
  · have e1 : rTxt ys false ys.length = ([], [], true) := if_neg h
    have e2 : rTxt ys false 1000 = ([], [], true) := if_neg (fun q => h ⟨q.1, by omega, q.2.2⟩)
    rw [e1, e2]
    exact .inl ⟨if_pos rfl, rfl⟩
theorem okRr_bad {xs : List Nat} (h : r3 xs = ([], [], true)) : okRr xs = false := by
  unfold okRr
  rw [h]
  rfl
theorem r3_bad {xs : List Nat} (h : r2 xs = ([], [], true)) : r3 xs = ([], [], true) := by
  unfold r3
  rw [h]
  exact smN_bad
theorem okR_may {xs : List Nat} (h : okR xs = true) : mayR (gotR xs) = true := by
  unfold okR at h
  simp only [Bool.and_eq_true] at h
  exact h.2.2.2
theorem rTxt_none {ys : List Nat} {n : Nat} : (rTxt ys false n).2.2 = true → rTxt ys false n = ([], [], true) := by
  unfold rTxt
  split
  · intro h; cases h
  · intro _; rfl
/-- The reference reads what the program reads. -/
theorem okRr_eq (xs : List Nat) (hb : Bytes xs) : okRr xs = okR xs ∧ (okR xs = true → gotRr xs = gotR xs) := by
  obtain ⟨v1, y1, d1, v2, y2, d2, v3, y3, d3, v4, y4, d4, l5, y5, d5, l6, y6, d6, st⟩ := steps_of xs hb
  have E1 : q1 xs = (v1, y1, d1) := st.e1
  have E2 : q2 xs = (v2, y2, d2) := by unfold q2; rw [E1]; exact st.e2
  have E3 : q3 xs = (v3, y3, d3) := by unfold q3; rw [E2]; exact st.e3
  have E4 : q4 xs = (v4, y4, d4) := by unfold q4; rw [E3]; exact st.e4
  have n1 : d1 = true → y1 = [] := by have := rNum_none (xs := xs) (bad := false) (n := 1) (fun h => by cases h) (by decide); rw [st.e1] at this; exact this
  have n2 : d2 = true → y2 = [] := by have := rNum_none (n := 4) n1 (by decide); rw [st.e2] at this; exact this
  have n3 : d3 = true → y3 = [] := by have := rNum_none (n := 1) n2 (by decide); rw [st.e3] at this; exact this
  have n4 : d4 = true → y4 = [] := by have := rNum_none (n := 8) n3 (by decide); rw [st.e4] at this; exact this
  have R1 : r1 xs = nmb v4 y4 d4 := by unfold r1; rw [E4]
  have no : okRr xs = false → okR xs = false → okRr xs = okR xs ∧ (okR xs = true → gotRr xs = gotR xs) := fun h1 h2 => ⟨h1.trans h2.symm, fun h => by rw [h2] at h; cases h⟩
  cases hd : d4 with
  | true =>
    have hy := n4 hd
    subst hd
    subst hy
    refine no ?_ ?_
    · refine okRr_bad (r3_bad ?_)
      unfold r2
      rw [R1]
      unfold nmb
      split <;> exact smN_bad
    · rw [st.ok]
      have e5 := st.e5
      rw [rTxt_badO] at e5
      simp only [Prod.mk.injEq] at e5
      obtain ⟨_, h5, h6⟩ := e5
      have e6 := st.e6
      rw [← h5, ← h6, rTxt_badO] at e6
      simp only [Prod.mk.injEq] at e6
      obtain ⟨_, _, h8⟩ := e6
      rw [← h8, endN_bad, show decide (2 = 0) = false from rfl, Bool.false_and, Bool.and_false, Bool.and_false]
  | false =>
    subst hd
    by_cases hv : 4611686018427387904 ≤ v4
    · refine no ?_ ?_
      · refine okRr_bad (r3_bad ?_)
        unfold r2
        rw [R1, show nmb v4 y4 false = (0, [], true) from if_pos hv]
        exact smN_bad
      · cases hq : okR xs with
        | false => rfl
        | true =>
          have hh := mayR_h (okR_may hq)
          have h0 := hh.le0
          have hm := hh.lem
          rw [st.got] at h0 hm
          have hv2 := st.b4.2.2
          exfalso
          simp only [IntKind.wrap, IntKind.bits, IntKind.signed] at h0 hm
          simp at h0 hm
          omega
    · have R1' : r1 xs = (v4, y4, false) := R1.trans (if_neg hv)
      have R2 : r2 xs = smN y4 false := by unfold r2; rw [R1']
      have hle : IntKind.i64.wrap (v4 : Int) = (v4 : Int) := IntWalk.i64_in _ (by omega)
      rcases sm_eq y4 st.b4.1 with ⟨s1, s2⟩ | ⟨s1, s2⟩
      · rw [st.e5] at s1 s2
        have R2' : r2 xs = (l5, y5, d5) := R2.trans s1
        cases hd5 : d5 with
        | true =>
          have e5 := rTxt_none (ys := y4) (n := y4.length) (by rw [st.e5, hd5])
          rw [st.e5] at e5
          simp only [Prod.mk.injEq] at e5
          obtain ⟨h5, h6, _⟩ := e5
          subst hd5
          refine no (okRr_bad (r3_bad (by rw [R2', h5, h6]))) ?_
          rw [st.ok]
          have e6 := st.e6
          rw [h6, rTxt_badO] at e6
          simp only [Prod.mk.injEq] at e6
          obtain ⟨_, _, h8⟩ := e6
          rw [← h8, endN_bad, show decide (2 = 0) = false from rfl, Bool.false_and, Bool.and_false, Bool.and_false]
        | false =>
          subst hd5
          have R3 : r3 xs = smN y5 false := by unfold r3; rw [R2']
          rcases sm_eq y5 st.b5.1 with ⟨t1, t2⟩ | ⟨t1, t2⟩
          · rw [st.e6] at t1 t2
            have R3' : r3 xs = (l6, y6, d6) := R3.trans t1
            have hg : gotRr xs = gotR xs := by
              rw [st.got]
              unfold gotRr
              rw [E1, E2, E3, R1', R2', R3', hle]
            refine ⟨?_, fun _ => hg⟩
            rw [st.ok]
            unfold okRr
            rw [hg, R3', s2, t2, Bool.true_and, Bool.true_and]
          · rw [st.e6] at t2
            refine no (okRr_bad (R3.trans t1)) ?_
            rw [st.ok, t2, Bool.false_and, Bool.and_false]
      · rw [st.e5] at s2
        refine no (okRr_bad (r3_bad (R2.trans s1))) ?_
        rw [st.ok, s2, Bool.false_and]
end Go.Proofs.YtigbnjgmdgkgjaaDoor
