/-
  PACKAGE vote, what is pure
-/
import Derived.Test.YtlipjglehongeabGreatDoorVb9
namespace Go.Proofs.YtlipjglehongeabGreatDoor
open Go Go.RowKit Sh

structure Vt where
  p : Int
  f : Int
  l : List Nat
  s : List Nat
def mayVo (x : Vt) : Bool := (decide (0 ≤ x.p) && decide (x.p ≤ 1048576)) && ((decide (0 ≤ x.f) && decide (x.f ≤ 6)) && decide (x.s.length ≤ 9000))
theorem mayVo_h {x : Vt} (h : mayVo x = true) : 0 ≤ x.p ∧ x.p ≤ 1048576 ∧ 0 ≤ x.f ∧ x.f ≤ 6 ∧ x.s.length ≤ 9000 := by
  unfold mayVo at h
  simp only [Bool.and_eq_true, decide_eq_true_eq] at h
  obtain ⟨⟨h1, h2⟩, ⟨h3, h4⟩, h5⟩ := h
  exact ⟨h1, h2, h3, h4, h5⟩
def putV (x : Vt) : List Nat := beN x.p.toNat 4 ++ (beN x.f.toNat 1 ++ (x.l ++ txtN x.s))
def rawN (xs : List Nat) (bad : Bool) (n : Nat) : List Nat × List Nat × Bool := if n ≤ xs.length then (xs.take n, xs.drop n, bad) else ([], [], true)
def lnkN (l : List Nat) : List Nat := l ++ List.replicate (32 - l.length) 0
def v1 (xs : List Nat) := rNum xs false 4
def v2 (xs : List Nat) := rNum (v1 xs).2.1 (v1 xs).2.2 1
def v3 (xs : List Nat) := rawN (v2 xs).2.1 (v2 xs).2.2 32
def v4 (xs : List Nat) := rTxt (v3 xs).2.1 (v3 xs).2.2 9000
def gotV (xs : List Nat) : Vt := ⟨((v1 xs).1 : Nat), ((v2 xs).1 : Nat), lnkN (v3 xs).1, (v4 xs).1⟩
def okV9 (xs : List Nat) : Bool := decide (endN (v4 xs).2.1 (v4 xs).2.2 = 0) && mayVo (gotV xs)
theorem rawN_len (xs : List Nat) (bad : Bool) (n : Nat) : (rawN xs bad n).1.length ≤ n ∧ (rawN xs bad n).2.1.length ≤ xs.length := by
  unfold rawN
  split
  · exact ⟨by rw [List.length_take]; omega, by rw [List.length_drop]; omega⟩
  · exact ⟨Nat.zero_le _, Nat.zero_le _⟩
theorem rawN_bytes {xs : List Nat} (bad : Bool) (n : Nat) (h : Bytes xs) : Bytes (rawN xs bad n).1 ∧ Bytes (rawN xs bad n).2.1 := by
  unfold rawN
  split
  · exact ⟨bytes_take h _, bytes_drop h _⟩
  · exact ⟨nil_bytes, nil_bytes⟩
theorem rawN_front (l ys : List Nat) (bad : Bool) (n : Nat) (h : l.length = n) : rawN (l ++ ys) bad n = (l, ys, bad) := by
  unfold rawN
  rw [if_pos (by rw [List.length_append]; omega), List.take_left' h, List.drop_left' h]
theorem rawN_back {xs l ys : List Nat} {bad : Bool} {n : Nat} (h : rawN xs bad n = (l, ys, false)) : xs = l ++ ys ∧ bad = false ∧ l.length = n := by
  unfold rawN at h
  split at h
  · rename_i hn
    simp only [Prod.mk.injEq] at h
    obtain ⟨rfl, rfl, rfl⟩ := h
    exact ⟨(List.take_append_drop n xs).symm, rfl, by rw [List.length_take]; omega⟩
  · simp at h
theorem lnkN_full {l : List Nat} (h : l.length = 32) : lnkN l = l := by
  unfold lnkN
  rw [h]
  simp
theorem frontV {x : Vt} (ex : List Nat) (h : mayVo x = true) (hl : x.l.length = 32) : gotV (putV x ++ ex) = x ∧ okV9 (putV x ++ ex) = decide (endN ex false = 0) := by
  obtain ⟨h1, h2, h3, h4, h5⟩ := mayVo_h h
  obtain ⟨p, f, l, s⟩ := x
  dsimp only at h1 h2 h3 h4 h5 hl
  obtain ⟨a, rfl⟩ := Int.eq_ofNat_of_zero_le h1
  obtain ⟨b, rfl⟩ := Int.eq_ofNat_of_zero_le h3
  have hP : putV ⟨(a : Int), (b : Int), l, s⟩ ++ ex = beN a 4 ++ (beN b 1 ++ (l ++ (txtN s ++ ex))) := by
    unfold putV
    simp only [Int.toNat_natCast, List.append_assoc]
  have G1 : v1 (putV ⟨(a : Int), (b : Int), l, s⟩ ++ ex) = (a, beN b 1 ++ (l ++ (txtN s ++ ex)), false) := by
    unfold v1
    rw [hP, rNum_front a 4 _ false (by omega)]
  have G2 : v2 (putV ⟨(a : Int), (b : Int), l, s⟩ ++ ex) = (b, l ++ (txtN s ++ ex), false) := by
    unfold v2
    rw [G1, rNum_front b 1 _ false (by omega)]
  have G3 : v3 (putV ⟨(a : Int), (b : Int), l, s⟩ ++ ex) = (l, txtN s ++ ex, false) := by
    unfold v3
    rw [G2, rawN_front l _ false 32 hl]
  have G4 : v4 (putV ⟨(a : Int), (b : Int), l, s⟩ ++ ex) = (s, ex, false) := by
    unfold v4
    rw [G3, rTxt_frontG s ex false 9000 h5 (by omega)]
  have hg : gotV (putV ⟨(a : Int), (b : Int), l, s⟩ ++ ex) = ⟨(a : Int), (b : Int), l, s⟩ := by
    unfold gotV
    rw [G1, G2, G3, G4]
    dsimp only
    rw [lnkN_full hl]
  refine ⟨hg, ?_⟩
  unfold okV9
  rw [hg, G4, h, Bool.and_true]
theorem frontV_ok {x : Vt} (h : mayVo x = true) (hl : x.l.length = 32) : gotV (putV x) = x ∧ okV9 (putV x) = true := by
  have := frontV [] h hl
  rw [List.append_nil] at this
  exact ⟨this.1, this.2.trans rfl⟩
theorem frontV_no {x : Vt} (ex : List Nat) (h : mayVo x = true) (hl : x.l.length = 32) (he : 0 < ex.length) : okV9 (putV x ++ ex) = false := by
  rw [(frontV ex h hl).2]
  unfold endN
  rw [if_pos (.inr he)]
  rfl
theorem backV {xs : List Nat} (hb : Bytes xs) (h : okV9 xs = true) : xs = putV (gotV xs) ∧ mayVo (gotV xs) = true ∧ (gotV xs).l.length = 32 := by
  unfold okV9 at h
  simp only [Bool.and_eq_true, decide_eq_true_eq] at h
  obtain ⟨he, hq⟩ := h
  obtain ⟨⟨a, y1, d1⟩, F1⟩ : ∃ r, v1 xs = r := ⟨_, rfl⟩
  obtain ⟨⟨b, y2, d2⟩, F2⟩ : ∃ r, v2 xs = r := ⟨_, rfl⟩
  obtain ⟨⟨l, y3, d3⟩, F3⟩ : ∃ r, v3 xs = r := ⟨_, rfl⟩
  obtain ⟨⟨s, y4, d4⟩, F4⟩ : ∃ r, v4 xs = r := ⟨_, rfl⟩
  have hg : gotV xs = ⟨(a : Int), (b : Int), lnkN l, s⟩ := by unfold gotV; rw [F1, F2, F3, F4]
  rw [F4] at he
  dsimp only at he
  have hd : d4 = false ∧ y4 = [] := by
    unfold endN at he
    split at he
    · cases he
    · rename_i hh
      refine ⟨by cases d4 with | false => rfl | true => exact absurd (.inl rfl) hh, ?_⟩
      cases y4 with
      | nil => rfl
      | cons a l => exact absurd (.inr (by simp)) hh
  obtain ⟨rfl, rfl⟩ := hd
  have b1 : Bytes y1 := by have := (rNum_bytes xs false 4 hb).1; rw [show rNum xs false 4 = (a, y1, d1) from F1] at this; exact this
  have R2 : rNum y1 d1 1 = (b, y2, d2) := by have := F2; unfold v2 at this; rw [F1] at this; exact this
  have b2 : Bytes y2 := by have := (rNum_bytes y1 d1 1 b1).1; rw [R2] at this; exact this
  have R3 : rawN y2 d2 32 = (l, y3, d3) := by have := F3; unfold v3 at this; rw [F2] at this; exact this
  have b3 : Bytes y3 := by have := (rawN_bytes d2 32 b2).2; rw [R3] at this; exact this
  have R4 : rTxt y3 d3 9000 = (s, [], false) := by have := F4; unfold v4 at this; rw [F3] at this; exact this
  obtain ⟨t1, t2, _, _⟩ := rTxt_backG b3 R4
  subst t2
  obtain ⟨k1, k2, k3⟩ := rawN_back R3
  subst k2
  obtain ⟨n1, n2, _, _⟩ := rNum_back b1 R2
  subst n2
  obtain ⟨p1, _, _, _⟩ := rNum_back hb (show rNum xs false 4 = (a, y1, false) from F1)
  rw [hg] at hq ⊢
  refine ⟨?_, hq, by rw [lnkN_full k3]; exact k3⟩
  unfold putV
  rw [lnkN_full k3, p1, n1, k1, t1]
  simp only [Int.toNat_natCast, List.append_nil]
theorem putV_inj {x y : Vt} (h : mayVo x = true) (hl : x.l.length = 32) (k : mayVo y = true) (kl : y.l.length = 32) : putV x = putV y ↔ x = y := by
  constructor
  · intro q
    rw [← (frontV_ok h hl).1, q, (frontV_ok k kl).1]
  · rintro rfl; rfl
theorem take_noV {x : Vt} {j : Nat} (h : mayVo x = true) (hl : x.l.length = 32) (hb : Bytes (putV x)) (hj : j < (putV x).length) : okV9 ((putV x).take j) = false := by
  cases hq : okV9 ((putV x).take j) with
  | false => rfl
  | true =>
    obtain ⟨e1, e2, e3⟩ := backV (bytes_take hb j) hq
    have h1 := (frontV_ok h hl).2
    have h2 : putV x = putV (gotV ((putV x).take j)) ++ (putV x).drop j := by rw [← e1, List.take_append_drop]
    have h3 := frontV_no ((putV x).drop j) e2 e3 (by rw [List.length_drop]; omega)
    rw [← h2, h1] at h3
    cases h3
end Go.Proofs.YtlipjglehongeabGreatDoor
