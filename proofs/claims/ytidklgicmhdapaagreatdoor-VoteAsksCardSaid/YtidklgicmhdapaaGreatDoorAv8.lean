/-
  PACKAGE vote, what is pure
-/
import Derived.Test.YtidklgicmhdapaaGreatDoorAv7
namespace Go.Proofs.YtidklgicmhdapaaGreatDoor
open Go Go.RowKit Sh

structure Vt where
  p : Int
  f : Int
  l : List Nat
  s : List Nat
def mayVo (x : Vt) : Bool := (decide (0 ≤ x.p) && decide (x.p ≤ 1048576)) && ((decide (0 ≤ x.f) && decide (x.f ≤ 6)) && decide (x.s.length ≤ 9000))
theorem mayVo_h {x : Vt} (h : mayVo x = true) : 0 ≤ x.p ∧ x.p ≤ 1048576 ∧ 0 ≤ x.f ∧ x.f ≤ 6 ∧ x.s.length ≤ 9000 := by
  unfold mayVo at h
  simp only [Bool.and_eq_true, decide_eq_true_eq] at h
  obtain ⟨⟨h1, h2⟩, ⟨h3, h4⟩, h5⟩ := h
  exact ⟨h1, h2, h3, h4, h5⟩
def putV (x : Vt) : List Nat := beN x.p.toNat 4 ++ (beN x.f.toNat 1 ++ (x.l ++ txtN x.s))
def rawN (xs : List Nat) (bad : Bool) (n : Nat) : List Nat × List Nat × Bool := if n ≤ xs.length then (xs.take n, xs.drop n, bad) else ([], [], true)
def lnkN (l : List Nat) : List Nat := l ++ List.replicate (32 - l.length) 0
def v1 (xs : List Nat) := rNum xs false 4
def v2 (xs : List Nat) := rNum (v1 xs).2.1 (v1 xs).2.2 1
def v3 (xs : List Nat) := rawN (v2 xs).2.1 (v2 xs).2.2 32
def v4 (xs : List Nat) := rTxt (v3 xs).2.1 (v3 xs).2.2 9000
def gotV (xs : List Nat) : Vt := ⟨((v1 xs).1 : Nat), ((v2 xs).1 : Nat), lnkN (v3 xs).1, (v4 xs).1⟩
def okV9 (xs : List Nat) : Bool := decide (endN (v4 xs).2.1 (v4 xs).2.2 = 0) && mayVo (gotV xs)
theorem rawN_len (xs : List Nat) (bad : Bool) (n : Nat) : (rawN xs bad n).1.length ≤ n ∧ (rawN xs bad n).2.1.length ≤ xs.length := by
  unfold rawN
  split
  · exact ⟨by rw [List.length_take]; omega, by rw [List.length_drop]; omega⟩
  · exact ⟨Nat.zero_le _, Nat.zero_le _⟩
theorem rawN_bytes {xs : List Nat} (bad : Bool) (n : Nat) (h : Bytes xs) : Bytes (rawN xs bad n).1 ∧ Bytes (rawN xs bad n).2.1 := by
  unfold rawN
  split
  · exact ⟨bytes_take h _, bytes_drop h _⟩
  · exact ⟨nil_bytes, nil_bytes⟩
theorem rawN_front (l ys : List Nat) (bad : Bool) (n : Nat) (h : l.length = n) : rawN (l ++ ys) bad n = (l, ys, bad) := by
  unfold rawN
  rw [if_pos (by rw [List.length_append]; omega), List.take_left' h, List.drop_left' h]
theorem lnkN_full {l : List Nat} (h : l.length = 32) : lnkN l = l := by
  unfold lnkN
  rw [h]
  simp
theorem frontV {x : Vt} (ex : List Nat) (h : mayVo x = true) (hl : x.l.length = 32) : gotV (putV x ++ ex) = x ∧ okV9 (putV x ++ ex) = decide (endN ex false = 0) := by
  obtain ⟨h1, h2, h3, h4, h5⟩ := mayVo_h h
  obtain ⟨p, f, l, s⟩ := x
  dsimp only at h1 h2 h3 h4 h5 hl
  obtain ⟨a, rfl⟩ := Int.eq_ofNat_of_zero_le h1
  obtain ⟨b, rfl⟩ := Int.eq_ofNat_of_zero_le h3
  have hP : putV ⟨(a : Int), (b : Int), l, s⟩ ++ ex = beN a 4 ++ (beN b 1 ++ (l ++ (txtN s ++ ex))) := by
    unfold putV
    simp only [Int.toNat_natCast, List.append_assoc]
  have G1 : v1 (putV ⟨(a : Int), (b : Int), l, s⟩ ++ ex) = (a, beN b 1 ++ (l ++ (txtN s ++ ex)), false) := by
    unfold v1
    rw [hP, rNum_front a 4 _ false (by omega)]
  have G2 : v2 (putV ⟨(a : Int), (b : Int), l, s⟩ ++ ex) = (b, l ++ (txtN s ++ ex), false) := by
    unfold v2
    rw [G1, rNum_front b 1 _ false (by omega)]
  have G3 : v3 (putV ⟨(a : Int), (b : Int), l, s⟩ ++ ex) = (l, txtN s ++ ex, false) := by
    unfold v3
    rw [G2, rawN_front l _ false 32 hl]
  have G4 : v4 (putV ⟨(a : Int), (b : Int), l, s⟩ ++ ex) = (s, ex, false) := by
    unfold v4
    rw [G3, rTxt_frontG s ex false 9000 h5 (by omega)]
  have hg : gotV (putV ⟨(a : Int), (b : Int), l, s⟩ ++ ex) = ⟨(a : Int), (b : Int), l, s⟩ := by
    unfold gotV
    rw [G1, G2, G3, G4]
    dsimp only
    rw [lnkN_full hl]
  refine ⟨hg, ?_⟩
  unfold okV9
  rw [hg, G4, h, Bool.and_true]
theorem frontV_ok {x : Vt} (h : mayVo x = true) (hl : x.l.length = 32) : gotV (putV x) = x ∧ okV9 (putV x) = true := by
  have := frontV [] h hl
  rw [List.append_nil] at this
  exact ⟨this.1, this.2.trans rfl⟩
end Go.Proofs.YtidklgicmhdapaaGreatDoor
