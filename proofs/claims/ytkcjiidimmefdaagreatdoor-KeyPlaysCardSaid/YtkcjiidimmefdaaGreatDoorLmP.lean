/-
  LmsPaths walked.
-/
import Derived.Test.YtkcjiidimmefdaaGreatDoorLmS
import Derived.Test.YtkcjiidimmefdaaGreatDoorLmD
import Derived.Test.YtkcjiidimmefdaaGreatDoorOtEq
namespace Go.Proofs.YtkcjiidimmefdaaGreatDoor
open Go Go.RowKit Sh

theorem own_blkp {w : World} {base : Nat} {v : Value} {l : List Nat} {n : Nat} (h : w.ownsRow base 5 1 v n (u8s l)) (hn : 0 < n) : ∃ g c rest, v = .slice (some ⟨g, 0, none⟩) n c ∧ n ≤ c ∧ base ≤ g ∧ Blk w g 5 (u8s l ++ rest) := by
  rcases h.2 with ⟨_, h0⟩ | ⟨g, cap, cur, rfl, hb, hh, hc, _, hs, ht⟩
  · omega
  · refine ⟨g, cap, cur.toList.drop n, rfl, hc, hb, ?_⟩
    have e : u8s l ++ cur.toList.drop n = cur.toList := by rw [← ht, Nat.mul_one, List.take_append_drop]
    unfold Blk
    rw [e]
    simpa using hh
theorem beN_small4 : ∀ k : Nat, k < 32 → beN k 4 = [0, 0, 0, k] := by decide
theorem lsig_at (I seed : List Nat) (k : Nat) (xs : List Nat) (hk : k < 32) :
    gt (lsigN I seed 1 k xs) 0 = 0 ∧ gt (lsigN I seed 1 k xs) 1 = 0 ∧ gt (lsigN I seed 1 k xs) 2 = 0 ∧ gt (lsigN I seed 1 k xs) 3 = k ∧ gt (lsigN I seed 1 k xs) 7 = 2 ∧ gt (lsigN I seed 1 k xs) 4299 = 5 := by
  have hl : (sigN I seed k 1 xs).length = 4292 := sigN_length I seed k 1 xs
  have h0 : ∀ j, j < 4 → gt (lsigN I seed 1 k xs) j = gt [0, 0, 0, k] j := fun j hj => by
    unfold lsigN
    rw [List.append_assoc, List.append_assoc, gt_app_left (by rw [beN_length]; exact hj), beN_small4 k hk]
  have h7 : gt (lsigN I seed 1 k xs) 7 = 2 := by
    unfold lsigN
    rw [List.append_assoc, List.append_assoc, gt_app_right (by rw [beN_length]; decide), beN_length, gt_app_left (by rw [hl]; decide)]
    unfold sigN
    rw [List.append_assoc, gt_app_left (by rw [beN_length]; decide)]
    decide
  have h9 : gt (lsigN I seed 1 k xs) 4299 = 5 := by
    unfold lsigN
    rw [gt_app_left (by simp only [List.length_append, beN_length, hl]; decide), gt_app_right (by simp only [List.length_append, beN_length, hl]; decide)]
    rw [List.length_append, beN_length, hl]
    decide
  exact ⟨by rw [h0 0 (by decide)]; rfl, by rw [h0 1 (by decide)]; rfl, by rw [h0 2 (by decide)]; rfl, by rw [h0 3 (by decide)]; rfl, h7, h9⟩
theorem pathN_at (I seed : List Nat) (i q : Nat) (hq : q < 32) : ∀ n j, n ≤ 5 → j < n → ((pathN I seed i (32 + q) n).drop (32 * j)).take 32 = tnode I seed i (((32 + q) / 2 ^ j) ^^^ 1)
  | 0, j, _, hj => absurd hj (by omega)
  | n + 1, j, hn, hj => by
    have hl := pathN_length I seed i q hq n (by omega)
    have ht : ∀ m, m ≤ 5 → (tnode I seed i (((32 + q) / 2 ^ m) ^^^ 1)).length = 32 := fun m hm => tnode_length I seed i _ (by have := xor1_le _ (step_lt q m hq hm); omega)
    rw [pathN]
    rcases Nat.lt_or_ge j n with hlt | hge
    · rw [List.drop_append_of_le_length (by omega), List.take_append_of_le_length (by rw [List.length_drop]; omega)]
      exact pathN_at I seed i q hq n j (by omega) hlt
    · obtain rfl : j = n := by omega
      rw [← hl, List.drop_left, List.take_of_length_le (by rw [ht j (by omega)]; exact Nat.le_refl _)]
theorem lsig_path (I seed : List Nat) (k : Nat) (xs : List Nat) (hk : k < 32) (j : Nat) (hj : j < 5) : ((lsigN I seed 1 k xs).drop (4300 + 32 * j)).take 32 = tnode I seed 1 (((32 + k) / 2 ^ j) ^^^ 1) := by
  have hl : (sigN I seed k 1 xs).length = 4292 := sigN_length I seed k 1 xs
  have hp : (beN k 4 ++ sigN I seed k 1 xs ++ beN 5 4).length = 4300 := by simp only [List.length_append, beN_length, hl]
  unfold lsigN
  rw [← List.drop_drop, ← hp, List.drop_left]
  exact pathN_at I seed 1 k hk 5 j (Nat.le_refl _) hj
theorem lpub_at (I seed : List Nat) (hI : I.length = 16) : (lpubN I seed 1).drop 24 = tnode I seed 1 1 ∧ ((lpubN I seed 1).drop 8).take 16 = I := by
  have e : lpubN I seed 1 = (beN 5 4 ++ beN (kd 1).code 4) ++ (I ++ tnode I seed 1 1) := by unfold lpubN; simp only [List.append_assoc]
  have h8 : (beN 5 4 ++ beN (kd 1).code 4).length = 8 := by simp only [List.length_append, beN_length]
  constructor
  · rw [show lpubN I seed 1 = (beN 5 4 ++ beN (kd 1).code 4 ++ I) ++ tnode I seed 1 1 from rfl]
    rw [show 24 = (beN 5 4 ++ beN (kd 1).code 4 ++ I).length from by simp only [List.length_append, beN_length, hI], List.drop_left]
  · rw [e, show 8 = (beN 5 4 ++ beN (kd 1).code 4).length from h8.symm, List.drop_left]
    exact List.take_left' hI
theorem but_below {B g : Nat} {a b : World} (h : But a.heap.size g a b) (hg : B ≤ g) (hB : B ≤ a.heap.size) : Below B a b := ⟨h.os, h.tape, h.output, h.size, fun k hk => h.block k (by omega) (by omega)⟩
/-- What the law has laid down: its secret and its tree. -/
structure LPCap (w0 w : World) (gs g : Nat) (I seed : List Nat) : Prop where
  sec : Blk w gs 27 (u8s (I ++ seed))
  st : Stands w g I seed 2 1
  bel : Below w0.heap.size w0 w
  gl : w0.heap.size ≤ gs ∧ gs < g
theorem LPCap.below {w0 w w' : World} {gs g : Nat} {I seed : List Nat} (h : LPCap w0 w gs g I seed) (hb : Below w.heap.size w w') : LPCap w0 w' gs g I seed :=
  ⟨h.sec.below hb h.sec.lt, h.st.below hb, h.bel.trans (hb.mono h.bel.size), h.gl⟩
theorem LPCap.but {w0 w w' : World} {gs g : Nat} {I seed : List Nat} (h : LPCap w0 w gs g I seed) (hb : But w.heap.size g w w') (hs : Stands w' g I seed 2 1) : LPCap w0 w' gs g I seed :=
  ⟨h.sec.but hb h.sec.lt (by have := h.gl.2; omega), hs, h.bel.trans (but_below hb (by have := h.gl; omega) h.bel.size), h.gl⟩
theorem piece_slice {w : World} {g : Nat} {xs : List Nat} {rest : List Value} {p2 : Option Addr} (h : Blk w g 5 (u8s xs ++ rest)) (l n : Nat) (hl : l + n ≤ xs.length) (h2 : p2 = some ⟨g, 0 + l, none⟩) : Sr w p2 ((xs.drop l).take n) := fun hx => by
  refine ⟨g, 0 + l, h2, h.lt, fun j hj => ?_⟩
  have hj2 : j < n := by rw [List.length_take, List.length_drop] at hj; omega
  rw [h.cell, List.getElem?_append_left (by rw [u8s_length]; omega), u8s_get _ _ (by omega)]
  congr 3
  simp [gt, List.getD_eq_getElem?_getD, hj2]
end Go.Proofs.YtkcjiidimmefdaaGreatDoor
