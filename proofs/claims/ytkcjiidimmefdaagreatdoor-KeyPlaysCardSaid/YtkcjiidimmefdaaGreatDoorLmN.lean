/-
  PACKAGE lms, OVER Nat: the nodes of a tree, laid from the last one on.
-/
import Derived.Test.YtkcjiidimmefdaaGreatDoorOtM
namespace Go.Proofs.YtkcjiidimmefdaaGreatDoor
open Go Go.RowKit Sh

/-- The text of 32 bytes at place r. -/
def hAt (L : List Nat) (r : Nat) : List Nat := (L.drop (32 * r)).take 32
def put32 (L : List Nat) (r : Nat) (X : List Nat) : List Nat := L.take (32 * r) ++ (X ++ L.drop (32 * r + 32))
theorem hAt_length (L : List Nat) (r : Nat) (h : 32 * r + 32 ≤ L.length) : (hAt L r).length = 32 := by
  unfold hAt; rw [List.length_take, List.length_drop]; omega
theorem hAt_bytes (L : List Nat) (r : Nat) (h : Bytes L) : Bytes (hAt L r) := bytes_take (bytes_drop h _) _
theorem put32_length (L : List Nat) (r : Nat) (X : List Nat) (h : 32 * r + 32 ≤ L.length) (hX : X.length = 32) : (put32 L r X).length = L.length := by
  unfold put32; rw [List.length_append, List.length_append, List.length_take, List.length_drop]; omega
theorem put32_bytes (L : List Nat) (r : Nat) (X : List Nat) (h : Bytes L) (hX : Bytes X) : Bytes (put32 L r X) := app_bytes (bytes_take h _) (app_bytes hX (bytes_drop h _))
theorem hAt_put (L : List Nat) (r : Nat) (X : List Nat) (h : 32 * r + 32 ≤ L.length) (hX : X.length = 32) : hAt (put32 L r X) r = X := by
  unfold hAt put32
  rw [List.drop_append_of_le_length (by rw [List.length_take]; omega), List.drop_of_length_le (by rw [List.length_take]; omega), List.nil_append, List.take_append_of_le_length (by omega), List.take_of_length_le (by omega)]
theorem hAt_other (L : List Nat) (r s : Nat) (X : List Nat) (h : 32 * r + 32 ≤ L.length) (hX : X.length = 32) (hne : s ≠ r) : hAt (put32 L r X) s = hAt L s := by
  unfold hAt put32
  apply List.ext_getElem?
  intro j
  rw [List.getElem?_take, List.getElem?_take]
  split
  · rename_i hj
    rw [List.getElem?_drop, List.getElem?_drop]
    rcases Nat.lt_or_ge (32 * s + j) (32 * r) with h1 | h1
    · rw [List.getElem?_append_left (by rw [List.length_take]; omega), List.getElem?_take, if_pos h1]
    · have h2 : 32 * r + 32 ≤ 32 * s + j := by omega
      rw [List.getElem?_append_right (by rw [List.length_take]; omega), List.length_take, Nat.min_eq_left (by omega), List.getElem?_append_right (by omega), List.getElem?_drop, hX]
      congr 1; omega
  · rfl
/-- What node r is made of, the nodes behind it being there. -/
def leafV (I : List Nat) (r : Nat) (K : List Nat) : List Nat := sum (headN I r 33410 ++ K)
def innerV (I : List Nat) (r : Nat) (A B : List Nat) : List Nat := sum (headN I r 33667 ++ A ++ B)
def nodeV (I seed : List Nat) (i : Nat) (L : List Nat) (r : Nat) : List Nat :=
  if r < 32 then innerV I r (hAt L (2 * r)) (hAt L (2 * r + 1)) else leafV I r (pubN I seed (r - 32) i)
/-- The nodes, the last k of them made. -/
def nod (I seed : List Nat) (i : Nat) : Nat → List Nat
  | 0 => List.replicate 2048 0
  | k + 1 => put32 (nod I seed i k) (63 - k) (nodeV I seed i (nod I seed i k) (63 - k))
theorem nodeV_length (I seed : List Nat) (i : Nat) (L : List Nat) (r : Nat) : (nodeV I seed i L r).length = 32 := by
  unfold nodeV; split <;> rfl
theorem nod_length (I seed : List Nat) (i : Nat) : ∀ k, k ≤ 63 → (nod I seed i k).length = 2048
  | 0, _ => by rw [nod, List.length_replicate]
  | k + 1, h => by
    have ih := nod_length I seed i k (by omega)
    rw [nod, put32_length _ _ _ (by omega) (nodeV_length ..)]; exact ih
theorem pubOf_bytes (I : List Nat) (q : Nat) (l : List Nat) (hI : Bytes I) (hl : Bytes l) : Bytes (pubOf I q l) := sum_bytes _ (app_bytes (headN_bytes _ _ _ hI) hl)
theorem pubN_bytes (I seed : List Nat) (q i : Nat) (hi : i < 4) (hI : Bytes I) (hs : Bytes seed) : Bytes (pubN I seed q i) := pubOf_bytes _ _ _ hI (catN_bytes _ _ fun j _ => (tipN_ok I seed q i j hi hI hs).2)
theorem leafV_bytes (I : List Nat) (r : Nat) (K : List Nat) (hI : Bytes I) (hK : Bytes K) : Bytes (leafV I r K) := sum_bytes _ (app_bytes (headN_bytes _ _ _ hI) hK)
theorem innerV_bytes (I : List Nat) (r : Nat) (A B : List Nat) (hI : Bytes I) (hA : Bytes A) (hB : Bytes B) : Bytes (innerV I r A B) := sum_bytes _ (app_bytes (app_bytes (headN_bytes _ _ _ hI) hA) hB)
theorem nodeV_bytes (I seed : List Nat) (i : Nat) (L : List Nat) (r : Nat) (hi : i < 4) (hI : Bytes I) (hs : Bytes seed) (hL : Bytes L) : Bytes (nodeV I seed i L r) := by
  unfold nodeV; split
  · exact innerV_bytes _ _ _ _ hI (hAt_bytes _ _ hL) (hAt_bytes _ _ hL)
  · exact leafV_bytes _ _ _ hI (pubN_bytes _ _ _ _ hi hI hs)
theorem nod_bytes (I seed : List Nat) (i : Nat) (hi : i < 4) (hI : Bytes I) (hs : Bytes seed) : ∀ k, Bytes (nod I seed i k)
  | 0 => fun j => by
    rw [nod]
    rcases Nat.lt_or_ge j 2048 with h | h
    · rw [gt_of_lt (by rw [List.length_replicate]; exact h), List.getElem_replicate]; decide
    · rw [gt_out (by rw [List.length_replicate]; exact h)]; decide
  | k + 1 => by
    have ih := nod_bytes I seed i hi hI hs k
    rw [nod]; exact put32_bytes _ _ _ ih (nodeV_bytes _ _ _ _ _ hi hI hs ih)
/-- A node that is made stays. -/
theorem nod_stays (I seed : List Nat) (i r : Nat) : ∀ m k, 63 - k < r → k + m ≤ 63 → hAt (nod I seed i (k + m)) r = hAt (nod I seed i k) r
  | 0, _, _, _ => rfl
  | m + 1, k, h1, h2 => by
    rw [← Nat.add_assoc, nod, hAt_other _ _ _ _ (by rw [nod_length _ _ _ _ (by omega)]; omega) (nodeV_length ..) (by omega)]
    exact nod_stays I seed i r m k h1 (by omega)
theorem nodeV_stays (I seed : List Nat) (i r m k : Nat) (h1 : r = 63 - k) (h3 : k < 63) (h2 : k + m ≤ 63) : nodeV I seed i (nod I seed i (k + m)) r = nodeV I seed i (nod I seed i k) r := by
  unfold nodeV
  split
  · rw [nod_stays I seed i (2 * r) m k (by omega) h2, nod_stays I seed i (2 * r + 1) m k (by omega) h2]
  · rfl
/-- What stands at node r is what node r is made of. -/
theorem nod_at (I seed : List Nat) (i r : Nat) (h1 : 1 ≤ r) (h2 : r ≤ 63) : hAt (nod I seed i 63) r = nodeV I seed i (nod I seed i 63) r := by
  have e1 := nod_stays I seed i r (63 - (64 - r)) (64 - r) (by omega) (by omega)
  rw [show 64 - r + (63 - (64 - r)) = 63 from by omega] at e1
  have e2 := nodeV_stays I seed i r (63 - (63 - r)) (63 - r) (by omega) (by omega) (by omega)
  rw [show 63 - r + (63 - (63 - r)) = 63 from by omega] at e2
  rw [e1, e2, show 64 - r = (63 - r) + 1 from by omega, nod, show 63 - (63 - r) = r from by omega]
  exact hAt_put _ _ _ (by rw [nod_length _ _ _ _ (by omega)]; omega) (nodeV_length ..)
end Go.Proofs.YtkcjiidimmefdaaGreatDoor
