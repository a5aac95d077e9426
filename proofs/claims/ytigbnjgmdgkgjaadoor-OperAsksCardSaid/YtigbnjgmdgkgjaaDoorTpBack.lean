/-
  TupleBack walked.
-/
import Derived.Test.YtigbnjgmdgkgjaaDoorTpTurned
import Derived.Test.YtigbnjgmdgkgjaaDoorRefP
namespace Go.Proofs.YtigbnjgmdgkgjaaDoor
open Go Go.RowKit Sh

/-- Cut off it does not come back. -/
theorem take_no {n : Nat} {G : Nat → Fld} {j : Nat} (hm : mayP n G = true) (hr : ∀ i, i < n → InR (G i)) (hj : j < (putN n G).length) : getOK ((putN n G).take j) = false := by
  cases h : getOK ((putN n G).take j) with
  | false => rfl
  | true =>
    obtain ⟨e1, e2, e3⟩ := get_back (bytes_take (putN_bytes n G) j) h
    have h1 := (get_front_ok hm hr).1
    have h2 : putN n G = putN (cntN ((putN n G).take j)) (gotN ((putN n G).take j)) ++ (putN n G).drop j := by rw [← e1, List.take_append_drop]
    have h3 := get_front_no ((putN n G).drop j) e2 e3 (by rw [List.length_drop]; omega)
    rw [← h2, h1] at h3
    cases h3
/-- Two that are unlike have unlike bytes. -/
theorem put_inj {n m : Nat} {G H : Nat → Fld} (hm : mayP n G = true) (hr : ∀ i, i < n → InR (G i)) (km : mayP m H = true) (kr : ∀ i, i < m → InR (H i)) : sameN n G m H = decide (putN n G = putN m H) := by
  by_cases h : putN n G = putN m H
  · rw [decide_eq_true h]
    obtain ⟨_, g2, g3⟩ := get_front_ok hm hr
    obtain ⟨_, k2, k3⟩ := get_front_ok km kr
    rw [h] at g2 g3
    have e : n = m := g2.symm.trans k2
    exact sameN_of e (fun j hj => (g3 j hj).symm.trans (k3 j (by omega)))
  · rw [decide_eq_false h]
    cases hq : sameN n G m H with
    | false => rfl
    | true =>
      obtain ⟨q1, q2⟩ := sameN_iff.1 hq
      subst q1
      exact absurd (by rw [putN, putN, catF_congr n (fun i hi => q2 i hi)]) h
theorem own_emptyT (w : World) (base : Nat) (h : base ≤ w.heap.size) : (w.alloc (.cells #[] 5)).ownsRow base 5 1 (.slice (some ⟨w.heap.size, 0, none⟩) 0 0) 0 (u8s []) := by
  have := World.ownsRow_lit w (e := 5) (size := 1) (base := base) #[] 0 h (Nat.zero_le _) rfl
  simpa [u8s] using this
theorem one_bytesT (x : Nat) (hx : x < 256) : Bytes [x] := sl_bytes (fun y hy => by obtain rfl := List.mem_singleton.1 hy; exact hx)
theorem own_zero {w : World} {base : Nat} {e : TypeId} {v : Value} {n : Nat} {xs : List Nat} (h : w.ownsRow base e 1 v (0 + n) (u8s ([] ++ xs))) : w.ownsRow base e 1 v n (u8s xs) := by rwa [List.nil_append, Nat.zero_add] at h
theorem grown_size {w w' : World} {o : Obj} {r : Option Nat} (h : (w.alloc o).grownBy w' r) (o' : Obj) : w.heap.size ≤ (w'.alloc o').heap.size := by
  have h1 := h.size
  simp at h1 ⊢
  omega
/-- What TupleBack has: two rows, the first one's bytes. -/
structure BCap (w0 W : World) (p : Option Addr) (n : Nat) (G : Nat → Fld) (q : Option Addr) (m : Nat) (H : Nat → Fld) (A : Option Addr) (xs : List Nat) : Prop where
  r1 : Rw W p n G
  r2 : Rw W q m H
  sr : Sr W A xs
  bel : Below w0.heap.size w0 W
theorem BCap.below {w0 W W' : World} {p : Option Addr} {n : Nat} {G : Nat → Fld} {q : Option Addr} {m : Nat} {H : Nat → Fld} {A : Option Addr} {xs : List Nat} (h : BCap w0 W p n G q m H A xs) (hb : Below W.heap.size W W') : BCap w0 W' p n G q m H A xs :=
  ⟨h.r1.below hb, h.r2.below hb, h.sr.below hb, h.bel.trans (hb.mono h.bel.size)⟩
end Go.Proofs.YtigbnjgmdgkgjaaDoor
