/-
  TupleTurned walked.
-/
import Derived.Test.YtigbnjgmdgkgjaaDoorTpT
namespace Go.Proofs.YtigbnjgmdgkgjaaDoor
open Go Go.RowKit Sh

theorem own_monoT {w : World} {base base' : Nat} {e : TypeId} {size : Nat} {v : Value} {n : Nat} {xs : List Value} (h : w.ownsRow base e size v n xs) (hb : base' ≤ base) : w.ownsRow base' e size v n xs := own_base h (fun k hk => Nat.le_trans hb (h.lt k hk).1)
theorem own_formT {w : World} {base : Nat} {e : TypeId} {v : Value} {n : Nat} {xs : List Value} (h : w.ownsRow base e 1 v n xs) (hn : 0 < n) : ∃ g c, v = .slice (some ⟨g, 0, none⟩) n c ∧ n ≤ c := by
  rcases h.2 with ⟨_, h0⟩ | ⟨g, cap, cur, rfl, _, _, hc, _⟩
  · omega
  · exact ⟨g, cap, rfl, hc⟩
theorem own_turnT {w : World} {base g c n : Nat} {l : List Nat} (h : w.ownsRow base 5 1 (.slice (some ⟨g, 0, none⟩) n c) n (u8s l)) (j y : Nat) :
    (w.setCell ⟨g, j, none⟩ (.int .u8 (y : Int))).ownsRow base 5 1 (.slice (some ⟨g, 0, none⟩) n c) n (u8s (l.set j y)) := by
  rw [← u8s_set]
  exact (h.stored j _).1
theorem mod_bigT (m : Nat) (hm : 0 < m) (hm2 : m ≤ 1000000) (n : Int) : ∃ k : Nat, k < m ∧ wrap64 ((IntKind.u64.wrap n).tmod (m : Int)) = (k : Int) := by
  have h0 : 0 ≤ IntKind.u64.wrap n := by simp [IntKind.wrap, IntKind.bits, IntKind.signed]; omega
  rw [Int.tmod_eq_emod_of_nonneg h0]
  generalize IntKind.u64.wrap n = x at *
  have h3 : 0 ≤ x % (m : Int) := Int.emod_nonneg _ (by omega)
  have h4 : x % (m : Int) < (m : Int) := Int.emod_lt_of_pos _ (by omega)
  refine ⟨(x % (m : Int)).toNat, by omega, ?_⟩
  generalize x % (m : Int) = y at *
  unfold wrap64
  omega
theorem xor_u8T (a x : Nat) (ha : a < 256) (hx : x < 256) : bits .xor .u8 (a : Int) (x : Int) = ((a ^^^ x : Nat) : Int) := by
  show IntKind.u8.wrap ((BitVec.ofInt 8 (a : Int) ^^^ BitVec.ofInt 8 (x : Int)).toNat : Int) = _
  have e1 : ∀ y : Nat, y < 256 → (BitVec.ofInt 8 (y : Int)).toNat = y := fun y hy => by simp; omega
  have h : a ^^^ x < 256 := Nat.xor_lt_two_pow (n := 8) ha hx
  rw [BitVec.toNat_xor, e1 a ha, e1 x hx]
  exact IntWalk.u8_in _ (by omega)
theorem set_bytesT {l : List Nat} (hb : Bytes l) (j x : Nat) (hx : x < 256) : Bytes (l.set j (gt l j ^^^ x)) := sl_bytes (fun y hy => by
    rcases List.mem_or_eq_of_mem_set hy with h | rfl
    · obtain ⟨q, hq, rfl⟩ := List.getElem_of_mem h
      have := hb q
      rwa [gt_of_lt hq] at this
    · exact Nat.xor_lt_two_pow (n := 8) (hb j) hx)
theorem set_iff {l : List Nat} {j x : Nat} (hj : j < l.length) : l.set j (gt l j ^^^ x) = l ↔ x = 0 := by
  constructor
  · intro h
    have h1 : (l.set j (gt l j ^^^ x))[j]? = l[j]? := by rw [h]
    rw [List.getElem?_set_self hj, List.getElem?_eq_getElem hj] at h1
    have h2 := Option.some.inj h1
    rw [gt_of_lt hj] at h2
    have h3 : l[j] ^^^ (l[j] ^^^ x) = l[j] ^^^ l[j] := by rw [h2]
    rwa [← Nat.xor_assoc, Nat.xor_self, Nat.zero_xor] at h3
  · rintro rfl
    rw [Nat.xor_zero, gt_of_lt hj]
    exact List.set_getElem_self hj
/-- What a turned byte makes of a template's bytes. -/
theorem turn_get {n : Nat} {G : Nat → Fld} {j x : Nat} (hm : mayP n G = true) (hr : ∀ i, i < n → InR (G i)) (hj : j < (putN n G).length) (hx : x < 256) :
    (getOK ((putN n G).set j (gt (putN n G) j ^^^ x)) = false → x ≠ 0) ∧
    (getOK ((putN n G).set j (gt (putN n G) j ^^^ x)) = true → mayP (cntN ((putN n G).set j (gt (putN n G) j ^^^ x))) (gotN ((putN n G).set j (gt (putN n G) j ^^^ x))) = true ∧
      putN (cntN ((putN n G).set j (gt (putN n G) j ^^^ x))) (gotN ((putN n G).set j (gt (putN n G) j ^^^ x))) = (putN n G).set j (gt (putN n G) j ^^^ x) ∧
      sameN n G (cntN ((putN n G).set j (gt (putN n G) j ^^^ x))) (gotN ((putN n G).set j (gt (putN n G) j ^^^ x))) = decide (x = 0)) := by
  have hb := set_bytesT (putN_bytes n G) j x hx
  have hs := set_iff (x := x) hj
  obtain ⟨ys, hys⟩ : ∃ ys, (putN n G).set j (gt (putN n G) j ^^^ x) = ys := ⟨_, rfl⟩
  rw [hys] at hb hs ⊢
  obtain ⟨g1, g2, g3⟩ := get_front_ok hm hr
  constructor
  · intro h h0
    rw [hs.2 h0, g1] at h
    cases h
  · intro h
    obtain ⟨e1, e2, _⟩ := get_back hb h
    refine ⟨e2, e1.symm, ?_⟩
    by_cases h0 : x = 0
    · rw [decide_eq_true h0]
      have := hs.2 h0
      subst this
      exact sameN_of g2.symm (fun i hi => (g3 i hi).symm)
    · rw [decide_eq_false h0]
      cases hq : sameN n G (cntN ys) (gotN ys) with
      | false => rfl
      | true =>
        obtain ⟨q1, q2⟩ := sameN_iff.1 hq
        exfalso
        apply h0
        apply hs.1
        rw [e1, ← q1, putN, putN, catF_congr n (fun i hi => q2 i hi)]
end Go.Proofs.YtigbnjgmdgkgjaaDoor
