/-
  OtsHolds walked.
-/
import Derived.Test.YtohgggblnnokeaaGreatDoorRfM
namespace Go.Proofs.YtohgggblnnokeaaGreatDoor
open Go Go.RowKit Sh

theorem xor_u8n (a x : Nat) (ha : a < 256) (hx : x < 256) : bits .xor .u8 (a : Int) (x : Int) = ((a ^^^ x : Nat) : Int) := by
  show IntKind.u8.wrap ((BitVec.ofInt 8 (a : Int) ^^^ BitVec.ofInt 8 (x : Int)).toNat : Int) = _
  have e1 : ∀ y : Nat, y < 256 → (BitVec.ofInt 8 (y : Int)).toNat = y := fun y hy => by simp; omega
  have h : a ^^^ x < 256 := Nat.xor_lt_two_pow (n := 8) ha hx
  rw [BitVec.toNat_xor, e1 a ha, e1 x hx]
  exact IntWalk.u8_in _ (by omega)
theorem mod_big (m : Nat) (hm : 0 < m) (hm2 : m ≤ 1000000) (n : Int) : ∃ k : Nat, k < m ∧ wrap64 ((IntKind.u64.wrap n).tmod (m : Int)) = (k : Int) := by
  have h0 : 0 ≤ IntKind.u64.wrap n := by simp [IntKind.wrap, IntKind.bits, IntKind.signed]; omega
  rw [Int.tmod_eq_emod_of_nonneg h0]
  generalize IntKind.u64.wrap n = x at *
  have h3 : 0 ≤ x % (m : Int) := Int.emod_nonneg _ (by omega)
  have h4 : x % (m : Int) < (m : Int) := Int.emod_lt_of_pos _ (by omega)
  refine ⟨(x % (m : Int)).toNat, by omega, ?_⟩
  generalize x % (m : Int) = y at *
  unfold wrap64
  omega
/-- What Candidate tells of a signature of the right length: the key, and the error. -/
def candR (I : List Nat) (q i : Nat) (ys xs : List Nat) : List Nat × Nat := if val (xs.take 4) = (kd i).code then (candN I q i ys xs, 0) else (z32, 3)
theorem candR_yes (I : List Nat) (q i : Nat) (ys xs : List Nat) (h : val (xs.take 4) = (kd i).code) : candR I q i ys xs = (candN I q i ys xs, 0) := if_pos h
theorem candR_no (I : List Nat) (q i : Nat) (ys xs : List Nat) (h : val (xs.take 4) ≠ (kd i).code) : candR I q i ys xs = (z32, 3) := if_neg h
/-- A byte turned in the typecode is a fault, elsewhere it is none. -/
theorem turned (I ys xs : List Nat) (q i n x : Nat) (hi : i < 4) (hb : Bytes xs) (hl : 4 ≤ xs.length) (hn : n < xs.length) (hx : x ≠ 0) (hx2 : x < 256) (hcode : val (xs.take 4) = (kd i).code) :
    Bytes (xs.set n (gt xs n ^^^ x)) ∧ (n < 4 ∧ (candR I q i ys (xs.set n (gt xs n ^^^ x))).2 = 3 ∨ ¬ n < 4 ∧ (candR I q i ys (xs.set n (gt xs n ^^^ x))).2 = 0) := by
  have hc4 : (kd i).code ≤ 4 := by rcases i with _ | _ | _ | i <;> simp [kd]
  have hz : gt xs n ^^^ x < 256 := Nat.xor_lt_two_pow (n := 8) (hb n) hx2
  have hb2 : Bytes (xs.set n (gt xs n ^^^ x)) := sl_bytes (fun y hy => by
    rcases List.mem_or_eq_of_mem_set hy with h | rfl
    · obtain ⟨q, hq, rfl⟩ := List.getElem_of_mem h
      have := hb q
      rwa [gt_of_lt hq] at this
    · exact hz)
  refine ⟨hb2, ?_⟩
  by_cases h4 : n < 4
  · refine .inl ⟨h4, ?_⟩
    have hne : val ((xs.set n (gt xs n ^^^ x)).take 4) ≠ (kd i).code := fun h => by
      have e1 := (code_eq _ _ (by rw [List.length_set]; exact hl) hb2 (by omega)).2 h
      have e2 := (code_eq xs _ hl hb (by omega)).2 hcode
      have e3 : (xs.set n (gt xs n ^^^ x)).take 4 = xs.take 4 := e1.trans e2.symm
      have e4 : ((xs.set n (gt xs n ^^^ x)).take 4)[n]? = (xs.take 4)[n]? := by rw [e3]
      rw [List.getElem?_take, List.getElem?_take, if_pos h4, if_pos h4, List.getElem?_set_self hn, List.getElem?_eq_getElem hn] at e4
      have e5 := Option.some.inj e4
      rw [gt_of_lt hn] at e5
      have e6 : xs[n] ^^^ (xs[n] ^^^ x) = xs[n] ^^^ xs[n] := by rw [e5]
      rw [← Nat.xor_assoc, Nat.xor_self, Nat.zero_xor] at e6
      exact hx e6
    rw [candR_no _ _ _ _ _ hne]
  · refine .inr ⟨h4, ?_⟩
    have e : (xs.set n (gt xs n ^^^ x)).take 4 = xs.take 4 := by
      apply List.ext_getElem?
      intro j
      rw [List.getElem?_take, List.getElem?_take]
      split
      · rw [List.getElem?_set_ne (by omega)]
      · rfl
    rw [candR_yes _ _ _ _ _ (by rw [e]; exact hcode)]
/-- What the law has laid down so far: the secret, the signature, the hashes. -/
structure HCap (w0 w : World) (gs : Nat) (I seed : List Nat) (A : Option Addr) (sg : List Nat) (L : List (Nat × List Nat)) : Prop where
  cap : LCap w0 w gs I seed
  sr : Sr w A sg
  blk : ∀ x, x ∈ L → Blk w x.1 24 (u8s x.2)
theorem HCap.below {w0 w w' : World} {gs : Nat} {I seed : List Nat} {A : Option Addr} {sg : List Nat} {L : List (Nat × List Nat)} (h : HCap w0 w gs I seed A sg L) (hb : Below w.heap.size w w') : HCap w0 w' gs I seed A sg L :=
  ⟨h.cap.below hb, h.sr.below hb, fun x hx => (h.blk x hx).below hb (h.blk x hx).lt⟩
end Go.Proofs.YtohgggblnnokeaaGreatDoor
