/-
  Bounds of SHA-256's plain functions; how the model's integer operations on words come to them.
-/
import Derived.Test.YthcebaegijlbdaaDoorPure
import Derived.WalkKit
namespace Go.Proofs.YthcebaegijlbdaaDoor.Sh
open Go

theorem lt_p {x : Nat} (h : x < 2 ^ 32) : x < 4294967296 := by omega
theorem xor_lt {x y : Nat} (hx : x < 4294967296) (hy : y < 4294967296) : x ^^^ y < 4294967296 := lt_p (Nat.xor_lt_two_pow (by omega) (by omega))
theorem or_lt {x y : Nat} (hx : x < 4294967296) (hy : y < 4294967296) : x ||| y < 4294967296 := lt_p (Nat.or_lt_two_pow (by omega) (by omega))
theorem and_lt {x y : Nat} (hy : y < 4294967296) : x &&& y < 4294967296 := Nat.lt_of_le_of_lt Nat.and_le_right hy
theorem div_lt {x n : Nat} (hx : x < 4294967296) : x / n < 4294967296 := Nat.lt_of_le_of_lt (Nat.div_le_self _ _) hx
theorem add_lt (x y : Nat) : add x y < 4294967296 := Nat.mod_lt _ (by decide)
theorem rotr_lt {x : Nat} (n : Nat) (hx : x < 4294967296) : rotr x n < 4294967296 := or_lt (div_lt hx) (Nat.mod_lt _ (by decide))
theorem bS0_lt {x : Nat} (hx : x < 4294967296) : bS0 x < 4294967296 := xor_lt (xor_lt (rotr_lt _ hx) (rotr_lt _ hx)) (rotr_lt _ hx)
theorem bS1_lt {x : Nat} (hx : x < 4294967296) : bS1 x < 4294967296 := xor_lt (xor_lt (rotr_lt _ hx) (rotr_lt _ hx)) (rotr_lt _ hx)
theorem sS0_lt {x : Nat} (hx : x < 4294967296) : sS0 x < 4294967296 := xor_lt (xor_lt (rotr_lt _ hx) (rotr_lt _ hx)) (div_lt hx)
theorem sS1_lt {x : Nat} (hx : x < 4294967296) : sS1 x < 4294967296 := xor_lt (xor_lt (rotr_lt _ hx) (rotr_lt _ hx)) (div_lt hx)

theorem ofInt32 (x : Nat) (hx : x < 4294967296) : (BitVec.ofInt 32 (x : Int)).toNat = x := by
  simp; omega
theorem wrap32 (x : Nat) (hx : x < 4294967296) : IntKind.u32.wrap (x : Int) = (x : Int) := IntWalk.u32_in _ (by omega)
theorem bits_xor (x y : Nat) (hx : x < 4294967296) (hy : y < 4294967296) : bits .xor .u32 (x : Int) (y : Int) = ((x ^^^ y : Nat) : Int) := by
  show IntKind.u32.wrap ((BitVec.ofInt 32 (x : Int) ^^^ BitVec.ofInt 32 (y : Int)).toNat : Int) = _
  rw [BitVec.toNat_xor, ofInt32 x hx, ofInt32 y hy]
  exact wrap32 _ (xor_lt hx hy)
theorem bits_or (x y : Nat) (hx : x < 4294967296) (hy : y < 4294967296) : bits .or .u32 (x : Int) (y : Int) = ((x ||| y : Nat) : Int) := by
  show IntKind.u32.wrap ((BitVec.ofInt 32 (x : Int) ||| BitVec.ofInt 32 (y : Int)).toNat : Int) = _
  rw [BitVec.toNat_or, ofInt32 x hx, ofInt32 y hy]
  exact wrap32 _ (or_lt hx hy)
theorem bits_and (x y : Nat) (hx : x < 4294967296) (hy : y < 4294967296) : bits .and .u32 (x : Int) (y : Int) = ((x &&& y : Nat) : Int) := by
  show IntKind.u32.wrap ((BitVec.ofInt 32 (x : Int) &&& BitVec.ofInt 32 (y : Int)).toNat : Int) = _
  rw [BitVec.toNat_and, ofInt32 x hx, ofInt32 y hy]
  exact wrap32 _ (and_lt hy)
theorem rotr_int (x n : Nat) (hx : x < 4294967296) : bits .or .u32 ((x : Int) / 2 ^ n) ((x : Int) * 2 ^ (32 - n) % 4294967296) = ((rotr x n : Nat) : Int) := by
  have h1 : ((x : Int) / 2 ^ n) = ((x / 2 ^ n : Nat) : Int) := by push_cast; rfl
  have h2 : ((x : Int) * 2 ^ (32 - n) % 4294967296) = ((x * 2 ^ (32 - n) % 4294967296 : Nat) : Int) := by rw [Int.natCast_emod, Int.natCast_mul, Int.natCast_pow]; rfl
  rw [h1, h2]
  exact bits_or _ _ (div_lt hx) (Nat.mod_lt _ (by decide))
theorem add_int (x y : Nat) : ((x : Int) + (y : Int)) % 4294967296 = ((add x y : Nat) : Int) := by unfold add; rw [Int.natCast_emod, Int.natCast_add]; rfl
theorem addadd_int (a b c : Nat) : ((a : Int) + (b + c)) % 4294967296 = ((add a (add b c) : Nat) : Int) := by unfold add; omega
theorem add4_int (a b c d : Nat) : ((a : Int) + b + c + d) % 4294967296 = ((add (add (add a b) c) d : Nat) : Int) := by unfold add; omega
theorem add5_int (a b c d e : Nat) : ((a : Int) + b + c + d + e) % 4294967296 = ((add (add (add (add a b) c) d) e : Nat) : Int) := by unfold add; omega
theorem xor_max (e : Nat) (he : e < 4294967296) : bits .xor .u32 4294967295 (e : Int) = ((4294967295 ^^^ e : Nat) : Int) := bits_xor 4294967295 e (by decide) he
theorem ch_int (e f g : Nat) (he : e < 4294967296) (hf : f < 4294967296) (hg : g < 4294967296) :
    bits .xor .u32 (bits .and .u32 (e : Int) (f : Int)) (bits .and .u32 (bits .xor .u32 4294967295 (e : Int)) (g : Int)) = ((ch e f g : Nat) : Int) := by
  rw [xor_max e he, bits_and _ _ he hf, bits_and _ _ (xor_lt (by decide) he) hg, bits_xor _ _ (and_lt hf) (and_lt hg)]
  rfl
theorem mj_int (a b c : Nat) (ha : a < 4294967296) (hb : b < 4294967296) (hc : c < 4294967296) :
    bits .xor .u32 (bits .xor .u32 (bits .and .u32 (a : Int) (b : Int)) (bits .and .u32 (a : Int) (c : Int))) (bits .and .u32 (b : Int) (c : Int)) = ((mj a b c : Nat) : Int) := by
  rw [bits_and _ _ ha hb, bits_and _ _ ha hc, bits_and _ _ hb hc, bits_xor _ _ (and_lt hb) (and_lt hc), bits_xor _ _ (xor_lt (and_lt hb) (and_lt hc)) (and_lt hc)]
  rfl
theorem ch_lt {e f g : Nat} (hf : f < 4294967296) (hg : g < 4294967296) : ch e f g < 4294967296 := xor_lt (and_lt hf) (and_lt hg)
theorem mj_lt {a b c : Nat} (hb : b < 4294967296) (hc : c < 4294967296) : mj a b c < 4294967296 := xor_lt (xor_lt (and_lt hb) (and_lt hc)) (and_lt hc)
theorem rnd_ok {s : S8} (h : s.ok) (k w : Nat) : (rnd s k w).ok :=
  ⟨add_lt _ _, h.1, h.2.1, h.2.2.1, add_lt _ _, h.2.2.2.2.1, h.2.2.2.2.2.1, h.2.2.2.2.2.2.1⟩
theorem rounds_ok {s : S8} (h : s.ok) (ws : List Nat) (n : Nat) : (rounds s ws n).ok := by
  induction n with
  | zero => exact h
  | succ n ih => exact rnd_ok ih _ _
theorem cmp_ok (s : S8) (ws : List Nat) : (cmp s ws).ok := ⟨add_lt _ _, add_lt _ _, add_lt _ _, add_lt _ _, add_lt _ _, add_lt _ _, add_lt _ _, add_lt _ _⟩
theorem h0_ok : h0.ok := by unfold S8.ok; decide
theorem run_ok (l : List Nat) (n : Nat) : (run l n).ok := by
  cases n with
  | zero => exact h0_ok
  | succ n => exact cmp_ok _ _
theorem be_int (a b c d : Nat) (ha : a < 256) (hb : b < 256) (hc : c < 256) (hd : d < 256) :
    bits .or .u32 (bits .or .u32 (bits .or .u32 ((a : Int) * 16777216) ((b : Int) * 65536)) ((c : Int) * 256)) (d : Int) = ((be a b c d : Nat) : Int) := by
  rw [show ((a : Int) * 16777216) = ((a * 16777216 : Nat) : Int) from by rw [Int.natCast_mul]; rfl, show ((b : Int) * 65536) = ((b * 65536 : Nat) : Int) from by rw [Int.natCast_mul]; rfl,
    show ((c : Int) * 256) = ((c * 256 : Nat) : Int) from by rw [Int.natCast_mul]; rfl, bits_or _ _ (by omega) (by omega), bits_or _ _ (or_lt (by omega) (by omega)) (by omega),
    bits_or _ _ (or_lt (or_lt (by omega) (by omega)) (by omega)) (by omega)]
  rfl
theorem be_lt {a b c d : Nat} (ha : a < 256) (hb : b < 256) (hc : c < 256) (hd : d < 256) : be a b c d < 4294967296 :=
  or_lt (or_lt (or_lt (by omega) (by omega)) (by omega)) (by omega)
theorem first_length (l : List Nat) (at_ n : Nat) : (first l at_ n).length = n := by
  induction n with
  | zero => rfl
  | succ n ih => simp [first, ih]
theorem set_next (p : List Nat) (n v : Nat) : (p ++ List.replicate (n + 1) 0).set p.length v = (p ++ [v]) ++ List.replicate n 0 := by
  rw [List.set_append_right _ _ (Nat.le_refl _)]; simp [List.replicate_succ]
theorem first_set (l : List Nat) (k n : Nat) : (first l 0 k ++ List.replicate (n + 1) 0).set k (word l 0 k) = first l 0 (k + 1) ++ List.replicate n 0 := by
  have := set_next (first l 0 k) n (word l 0 k)
  rw [first_length] at this
  exact this
theorem sch_length (m : List Nat) (n : Nat) : (sch m n).length = m.length + n := by
  induction n with
  | zero => rfl
  | succ n ih => simp [sch, ih, Nat.add_assoc]
theorem sch_set (m : List Nat) (hm : m.length = 16) (k n : Nat) : (sch m k ++ List.replicate (n + 1) 0).set (k + 16) (nw (sch m k) (k + 16)) = sch m (k + 1) ++ List.replicate n 0 := by
  have := set_next (sch m k) n (nw (sch m k) (k + 16))
  rw [sch_length, hm, Nat.add_comm 16 k] at this
  exact this
theorem gt_snoc_lt {l : List Nat} {v b : Nat} (h : ∀ i, gt l i < b) (hv : v < b) : ∀ i, gt (l ++ [v]) i < b := by
  intro i
  have hb : 0 < b := by omega
  unfold gt at *
  rw [List.getD_eq_getElem?_getD]
  rcases Nat.lt_trichotomy i l.length with hi | hi | hi
  · rw [List.getElem?_append_left hi, ← List.getD_eq_getElem?_getD]; exact h i
  · subst hi; simpa using hv
  · rw [List.getElem?_eq_none (by simp; omega)]; simpa using hb
theorem first_words (l : List Nat) (h : ∀ i, gt l i < 256) (n : Nat) : ∀ i, gt (first l 0 n) i < 4294967296 := by
  induction n with
  | zero => intro i; simp [first, gt]
  | succ n ih => exact gt_snoc_lt ih (be_lt (h _) (h _) (h _) (h _))
theorem sch_words (l : List Nat) (h : ∀ i, gt l i < 256) (n : Nat) : ∀ i, gt (sch (first l 0 16) n) i < 4294967296 := by
  induction n with
  | zero => exact first_words l h 16
  | succ n ih => exact gt_snoc_lt ih (add_lt _ _)
end Go.Proofs.YthcebaegijlbdaaDoor.Sh
