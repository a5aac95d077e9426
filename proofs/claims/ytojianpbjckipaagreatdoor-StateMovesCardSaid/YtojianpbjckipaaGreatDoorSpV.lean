/-
  LAW 8: told.
-/
import Derived.Test.YtojianpbjckipaaGreatDoorSpU
import Derived.Test.YtojianpbjckipaaGreatDoorSpG
namespace Go.Proofs.YtojianpbjckipaaGreatDoor
open Go Go.RowKit Sh

def fA : Fld := ⟨5, 0, eS⟩
def fI (n : Int) : Fld := ⟨1, n, eS⟩
def q1 : Rq := ⟨0, 1, 5, 0, 1, fun _ => fA, 0, fun _ => f0⟩
def q2 : Rq := ⟨1, 1, 1, 9, 0, fun _ => f0, 1, fun _ => fI 4⟩
def tA : Sp := ⟨1, [], [⟨0, 1, true, [fA]⟩], 15, 15, [⟨0, 1, 4, [], false⟩, ⟨1, 0, 0, [], false⟩, ⟨2, 0, 0, [], false⟩, ⟨3, 0, 0, [], false⟩]⟩
def tB : Sp := ⟨2, [], [], 15, 15, [⟨0, 1, 2, [fI 4], true⟩, ⟨1, 1, 1, [], false⟩, ⟨2, 0, 0, [], false⟩, ⟨3, 0, 0, [], false⟩]⟩
def tC : Sp := ⟨3, [], [], 15, 15, [⟨0, 1, 2, [fI 4], true⟩, ⟨1, 1, 1, [], false⟩, ⟨2, 0, 0, [], false⟩, ⟨3, 0, 0, [], false⟩]⟩
theorem do_A : doP (newS 15 15) 1 q1 = (tA, [⟨0, 1, 4, [], false⟩]) := by kernel_rfl
theorem do_B : doP tA 2 q2 = (tB, [⟨1, 1, 1, [], false⟩, ⟨0, 1, 2, [fI 4], true⟩]) := by kernel_rfl
theorem do_C : doP tB 3 q1 = (tC, [⟨0, 1, 2, [fI 4], true⟩]) := by kernel_rfl
theorem may_new : spMay (newS 15 15) = true := by kernel_rfl
theorem small_A : Small tA := ⟨by decide, by decide, by decide, by decide, by decide⟩
theorem small_B : Small tB := ⟨by decide, by decide, by decide, by decide, by decide⟩
theorem small_C : Small tC := ⟨by decide, by decide, by decide, by decide, by decide⟩
theorem small_new : Small (newS 15 15) := ⟨by decide, by decide, by decide, by decide, by decide⟩
def zS : List Value := [.int .i64 0, .slice none 0 0, .slice none 0 0, .int .i64 0, .int .i64 0, .int .i64 0, .int .i64 0, .int .i64 0, .slice none 0 0, .bool false, .int .i64 0, .int .i64 0, .int .i64 0, .slice none 0 0, .bool false, .int .i64 0, .int .i64 0, .int .i64 0, .slice none 0 0, .bool false, .int .i64 0, .int .i64 0, .int .i64 0, .slice none 0 0, .bool false]
/-- A space kept in a block of its own. -/
structure KSp (W : World) (g : Nat) (x : Spv) : Prop where
  box : Blk W g 29 (sv x)
  w : SpW W x
theorem KSp.below {W W' : World} {g : Nat} {x : Spv} (h : KSp W g x) (hb : Below W.heap.size W W') : KSp W' g x := ⟨h.box.below hb h.box.lt, h.w.below hb⟩
theorem KSp.new {w1 : World} {x : Spv} (h : SpW w1 x) : KSp ((w1.alloc (.cells #[.int .i64 0, .slice none 0 0, .slice none 0 0, .int .i64 0, .int .i64 0, .int .i64 0, .int .i64 0, .int .i64 0, .slice none 0 0, .bool false, .int .i64 0, .int .i64 0, .int .i64 0, .slice none 0 0, .bool false, .int .i64 0, .int .i64 0, .int .i64 0, .slice none 0 0, .bool false, .int .i64 0, .int .i64 0, .int .i64 0, .slice none 0 0, .bool false] 29)).setRow w1.heap.size (sv x).toArray) w1.heap.size x ∧ Below w1.heap.size w1 ((w1.alloc (.cells #[.int .i64 0, .slice none 0 0, .slice none 0 0, .int .i64 0, .int .i64 0, .int .i64 0, .int .i64 0, .int .i64 0, .slice none 0 0, .bool false, .int .i64 0, .int .i64 0, .int .i64 0, .slice none 0 0, .bool false, .int .i64 0, .int .i64 0, .int .i64 0, .slice none 0 0, .bool false, .int .i64 0, .int .i64 0, .int .i64 0, .slice none 0 0, .bool false] 29)).setRow w1.heap.size (sv x).toArray) := by
  have b := below_setRow (g := w1.heap.size) ((Below.refl w1.heap.size w1).alloc (Nat.le_refl _) (.cells #[.int .i64 0, .slice none 0 0, .slice none 0 0, .int .i64 0, .int .i64 0, .int .i64 0, .int .i64 0, .int .i64 0, .slice none 0 0, .bool false, .int .i64 0, .int .i64 0, .int .i64 0, .slice none 0 0, .bool false, .int .i64 0, .int .i64 0, .int .i64 0, .slice none 0 0, .bool false, .int .i64 0, .int .i64 0, .int .i64 0, .slice none 0 0, .bool false] 29)) (Nat.le_refl _) (sv x).toArray
  exact ⟨⟨(Blk.new w1 29 [.int .i64 0, .slice none 0 0, .slice none 0 0, .int .i64 0, .int .i64 0, .int .i64 0, .int .i64 0, .int .i64 0, .slice none 0 0, .bool false, .int .i64 0, .int .i64 0, .int .i64 0, .slice none 0 0, .bool false, .int .i64 0, .int .i64 0, .int .i64 0, .slice none 0 0, .bool false, .int .i64 0, .int .i64 0, .int .i64 0, .slice none 0 0, .bool false]).setRow (sv x), h.below b⟩, b⟩
theorem rows_one {W : World} {B c : Nat} {q : Option Addr} {R : List Rpv} {r : Rp} (h : W.ownsRow B 26 5 (.slice q R.length c) R.length (R.flatMap pv)) (hr : R.map (·.r) = [r]) : ∃ y b, R = [y] ∧ y.r = r ∧ q = some ⟨b, 0, none⟩ ∧ b < W.heap.size ∧ W.rangeAt b 0 (pv y) := by
  match R, hr, h with
  | [y], hr, h =>
    obtain ⟨b, hb, _, hl, hc, _⟩ := own_block h (by simp)
    refine ⟨y, b, rfl, by simpa using hr, hb, hl, fun j v hv => ?_⟩
    have hj : j < 5 := by have := (List.getElem?_eq_some_iff.1 hv).1; rwa [pv_len] at this
    rw [Nat.zero_add, hc j (by simp; omega)]
    simpa using hv
theorem rows_two {W : World} {B c : Nat} {q : Option Addr} {R : List Rpv} {r r' : Rp} (h : W.ownsRow B 26 5 (.slice q R.length c) R.length (R.flatMap pv)) (hr : R.map (·.r) = [r, r']) : ∃ y y' b, R = [y, y'] ∧ y.r = r ∧ y'.r = r' ∧ q = some ⟨b, 0, none⟩ ∧ b < W.heap.size ∧ W.rangeAt b 0 (pv y) ∧ W.rangeAt b 5 (pv y') := by
  match R, hr, h with
  | [y, y'], hr, h =>
    obtain ⟨b, hb, _, hl, hc, _⟩ := own_block h (by simp)
    have h1 : y.r = r ∧ y'.r = r' := by simpa using hr
    refine ⟨y, y', b, rfl, h1.1, h1.2, hb, hl, fun j v hv => ?_, fun j v hv => ?_⟩
    · have hj : j < 5 := by have := (List.getElem?_eq_some_iff.1 hv).1; rwa [pv_len] at this
      rw [Nat.zero_add, hc j (by simp; omega)]
      simp only [List.flatMap_cons, List.flatMap_nil, List.append_nil]
      rw [List.getElem?_append_left (by rw [pv_len]; exact hj)]
      exact hv
    · have hj : j < 5 := by have := (List.getElem?_eq_some_iff.1 hv).1; rwa [pv_len] at this
      rw [hc (5 + j) (by simp; omega)]
      simp only [List.flatMap_cons, List.flatMap_nil, List.append_nil]
      rw [List.getElem?_append_right (by rw [pv_len]; omega), pv_len, show 5 + j - 5 = j by omega]
      exact hv
theorem rw_one {W : World} {g : Nat} {f : Fld} (h : Blk W g 131 (fv f)) : Rw W (some ⟨g, 0, none⟩) 1 (fun _ => f) := fun j hj => by
  obtain rfl : j = 0 := by omega
  exact ⟨g, 0, rfl, h.lt, by simpa using rows_of_blk h⟩
theorem built_q1 (a : Addr) : Tryz.prog.built 51 [(0, .int .i64 0), (1, .int .i64 1), (2, .int .i64 5), (3, .slice (some a) 1 1)] = some (rv ⟨q1, some a, 1, none, 0⟩).toArray := by kernel_rfl
theorem built_q2 (a : Addr) : Tryz.prog.built 51 [(0, .int .i64 1), (1, .int .i64 1), (2, .int .i64 1), (4, .slice (some a) 1 1), (5, .int .i64 9)] = some (rv ⟨q2, none, 0, some a, 1⟩).toArray := by kernel_rfl
theorem none_rw (w : World) (p : Option Addr) (G : Nat → Fld) : Rw w p 0 G := fun j hj => absurd hj (by omega)
end Go.Proofs.YtojianpbjckipaaGreatDoor
