/-
  What TupleMatch turns: fields that are open, a field that is turned.
-/
import Derived.Test.YtigbnjgmdgkgjaaDoorTpBack
import Derived.Test.YtigbnjgmdgkgjaaDoorTpW
namespace Go.Proofs.YtigbnjgmdgkgjaaDoor
open Go Go.RowKit Sh

def upd (G : Nat → Fld) (i : Nat) (f : Fld) : Nat → Fld := fun j => if j = i then f else G j
theorem upd_self (G : Nat → Fld) (i : Nat) (f : Fld) : upd G i f i = f := if_pos rfl
theorem upd_ne (G : Nat → Fld) {i j : Nat} (f : Fld) (h : j ≠ i) : upd G i f j = G j := if_neg h
theorem rowC_congr {G H : Nat → Fld} : ∀ n, (∀ j, j < n → G j = H j) → rowC G n = rowC H n
  | 0, _ => rfl
  | n + 1, h => by rw [rowC, rowC, rowC_congr n (fun j hj => h j (by omega)), h n (by omega)]
/-- A row, taken apart at a place. -/
theorem rowC_split (G : Nat → Fld) (i : Nat) : ∀ n, i < n → ∃ T, ∀ f, rowC (upd G i f) n = rowC G i ++ (fv f ++ T)
  | 0, h => absurd h (by omega)
  | n + 1, h => by
    rcases Nat.lt_or_ge i n with hlt | hge
    · obtain ⟨T, hT⟩ := rowC_split G i n hlt
      exact ⟨T ++ fv (G n), fun f => by rw [rowC, hT f, upd_ne G f (by omega), List.append_assoc, List.append_assoc]⟩
    · obtain rfl : i = n := by omega
      exact ⟨[], fun f => by rw [rowC, upd_self, List.append_nil, rowC_congr i (fun j hj => upd_ne G f (by omega))]⟩
theorem upd_same (G : Nat → Fld) (i : Nat) : upd G i (G i) = G := funext fun j => by
  unfold upd
  split
  · rename_i h; rw [h]
  · rfl
/-- A template's field that comes of a tuple's. -/
def PJ (p g : Fld) : Prop := p = g ∨ p = ⟨5, 0, eS⟩ ∨ p = ⟨2 + g.k, 0, eS⟩
theorem eS_nil : eS.toList.isEmpty = true := by decide +kernel
theorem okV_kinds {g : Fld} (h : okV g = true) : g.k = 1 ∨ g.k = 2 := by
  unfold okV at h
  split at h
  · rename_i h1; exact .inl h1
  · split at h
    · rename_i h1; exact .inr h1
    · cases h
theorem okV_okP {g : Fld} (h : okV g = true) : okP g = true := by
  have := okV_kinds h
  unfold okP
  rw [if_neg (by omega)]
  exact h
theorem PJ_okP {p g : Fld} (h : okV g = true) (hp : PJ p g) : okP p = true := by
  have hk := okV_kinds h
  rcases hp with rfl | rfl | rfl
  · exact okV_okP h
  · unfold okP
    rw [if_pos (.inr (.inr rfl)), eS_nil]; rfl
  · unfold okP
    rw [if_pos (by show 2 + g.k = 3 ∨ 2 + g.k = 4 ∨ 2 + g.k = 5; omega), eS_nil]; rfl
theorem takes_V {g : Fld} (h : okV g = true) (u : Fld) : takesB g u = sameF g u := by
  have := okV_kinds h
  unfold takesB
  rw [if_neg (by omega), if_neg (by omega), if_neg (by omega)]
theorem sameF_self (g : Fld) : sameF g g = true := (sameF_iff g g).2 rfl
theorem PJ_takes {p g : Fld} (h : okV g = true) (hp : PJ p g) : takesB p g = true := by
  have hk := okV_kinds h
  rcases hp with rfl | rfl | rfl
  · rw [takes_V h, sameF_self]
  · rfl
  · unfold takesB
    rcases hk with hk | hk
    · rw [if_pos (by show 2 + g.k = 3; omega), hk]; rfl
    · rw [if_neg (by show ¬ 2 + g.k = 3; omega), if_pos (by show 2 + g.k = 4; omega), hk]; rfl
/-- The field that is turned. -/
def turnF (g : Fld) : Fld := if g.k = 1 then ⟨1, bits .xor .i64 g.n 1, g.s⟩ else ⟨1, 5, eS⟩
theorem xor1_ne (n : Int) : bits .xor .i64 n 1 ≠ n := by
  intro h
  have h1 : bits .xor .i64 n 1 = IntKind.i64.wrap ((BitVec.ofInt 64 n ^^^ BitVec.ofInt 64 1).toNat : Int) := rfl
  rw [h1] at h
  obtain ⟨x, hx⟩ : ∃ x, BitVec.ofInt 64 n ^^^ BitVec.ofInt 64 1 = x := ⟨_, rfl⟩
  rw [hx] at h
  have h2 : BitVec.ofInt 64 (IntKind.i64.wrap (x.toNat : Int)) = x := by
    apply BitVec.eq_of_toNat_eq
    rw [BitVec.toNat_ofInt]
    have := x.isLt
    simp only [IntKind.wrap, IntKind.bits, IntKind.signed]
    simp
    omega
  rw [h] at h2
  rw [h2] at hx
  have h3 : x ^^^ (x ^^^ BitVec.ofInt 64 1) = x ^^^ x := by rw [hx]
  rw [← BitVec.xor_assoc, BitVec.xor_self, BitVec.zero_xor] at h3
  exact absurd h3 (by decide)
theorem turnF_ok {g : Fld} (h : okV g = true) : okV (turnF g) = true := by
  unfold turnF
  split
  · rename_i hk
    unfold okV at h ⊢
    rw [if_pos hk] at h
    exact h
  · unfold okV
    rw [if_pos rfl, eS_nil]
theorem turnF_ne {g : Fld} (_ : okV g = true) : sameF g (turnF g) = false := by
  cases hs : sameF g (turnF g) with
  | false => rfl
  | true =>
    have e := (sameF_iff _ _).1 hs
    unfold turnF at e
    split at e
    · have := congrArg Fld.n e
      exact absurd this.symm (xor1_ne g.n)
    · rename_i hk
      have := congrArg Fld.k e
      exact absurd this hk
theorem PJ_turn {p g : Fld} (h : okV g = true) (hp : PJ p g) : takesB p (turnF g) = (p.k == 5 || (p.k == 3 && g.k == 1)) := by
  have hk := okV_kinds h
  rcases hp with rfl | rfl | rfl
  · rw [takes_V h, turnF_ne h]
    rcases hk with hk | hk <;> rw [hk] <;> rfl
  · rfl
  · have ht : (turnF g).k = 1 := by unfold turnF; split <;> rfl
    unfold takesB
    rcases hk with hk | hk
    · rw [if_pos (by show 2 + g.k = 3; omega), ht]
      show _ = ((2 + g.k) == 5 || ((2 + g.k) == 3 && g.k == 1))
      rw [hk]; rfl
    · rw [if_neg (by show ¬ 2 + g.k = 3; omega), if_pos (by show 2 + g.k = 4; omega), ht]
      show _ = ((2 + g.k) == 5 || ((2 + g.k) == 3 && g.k == 1))
      rw [hk]; rfl
theorem mayV_iff {n : Nat} {G : Nat → Fld} : mayV n G = true ↔ fewN n = true ∧ ∀ j, j < n → okV (G j) = true := by
  unfold mayV
  rw [Bool.and_eq_true, allN_iff]
theorem mayP_iff2 {n : Nat} {G : Nat → Fld} : mayP n G = true ↔ fewN n = true ∧ ∀ j, j < n → okP (G j) = true := by
  unfold mayP
  rw [Bool.and_eq_true, allN_iff]
theorem match_open {n : Nat} {G P : Nat → Fld} (h : mayV n G = true) (hp : ∀ j, j < n → PJ (P j) (G j)) : matchN n P n G = true := by
  obtain ⟨h1, h2⟩ := mayV_iff.1 h
  unfold matchN
  rw [mayP_iff2.2 ⟨h1, fun j hj => PJ_okP (h2 j hj) (hp j hj)⟩, h, decide_eq_true rfl, (allN_iff _ n).2 (fun j hj => PJ_takes (h2 j hj) (hp j hj))]
  rfl
theorem match_self {n : Nat} {G : Nat → Fld} (h : mayV n G = true) : matchN n G n G = true := match_open h (fun _ _ => .inl rfl)
theorem turn_may {n k : Nat} {G : Nat → Fld} (h : mayV n G = true) (hk : k < n) : mayV n (upd G k (turnF (G k))) = true := by
  obtain ⟨h1, h2⟩ := mayV_iff.1 h
  refine mayV_iff.2 ⟨h1, fun j hj => ?_⟩
  by_cases e : j = k
  · subst e; rw [upd_self]; exact turnF_ok (h2 _ hk)
  · rw [upd_ne _ _ e]; exact h2 j hj
theorem match_turned {n k : Nat} {G : Nat → Fld} (h : mayV n G = true) (hk : k < n) : matchN n G n (upd G k (turnF (G k))) = false := by
  obtain ⟨h1, h2⟩ := mayV_iff.1 h
  unfold matchN
  rw [allN_no (j := k) hk (by rw [upd_self, takes_V (h2 k hk), turnF_ne (h2 k hk)])]
  simp
theorem match_open_turned {n k : Nat} {G P : Nat → Fld} (h : mayV n G = true) (hk : k < n) (hp : ∀ j, j < n → PJ (P j) (G j)) : matchN n P n (upd G k (turnF (G k))) = ((P k).k == 5 || ((P k).k == 3 && (G k).k == 1)) := by
  obtain ⟨h1, h2⟩ := mayV_iff.1 h
  unfold matchN
  rw [mayP_iff2.2 ⟨h1, fun j hj => PJ_okP (h2 j hj) (hp j hj)⟩, turn_may h hk, decide_eq_true rfl, Bool.true_and, Bool.true_and, Bool.true_and, ← PJ_turn (h2 k hk) (hp k hk)]
  cases hb : takesB (P k) (turnF (G k)) with
  | false => exact allN_no (j := k) hk (by rw [upd_self, hb])
  | true =>
    refine (allN_iff _ n).2 (fun j hj => ?_)
    by_cases e : j = k
    · subst e; rw [upd_self, hb]
    · rw [upd_ne _ _ e]; exact PJ_takes (h2 j hj) (hp j hj)
theorem match_more {n m : Nat} {G H : Nat → Fld} (h : n ≠ m) : matchN n G m H = false := by
  unfold matchN
  rw [decide_eq_false h]
  simp
end Go.Proofs.YtigbnjgmdgkgjaaDoor
