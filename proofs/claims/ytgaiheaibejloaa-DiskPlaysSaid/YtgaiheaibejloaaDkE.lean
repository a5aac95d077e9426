/-
  PACKAGE disk: Sync, Crash.
-/
import Derived.Test.YtgaiheaibejloaaDkD
namespace Go.Proofs.Ytgaiheaibejloaa
open Go Go.RowKit Go.Maps Go.ChangeMaps Go.MapKept Sh

/-- The synced sectors behind save(x, ..) of q bytes. -/
def svS (S : Nat → List Nat) (M : Nat → Option (List Nat)) (x : Int) (q : Nat) (i : Nat) : List Nat :=
  if (i : Int) = x then (match M i with | some X => mix q X (S i) | none => S i) else S i
/-- .. behind save of all of P, whole. -/
def kpS (S : Nat → List Nat) (M : Nat → Option (List Nat)) (P : Nat → Bool) (i : Nat) : List Nat := if P i then isS S M i else S i
/-- .. behind Crash. -/
def crS (S : Nat → List Nat) (M : Nat → Option (List Nat)) (P : Nat → Bool) (x : Int) (q : Nat) : Nat → List Nat := svS (kpS S M P) M x q
def keepB (L : Nat → Int) (q i : Nat) : Bool := (List.range q).any fun j => decide (L j = (i : Int))
theorem keepB_zero (L : Nat → Int) (i : Nat) : keepB L 0 i = false := rfl
theorem keepB_succ (L : Nat → Int) (q i : Nat) : keepB L (q + 1) i = (keepB L q i || decide (L q = (i : Int))) := by
  unfold keepB; rw [List.range_succ, List.any_append]; simp
theorem kpS_zero (S : Nat → List Nat) (M : Nat → Option (List Nat)) (L : Nat → Int) : kpS S M (keepB L 0) = S := funext fun i => by unfold kpS; rw [keepB_zero]; rfl
section
variable {S : Nat → List Nat} {M : Nat → Option (List Nat)} {k : Nat}
theorem kpS_step (hS : ∀ i, Sec (S i)) (hM : ∀ j l, M j = some l → Sec l ∧ j < k) (L : Nat → Int) (q : Nat) : svS (kpS S M (keepB L q)) M (L q) 64 = kpS S M (keepB L (q + 1)) := by
  funext i
  unfold svS kpS
  rw [keepB_succ]
  by_cases e : (i : Int) = L q
  · rw [if_pos e]
    have e2 : decide (L q = (i : Int)) = true := decide_eq_true e.symm
    rw [e2, Bool.or_true, if_pos rfl]
    cases hc : M i with
    | none => unfold isS; rw [hc]; cases keepB L q i <;> rfl
    | some X =>
      have hX := (hM i X hc).1.1
      have hi : isS S M i = X := by unfold isS; rw [hc]; rfl
      rw [hi]
      cases keepB L q i with
      | true => exact mix_all hX hX
      | false => exact mix_all hX (hS i).1
  · rw [if_neg e]
    have e2 : decide (L q = (i : Int)) = false := decide_eq_false (fun h => e h.symm)
    rw [e2, Bool.or_false]
theorem svS_none {x : Int} (hm : mi M x = none) (q : Nat) : svS S M x q = S := by
  funext i
  unfold svS
  split
  · rename_i e
    have : M i = none := by have h := hm; rw [← e, mi_nat] at h; exact h
    rw [this]
  · rfl
theorem svS_some {j : Nat} {X : List Nat} (hm : M j = some X) (q : Nat) : svS S M (j : Int) q = upd S j (mix q X (S j)) := by
  funext i
  unfold svS
  by_cases e : i = j
  · subst e; rw [if_pos rfl, hm, upd_same]
  · rw [if_neg (by omega), upd_other _ _ e]
end
section
variable {w w' : World} {g bs bm k n : Nat} {S : Nat → List Nat} {M : Nat → Option (List Nat)}
/-- save, whatever the number. -/
theorem dSave (x m : Int) (hx : InI x) (h : DK w g bs bm k n S M) : Calls Try.prog 22 #[.pointer (some ⟨g, 0, none⟩), .int .i64 x, .int .i64 m] w fun e w' => e = .returned (.tuple #[]) ∧ DK w' g bs bm k n (svS S M x (clampN m)) M ∧ Kept (fun b => b = bs) w w' := by
  cases hc : mi M x with
  | none =>
    rw [svS_none hc]
    refine (dSave_no x m hx hc h).mono ?_
    rintro e w' ⟨rfl, hb⟩
    exact ⟨rfl, h.below hb, Kept.of_below hb⟩
  | some X =>
    obtain ⟨j, rfl⟩ : ∃ j : Nat, x = (j : Int) := ⟨x.toNat, by
      unfold mi at hc
      split at hc
      · cases hc
      · omega⟩
    rw [mi_nat] at hc
    rw [svS_some hc]
    exact dSave_t j m X hc h
/-- The numbers of a []int that came in. -/
def InN (w : World) (p : Option Addr) (q : Nat) (L : Nat → Int) (bs : Nat) : Prop := ∀ j, j < q → ∃ b o, p = some ⟨b, o, none⟩ ∧ b < w.heap.size ∧ b ≠ bs ∧ w.cell? ⟨b, o + j, none⟩ = some (.int .i64 (L j)) ∧ InI (L j)
theorem InN.kept {p : Option Addr} {q : Nat} {L : Nat → Int} (h : InN w p q L bs) (hk : Kept (fun b => b = bs) w w') : InN w' p q L bs := fun j hj => by
  obtain ⟨b, o, rfl, h1, h2, h3, h4⟩ := h j hj
  exact ⟨b, o, rfl, Nat.lt_of_lt_of_le h1 hk.size, h2, (hk.cell (p := ⟨b, o + j, none⟩) h1 h2).trans h3, h4⟩
set_option maxRecDepth 100000 in
set_option maxHeartbeats 1000000 in
theorem dCrash_t (A : Option Addr) (q c : Nat) (L : Nat → Int) (x m : Int) (hA : InN w A q L bs) (hq : q ≤ 50) (hx : InI x) (h : DK w g bs bm k n S M) : Calls Try.prog 11 #[.pointer (some ⟨g, 0, none⟩), .slice A q c, .int .i64 x, .int .i64 m] w fun e w' => e = .returned (.tuple #[]) ∧ DK w' g bs bm k 0 (crS S M (keepB L q) x (clampN m)) (fun _ => none) ∧ Kept (fun b => b = bs ∨ b = bm) w w' := by
  have HD := Lib.hid h; have HA := Lib.hid hA; have HX := Lib.hid hx
  have q1 : (q : Int) ≤ 50 := by omega
  clear h hA hx
  go_enter Try.func11, Try.ntmps11
  go_wp2_with fail
  go_loopw [9, 14] (fun _ s14 wr => ∃ i : Nat, i ≤ q ∧ s14 = .int .i64 (i : Int) ∧ DK wr g bs bm k n (kpS S M (keepB L i)) M ∧ Kept (fun b => b = bs) w wr) (fun _ s _ => q - (intOf s).toNat)
  case atStart => exact ⟨0, Nat.zero_le _, rfl, by rw [kpS_zero]; exact HD.out, Kept.refl _ _⟩
  case round =>
    obtain ⟨i, hi, rfl, hd, hk⟩ := hrel
    have D1 := Lib.hid hd; have K1 := Lib.hid hk
    clear hd hk
    by_cases hlt : i < q
    · have i1 : (i : Int) < (q : Int) := by omega
      obtain ⟨b, o, rfl, _, _, cv, hv⟩ := HA.out.kept K1.out i hlt
      have SV := Lib.hid (dSave (L i) 64 hv D1.out)
      go_wp2_with (go_at_call 22; refine SV.out.mono ?_; rintro e w2 ⟨rfl, d2, k2⟩)
      have D2 := Lib.hid (show DK w2 g bs bm k n (kpS S M (keepB L (i + 1))) M by rw [← kpS_step HD.out.sS HD.out.mS]; exact d2)
      have K2 := Lib.hid (K1.out.trans k2)
      clear d2 k2 D1 K1 SV cv
      go_wp2_with fail
      go_roundw
      case rel => exact ⟨i + 1, hlt, by go_num, D2.out, K2.out⟩
      case measure => simp [intOf]; omega
    · obtain rfl : i = q := by omega
      have SV := Lib.hid (dSave x m HX.out D1.out)
      clear hlt
      go_wp2_with (go_at_call 22; refine SV.out.mono ?_; rintro e w2 ⟨rfl, d2, k2⟩; have c1 := d2.c1; obtain ⟨w3, hcl, hm3, ht3⟩ := d2.m.clear)
      have D3 := Lib.hid (show DK w3 g bs bm k 0 (crS S M (keepB L i) x (clampN m)) (fun _ => none) from
        ⟨d2.b.turned ht3 (fun e => d2.m.apart d2.b e.symm), d2.s.turned ht3 (fun e => d2.m.apart d2.s e.symm), hm3, d2.sS, fun j l hl => by simp at hl, d2.kk⟩)
      have K3 := Lib.hid (show Kept (fun b => b = bs ∨ b = bm) w w3 from ((K1.out.trans k2).mono (fun _ h => .inl h)).grown ht3.grown (fun j hj => by cases hj; exact .inl (.inr rfl)))
      clear d2 k2 hm3 ht3 D1 K1 SV
      go_end0
      exact ⟨rfl, D3.out, K3.out⟩
theorem dCrash_nil (V : Value) (x m : Int) (w : World) : Calls Try.prog 11 #[.pointer none, V, .int .i64 x, .int .i64 m] w fun e w' => e = .returned (.tuple #[]) ∧ w' = w := by
  go_enter Try.func11, Try.ntmps11
  go_wp2_with fail
  refine bodyPost_ret (results_none rfl _ _ _) rfl ?_
  exact ⟨rfl, rfl⟩
end
end Go.Proofs.Ytgaiheaibejloaa
