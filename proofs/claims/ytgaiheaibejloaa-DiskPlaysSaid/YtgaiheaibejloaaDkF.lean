/-
  PACKAGE disk: Sync.
-/
import Derived.Test.YtgaiheaibejloaaDkE
import Derived.Lib.SlKeysI
import Derived.OpenShut
namespace Go.Proofs.Ytgaiheaibejloaa
open Go Go.RowKit Go.Maps Go.ChangeMaps Go.MapKept Sh

/-- The synced sectors on Sync's way: what is left to come is as it was. -/
def syS (S : Nat → List Nat) (M : Nat → Option (List Nat)) (left : Lit → Bool) (i : Nat) : List Nat := if left (.int .i64 (i : Int)) then S i else isS S M i
/-- Sync under way. -/
structure RD (w0 w : World) (g bs bm r k n : Nat) (D : DataW Value) (S : Nat → List Nat) (M : Nat → Option (List Nat)) (left : Lit → Bool) (cnt : Nat) : Prop where
  b : Blk w g 51 [.slice (some ⟨bs, 0, none⟩) k k, .map (some bm)]
  s : Blk w bs 54 (u8s (flatS (syS S M left) k))
  rg : w.ranges Try.prog 3 secR bm r n D left cnt
  kp : Kept (fun b => b = bs) w0 w
  hr : w0.heap.size ≤ r
section
variable {w w' w0 : World} {g bs bm k n r cnt : Nat} {S : Nat → List Nat} {M : Nat → Option (List Nat)} {D : DataW Value} {left : Lit → Bool}
theorem RD.dk (h : RD w0 w g bs bm r k n D S M left cnt) (hd : DK w0 g bs bm k n S M) (hm : ∀ x, InI x → ∀ z, D.atKey (.int .i64 x) z = (mi M x).elim z (fun l => .held (secV l))) : DK w g bs bm k n (syS S M left) M :=
  ⟨h.b, h.s, ⟨D, h.rg.owns, hm⟩, fun i => by
    unfold syS
    split
    · exact hd.sS i
    · exact hd.is_sec i, hd.mS, hd.kk⟩
theorem has_none (hm : ∀ x, InI x → ∀ z, D.atKey (.int .i64 x) z = (mi M x).elim z (fun l => .held (secV l))) {i : Nat} (hi : InI (i : Int)) (hh : Maps.has D (.int .i64 (i : Int)) = false) : M i = none := by
  cases hc : M i with
  | none => rfl
  | some l =>
    have hat := hm (i : Int) hi
    rw [mi_nat, hc] at hat
    have := Maps.has_true_of_atKey (D := D) (k := .int .i64 (i : Int)) (fun z => hat z)
    rw [hh] at this
    cases this
theorem sy_start (hd : DK w0 g bs bm k n S M) (hm : ∀ x, InI x → ∀ z, D.atKey (.int .i64 x) z = (mi M x).elim z (fun l => .held (secV l))) : flatS (syS S M (Maps.has D)) k = flatS S k := by
  refine flatS_congr k (fun i hi => ?_)
  unfold syS
  split
  · rfl
  · rename_i hh
    have := has_none hm (i := i) ⟨by omega, by have := hd.kk; omega⟩ (by simpa using hh)
    unfold isS
    rw [this]
    rfl
theorem grown_bs {a b : World} {q : Nat} (h : Kept (fun z => z = q) a b) : a.grownBy b (some q) := ⟨h.os, h.tape, h.output, h.size, fun i hi hne => h.block i hi (fun e => hne (by rw [e]))⟩
theorem sy_step (hd : DK w0 g bs bm k n S M) {j : Nat} {X : List Nat} (hX : M j = some X) : upd (syS S M left) j (mix (clampN 64) X (syS S M left j)) = syS S M (fun z => left z && !z.sameKey (.int .i64 (j : Int))) := by
  have hl := (hd.mS j X hX).1.1
  have hs : (syS S M left j).length = 64 := by
    unfold syS
    split
    · exact (hd.sS j).1
    · exact (hd.is_sec j).1
  funext i
  by_cases e : i = j
  · subst e
    rw [upd_same, show clampN 64 = 64 from rfl, mix_all hl hs]
    unfold syS
    have h2 : (Lit.int .i64 (i : Int)).sameKey (.int .i64 (i : Int)) = true := by simp [Lit.sameKey]
    simp only [h2]
    unfold isS
    simp [hX]
  · rw [upd_other _ _ e]
    unfold syS
    have h2 : (Lit.int .i64 (i : Int)).sameKey (.int .i64 (j : Int)) = false := by simp [Lit.sameKey]; omega
    simp [h2]
theorem dirty_of (hm : ∀ x, InI x → ∀ z, D.atKey (.int .i64 x) z = (mi M x).elim z (fun l => .held (secV l))) {x : Int} (hx : InI x) {yd : DataW Value} (hat : ∀ z, D.atKey (.int .i64 x) z = yd) : ∃ (j : Nat) (X : List Nat), x = (j : Int) ∧ M j = some X := by
  cases hc : mi M x with
  | none =>
    have h1 := hm x hx
    rw [hc] at h1
    have h2 := (h1 .nil).symm.trans (hat .nil)
    have h3 := (h1 (.lit (.bool true))).symm.trans (hat (.lit (.bool true)))
    have h4 : (DataW.nil : DataW Value) = .lit (.bool true) := h2.trans h3.symm
    cases h4
  | some X =>
    unfold mi at hc
    split at hc
    · cases hc
    · exact ⟨x.toNat, X, by omega, hc⟩
set_option maxRecDepth 100000 in
set_option maxHeartbeats 1000000 in
theorem dSync_t (h : DK w g bs bm k n S M) : Calls Try.prog 9 #[.pointer (some ⟨g, 0, none⟩)] w fun e w' => e = .returned (.tuple #[]) ∧ DK w' g bs bm k 0 (isS S M) (fun _ => none) ∧ Kept (fun b => b = bs ∨ b = bm) w w' := by
  obtain ⟨D, hown, hm⟩ := h.m
  have HD := Lib.hid h; have HM := Lib.hid hm
  have HS := Lib.hid (sy_start h hm)
  have c1 := h.c1
  clear h hm
  go_enter Try.func9, Try.ntmps9
  go_wp2_with (first
    | (at_range; refine wpList_range_own _ rfl _ 49 rfl 3 54 law Try.underlying49 secR bm n D rfl hown ?_; intro w0 hrg0 hg0 hs0)
    | go_in)
  have R0 := Lib.hid (show RD w w0 g bs bm w.heap.size k n D S M (Maps.has D) (Maps.size D) from
    ⟨HD.out.b.kept (F := fun _ => False) ⟨hg0.os, hg0.tape, hg0.output, hg0.size, fun i hi _ => hg0.block i hi (by simp)⟩ (fun f => f),
     by rw [HS.out]; exact HD.out.s.kept (F := fun _ => False) ⟨hg0.os, hg0.tape, hg0.output, hg0.size, fun i hi _ => hg0.block i hi (by simp)⟩ (fun f => f),
     hrg0, ⟨hg0.os, hg0.tape, hg0.output, hg0.size, fun i hi _ => hg0.block i hi (by simp)⟩, Nat.le_refl _⟩)
  clear hrg0 hg0 hs0 hown c1
  go_frame
  go_loopw [2] (fun _ wr => ∃ (left : Lit → Bool) (cnt : Nat), RD w wr g bs bm w.heap.size k n D S M left cnt) (fun _ wr => wr.rangeLeft bm w.heap.size)
  case atStart => exact ⟨_, _, R0.out⟩
  case round =>
    obtain ⟨left, cnt, hr⟩ := hrel
    have R1 := Lib.hid hr
    have hrg := hr.rg
    clear hr R0
    go_wp2_with (first
      | (at_next; refine wpList_next_ranges _ rfl _ rfl 3 law secR encZ (fun v : Value => v) (fun key kl hk => by obtain ⟨x, hx, _⟩ := Maps.keyOf_i64 Try.underlying3 hk; exact ⟨x, hx⟩) (fun v y _ => ⟨v, rfl⟩) bm w.heap.size n D left cnt rfl hrg ?_ ?_)
      | go_in)
    · intro _ hl0
      have he : syS S M left = isS S M := funext fun i => by unfold syS; rw [hl0]; rfl
      have d1 := R1.out.dk HD.out HM.out
      rw [he] at d1
      have c1 := d1.c1
      obtain ⟨w3, hcl, hm3, ht3⟩ := d1.m.clear
      have D3 := Lib.hid (show DK w3 g bs bm k 0 (isS S M) (fun _ => none) from
        ⟨d1.b.turned ht3 (fun e => d1.m.apart d1.b e.symm), d1.s.turned ht3 (fun e => d1.m.apart d1.s e.symm), hm3, d1.sS, fun j l hl => by simp at hl, d1.kk⟩)
      have K3 := Lib.hid (show Kept (fun b => b = bs ∨ b = bm) w w3 from (R1.out.kp.mono (fun _ h => .inl h)).grown ht3.grown (fun j hj => by cases hj; exact .inl (.inr rfl)))
      clear he d1 hm3 ht3 R1 hrg
      go_wp2_with fail
      go_end0
      exact ⟨rfl, D3.out, K3.out⟩
    · intro x v kl yd yp w1 cnt1 hkey hlk hv hat hrg1 hlt hg1 hs1 hen
      obtain ⟨x', ex, rfl, hwf⟩ := Maps.keyOf_i64 Try.underlying3 hkey
      obtain rfl := encZ_inj ex
      have hx : InI x := bounds_i64 hwf
      obtain ⟨j, X, rfl, hX⟩ := dirty_of HM.out hx hat
      have hgr : g ≠ w.heap.size := Nat.ne_of_lt HD.out.b.lt
      have hsr : bs ≠ w.heap.size := Nat.ne_of_lt HD.out.s.lt
      have kg1 : Kept (fun b => b = w.heap.size) wr w1 := ⟨hg1.os, hg1.tape, hg1.output, hg1.size, fun i hi hne => hg1.block i hi (fun e => hne (Option.some.inj e))⟩
      have K1 := Lib.hid (R1.out.kp.grown hg1 (fun j hj => by cases hj; exact .inr (Nat.le_refl _)))
      have D1 := Lib.hid (show DK w1 g bs bm k n (syS S M left) M from
        ⟨R1.out.b.kept kg1 hgr, R1.out.s.kept kg1 hsr, ⟨D, hrg1.owns, HM.out⟩, (R1.out.dk HD.out HM.out).sS, HD.out.mS, HD.out.kk⟩)
      have SV := Lib.hid (dSave_t j 64 X hX D1.out)
      have hbm : bm ≠ bs := D1.out.m.apart D1.out.s
      have HLT := Lib.hid (show cnt1 < wr.rangeLeft bm w.heap.size by rw [hrg.left_eq]; exact hlt)
      have RG1 := Lib.hid hrg1; have HXX := Lib.hid hX
      clear R1 hrg hrg1 hg1 hs1 kg1 hat hv hkey hlk hlt hwf ex hX
      go_wp2_with (go_at_call 22; refine SV.out.mono ?_; rintro e w2 ⟨rfl, d2, k2⟩)
      have R2 := Lib.hid (show RD w w2 g bs bm w.heap.size k n D S M (fun z => left z && !z.sameKey (.int .i64 (j : Int))) cnt1 from
        ⟨d2.b, by rw [← sy_step HD.out HXX.out]; exact d2.s, RG1.out.kept (grown_bs k2) (fun e => hbm (Option.some.inj e)) (fun e => hsr (Option.some.inj e).symm), K1.out.trans k2, Nat.le_refl _⟩)
      clear d2 k2 K1 D1 SV RG1
      go_roundw
      case rel => exact ⟨_, cnt1, R2.out⟩
      case measure => rw [R2.out.rg.left_eq]; exact HLT.out
end
end Go.Proofs.Ytgaiheaibejloaa
