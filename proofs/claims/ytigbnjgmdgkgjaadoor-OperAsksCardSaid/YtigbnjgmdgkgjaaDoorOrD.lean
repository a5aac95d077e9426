/-
  THE REFERENCE of chapter 7: number, some, GetRequest, walked.
-/
import Derived.Test.YtigbnjgmdgkgjaaDoorOrC
import Derived.Test.YtigbnjgmdgkgjaaDoorOrA
namespace Go.Proofs.YtigbnjgmdgkgjaaDoor
open Go Go.RowKit Sh

/-- The reference's Reader is told that it is wrong. -/
theorem Rr.spoil {w0 w : World} {g : Nat} {xs : List Nat} {bad : Bool} (x : Rr w0 w g xs bad) : Rr w0 ((w.setCell ⟨g, 1, none⟩ (.bool true)).setCell ⟨g, 0, none⟩ (.slice none 0 0)) g [] true ∧ Kept (fun k => k = g) w ((w.setCell ⟨g, 1, none⟩ (.bool true)).setCell ⟨g, 0, none⟩ (.slice none 0 0)) := by
  obtain ⟨A, c, h1, h2, h3⟩ := x.is
  have kk : Kept (fun k => k = g) w ((w.setCell ⟨g, 1, none⟩ (.bool true)).setCell ⟨g, 0, none⟩ (.slice none 0 0)) := Kept.setCell (F := fun k => k = g) (Kept.setCell (F := fun k => k = g) (Kept.refl _ w) (p := ⟨g, 1, none⟩) (.inl rfl) _) (p := ⟨g, 0, none⟩) (.inl rfl) _
  exact ⟨⟨⟨none, 0, (h1.store 1 (.bool true)).store 0 (.slice none 0 0), Nat.le_refl _, Sr.nil⟩, fun _ => rfl, kept_below x.bel kk x.low, x.low⟩, kk⟩
set_option maxRecDepth 100000 in
theorem number_t (g : Nat) (xs : List Nat) (bad : Bool) (w0 w : World) (x : Rr w0 w g xs bad) (hb : Bytes xs) (v : Nat) (ys : List Nat) (b : Bool) (hR : rNum xs bad 8 = (v, ys, b)) :
    Calls Tryd.prog 40 #[.pointer (some ⟨g, 0, none⟩)] w fun e w' => e = .returned (.int .i64 ((nmb v ys b).1 : Nat)) ∧ Rr w0 w' g (nmb v ys b).2.1 (nmb v ys b).2.2 ∧ Kept (fun k => k = g) w w' := by
  have NM := Lib.hid (rrnum_t g xs bad 8 w0 w x hb (by decide) (by decide))
  have hv := (rNum_bytes xs bad 8 hb).2.2
  simp only [hR] at NM hv
  have hv2 : v < 18446744073709551616 := hv
  clear hR x hb hv
  by_cases h : 4611686018427387904 ≤ v
  · rw [show nmb v ys b = (0, [], true) from if_pos h]
    have i1 : (4611686018427387904 : Int) ≤ (v : Int) := by omega
    go_enter Tryd.func40, Tryd.ntmps40
    go_wp2_with fail
    refine NM.out.mono ?_
    rintro e w1 ⟨rfl, x1, k1⟩
    obtain ⟨A, c, hbk, _, _⟩ := x1.is
    have f0 := hbk.frozen 0
    have f1 := hbk.frozen 1
    have c0 : w1.cell? ⟨g, 0, none⟩ = some (.slice A ys.length c) := hbk.cell 0
    have c1 : w1.cell? ⟨g, 1, none⟩ = some (.bool b) := hbk.cell 1
    have X2 := Lib.hid x1.spoil; have K1 := Lib.hid k1
    clear x1 k1 hbk h NM
    go_wp2_with fail
    go_ret
    exact ⟨rfl, X2.out.1, K1.out.trans X2.out.2⟩
  · rw [show nmb v ys b = (v, ys, b) from if_neg h]
    have i1 : decide ((4611686018427387904 : Int) ≤ (v : Int)) = false := decide_eq_false (by omega)
    have i3 : ¬ ((4611686018427387904 : Int) ≤ (v : Int)) := by omega
    have i2 : IntKind.i64.wrap (v : Int) = (v : Int) := IntWalk.i64_in _ (by omega)
    clear h hv2
    go_enter Tryd.func40, Tryd.ntmps40
    go_wp2_with fail
    refine NM.out.mono ?_
    rintro e w1 ⟨rfl, x1, k1⟩
    have X1 := Lib.hid x1; have K1 := Lib.hid k1
    clear x1 k1
    go_wp2_with fail
    go_ret
    exact ⟨rfl, X1.out, K1.out⟩
theorem rTxtM_text (xs : List Nat) (bad : Bool) (n : Nat) (h : Bytes xs) : Bytes (rTxtM xs bad n).1 ∧ (rTxtM xs bad n).1.length ≤ xs.length := by
  have hb := rNum_bytes xs bad 4 h
  unfold rTxtM
  split
  · exact ⟨bytes_take hb.1 _, by rw [List.length_take]; omega⟩
  · exact ⟨nil_bytes, Nat.zero_le _⟩
set_option maxRecDepth 100000 in
theorem some_t (g : Nat) (xs : List Nat) (bad : Bool) (w0 w : World) (x : Rr w0 w g xs bad) (hb : Bytes xs) (hl : xs.length ≤ 1000000) (l ys : List Nat) (b : Bool) (hS : smN xs bad = (l, ys, b)) :
    Calls Tryd.prog 41 #[.pointer (some ⟨g, 0, none⟩)] w fun e w' => (∃ A c, e = .returned (.slice A (fN l) c) ∧ Rw w' A (fN l) (gotN l)) ∧ Rr w0 w' g ys b ∧ Kept (fun k => k = g) w w' := by
  have TX := Lib.hid (rrtxt_t g xs bad 1000 w0 w x hb (by decide) (by omega))
  obtain ⟨hb2, hl2⟩ := rTxtM_text xs bad 1000 hb
  unfold smN at hS
  obtain ⟨⟨l2, ys2, b2⟩, hR⟩ : ∃ r, rTxtM xs bad 1000 = r := ⟨_, rfl⟩
  simp only [hR] at TX hb2 hl2 hS
  have HB := Lib.hid hb2; have HS := Lib.hid hS
  obtain ⟨fn, hfn⟩ : ∃ z, fN l = z := ⟨_, rfl⟩
  obtain ⟨fg, hfg⟩ : ∃ z, gotN l = z := ⟨_, rfl⟩
  rw [hfn, hfg]
  have FN := Lib.hid hfn; have FG := Lib.hid hfg
  clear x hb hR hb2 hS hfn hfg
  go_enter Tryd.func41, Tryd.ntmps41
  go_wp2_with fail
  refine TX.out.mono ?_
  rintro e w1 ⟨⟨A, c, rfl, hcl, s1⟩, x1, k1⟩
  have S1 := Lib.hid s1; have CL := Lib.hid hcl; have X1 := Lib.hid x1; have K1 := Lib.hid k1
  clear s1 x1 k1 TX hcl
  by_cases h0 : l2.length = 0
  · obtain rfl := List.eq_nil_of_length_eq_zero h0
    have hS := HS.out
    rw [show fOK [] = true from rfl, if_pos rfl] at hS
    simp only [Prod.mk.injEq] at hS
    obtain ⟨rfl, rfl, rfl⟩ := hS
    obtain rfl : 0 = fn := by rw [← FN.out]; unfold fN; rw [getOK_nil]; rfl
    clear HS FN
    go_wp2_with fail
    go_ret
    exact ⟨⟨none, 0, rfl, Rw.nil⟩, X1.out, K1.out⟩
  · have e1 : ((l2.length : Int) == 0) = false := by rw [beq_eq_false_iff_ne]; omega
    have hi : l2.isEmpty = false := by rw [isEmpty_len]; exact decide_eq_false h0
    go_wp2_with fail
    refine (refget_t l2 A l2.length c w1 rfl CL.out S1.out HB.out (by omega)).mono ?_
    rintro e w2 ⟨b2, hh⟩
    have X2 := Lib.hid (X1.out.below b2); have K2 := Lib.hid (K1.out.trans (Kept.of_below b2))
    clear b2 X1 K1 S1 CL
    rcases hh with ⟨hbad, rfl⟩ | ⟨hgood, A2, c', rfl, r2⟩
    · have hS := HS.out
      have hk : fOK l2 = false := by unfold fOK; rw [hbad, hi]; rfl
      rw [hk, if_neg (by decide)] at hS
      simp only [Prod.mk.injEq] at hS
      obtain ⟨rfl, rfl, rfl⟩ := hS
      obtain rfl : 0 = fn := by rw [← FN.out]; unfold fN; rw [getOK_nil]; rfl
      obtain ⟨A0, c0, hbk, _, _⟩ := X2.out.is
      have f0 := hbk.frozen 0
      have f1 := hbk.frozen 1
      have c0' : w2.cell? ⟨g, 0, none⟩ = some (.slice A0 ys2.length c0) := hbk.cell 0
      have c1 : w2.cell? ⟨g, 1, none⟩ = some (.bool b2) := hbk.cell 1
      have X3 := Lib.hid X2.out.spoil
      clear HS FN hbk hbad hk X2
      go_wp2_with fail
      go_ret
      exact ⟨⟨none, 0, rfl, Rw.nil⟩, X3.out.1, K2.out.trans X3.out.2⟩
    · have hS := HS.out
      have hk : fOK l2 = true := by unfold fOK; rw [hgood, hi]; rfl
      rw [hk, if_pos rfl] at hS
      simp only [Prod.mk.injEq] at hS
      obtain ⟨rfl, rfl, rfl⟩ := hS
      obtain rfl : cntN l2 = fn := by rw [← FN.out]; unfold fN; rw [hgood]; rfl
      obtain rfl : gotN l2 = fg := FG.out
      have R2 := Lib.hid r2
      clear HS FN FG r2 hgood hk
      go_wp2_with fail
      go_ret
      exact ⟨⟨A2, c', rfl, R2.out⟩, X2.out, K2.out⟩
end Go.Proofs.YtigbnjgmdgkgjaaDoor
