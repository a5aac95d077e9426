/-
  THE REFERENCE's READER: Raw, Num, Text, End.
-/
import Derived.Test.YtigbnjgmdgkgjaaDoorTrC
namespace Go.Proofs.YtigbnjgmdgkgjaaDoor
open Go Go.RowKit Sh

/-- Block g is a reference's Reader that has the bytes xs left. -/
structure Rr (w0 w : World) (g : Nat) (xs : List Nat) (bad : Bool) : Prop where
  is : ∃ A c, Blk w g 64 [.slice A xs.length c, .bool bad] ∧ xs.length ≤ c ∧ Sr w0 A xs
  none_ : bad = true → xs = []
  bel : Below w0.heap.size w0 w
  low : w0.heap.size ≤ g
theorem Rr.lt {w0 w : World} {g : Nat} {xs : List Nat} {bad : Bool} (x : Rr w0 w g xs bad) : g < w.heap.size := by
  obtain ⟨_, _, h, _⟩ := x.is
  exact h.lt
theorem Rr.below {w0 w w' : World} {g : Nat} {xs : List Nat} {bad : Bool} (x : Rr w0 w g xs bad) (hb : Below w.heap.size w w') : Rr w0 w' g xs bad := by
  obtain ⟨A, c, h1, h2, h3⟩ := x.is
  exact ⟨⟨A, c, h1.below hb h1.lt, h2, h3⟩, x.none_, x.bel.trans (hb.mono x.bel.size), x.low⟩
set_option maxRecDepth 100000 in
theorem rraw_bad (g : Nat) (xs : List Nat) (bad : Bool) (n : Nat) (w0 w : World) (x : Rr w0 w g xs bad) (hn : bad = true ∨ xs.length < n) :
    Calls Tryd.prog 57 #[.pointer (some ⟨g, 0, none⟩), .int .i64 (n : Int)] w fun e w' => e = .returned (.slice none 0 0) ∧ Rr w0 w' g [] true ∧ Kept (fun k => k = g) w w' := by
  obtain ⟨A, c, h1, h2, h3⟩ := x.is
  have c0 : w.cell? ⟨g, 0, none⟩ = some (.slice A xs.length c) := h1.cell 0
  have c1 : w.cell? ⟨g, 1, none⟩ = some (.bool bad) := h1.cell 1
  have f0 := h1.frozen 0
  have f1 := h1.frozen 1
  have H1 := Lib.hid h1; have BL := Lib.hid x.bel; have LO := Lib.hid x.low
  have n0 : ¬ ((n : Int) < 0) := by omega
  clear x h1 h2 h3
  have fin : ∀ W, W = (w.setCell ⟨g, 1, none⟩ (.bool true)).setCell ⟨g, 0, none⟩ (.slice none 0 0) → Rr w0 W g [] true ∧ Kept (fun k => k = g) w W := fun W hW => by
    subst hW
    have kk : Kept (fun k => k = g) w ((w.setCell ⟨g, 1, none⟩ (.bool true)).setCell ⟨g, 0, none⟩ (.slice none 0 0)) := Kept.setCell (F := fun k => k = g) (Kept.setCell (F := fun k => k = g) (Kept.refl _ w) (p := ⟨g, 1, none⟩) (.inl rfl) _) (p := ⟨g, 0, none⟩) (.inl rfl) _
    exact ⟨⟨⟨none, 0, (H1.out.store 1 (.bool true)).store 0 (.slice none 0 0), Nat.le_refl _, Sr.nil⟩, fun _ => rfl, kept_below BL.out kk LO.out, LO.out⟩, kk⟩
  have FIN := Lib.hid fin
  clear fin
  cases bad with
  | true =>
    clear hn
    go_enter Tryd.func57, Tryd.ntmps57
    go_wp2
    go_ret
    exact ⟨rfl, FIN.out _ rfl⟩
  | false =>
    have h : xs.length < n := by simpa using hn
    have i1 : (xs.length : Int) < (n : Int) := by omega
    clear hn h
    go_enter Tryd.func57, Tryd.ntmps57
    go_wp2
    go_ret
    exact ⟨rfl, FIN.out _ rfl⟩
set_option maxRecDepth 100000 in
theorem rraw_ok (g : Nat) (xs : List Nat) (n : Nat) (w0 w : World) (x : Rr w0 w g xs false) (hn : n ≤ xs.length) :
    Calls Tryd.prog 57 #[.pointer (some ⟨g, 0, none⟩), .int .i64 (n : Int)] w fun e w' => (∃ A c, e = .returned (.slice A n c) ∧ n ≤ c ∧ Sr w' A (xs.take n)) ∧ Rr w0 w' g (xs.drop n) false ∧ Kept (fun k => k = g) w w' := by
  obtain ⟨A, c, h1, hc, h3⟩ := x.is
  have H1 := Lib.hid h1; have H3 := Lib.hid h3; have BL := Lib.hid x.bel; have LO := Lib.hid x.low
  have HN := Lib.hid hn; have HC := Lib.hid hc
  obtain ⟨p2, hp2, he2⟩ := slice_low (P := Tryd.prog) (t := 25) (e := 5) Tryd.underlying25 byte_size A xs.length c .i64 n hn hc
  have he1 := slice_high (P := Tryd.prog) (t := 25) (e := 5) Tryd.underlying25 byte_size A xs.length c .i64 n (by omega)
  have HP2 := Lib.hid hp2
  have c0 : w.cell? ⟨g, 0, none⟩ = some (.slice A xs.length c) := h1.cell 0
  have c1 : w.cell? ⟨g, 1, none⟩ = some (.bool false) := h1.cell 1
  have f0 := h1.frozen 0
  have i1 : (n : Int) ≤ (xs.length : Int) := by omega
  have n0 : ¬ ((n : Int) < 0) := by omega
  clear x h1 h3 hp2
  go_enter Tryd.func57, Tryd.ntmps57
  go_wp2
  go_ret
  have kk : Kept (fun k => k = g) w (w.setCell ⟨g, 0, none⟩ (.slice p2 (xs.length - n) (c - n))) := Kept.setCell (F := fun k => k = g) (Kept.refl _ w) (p := ⟨g, 0, none⟩) (.inl rfl) _
  have bb := kept_below BL.out kk LO.out
  refine ⟨⟨A, c, rfl, by have := HN.out; have := HC.out; omega, (H3.out.take n).below bb⟩, ⟨⟨p2, c - n, ?_, ?_, H3.out.drop HP2.out⟩, (fun e => by cases e), bb, LO.out⟩, kk⟩
  · rw [List.length_drop]
    exact H1.out.store 0 (.slice p2 (xs.length - n) (c - n))
  · rw [List.length_drop]
    have := HC.out; omega
set_option maxRecDepth 100000 in
set_option maxHeartbeats 400000 in
theorem rrnum_t (g : Nat) (xs : List Nat) (bad : Bool) (n : Nat) (w0 w : World) (x : Rr w0 w g xs bad) (hb : Bytes xs) (h1 : 1 ≤ n) (h2 : n ≤ 8) :
    Calls Tryd.prog 39 #[.pointer (some ⟨g, 0, none⟩), .int .i64 (n : Int)] w fun e w' => e = .returned (.int .u64 ((rNum xs bad n).1 : Nat)) ∧ Rr w0 w' g (rNum xs bad n).2.1 (rNum xs bad n).2.2 ∧ Kept (fun k => k = g) w w' := by
  have i1 : (1 : Int) ≤ (n : Int) := by omega
  have i8 : (n : Int) ≤ 8 := by omega
  unfold rNum
  by_cases h : xs.length < n
  · rw [if_pos h]
    have HT := Lib.hid (rraw_bad g xs bad n w0 w x (.inr h))
    clear x h hb
    go_enter Tryd.func39, Tryd.ntmps39
    go_wp2_with (go_at_call 57; refine (HT.out).mono ?_; rintro e w2 ⟨rfl, x2, k2⟩; have X2 := Lib.hid x2; have K2 := Lib.hid k2; clear x2 k2)
    go_loop [6, 7] (fun v i => v = .int .u64 0 ∧ i = .int .i64 0) (fun _ _ => 0)
    case atStart => exact ⟨rfl, rfl⟩
    case round =>
      obtain ⟨rfl, rfl⟩ := hrel
      go_wp2
      go_ret
      exact ⟨rfl, X2.out, K2.out⟩
  · rw [if_neg h]
    obtain rfl : bad = false := by
      cases hq : bad with
      | false => rfl
      | true =>
        have := x.none_ hq
        subst this
        exact absurd (show ([] : List Nat).length < n by simp; omega) h
    have HT := Lib.hid (rraw_ok g xs n w0 w x (by omega))
    have HB := Lib.hid hb
    have HL := Lib.hid (show n ≤ xs.length by omega)
    clear x h hb
    go_enter Tryd.func39, Tryd.ntmps39
    go_wp2_with (go_at_call 57; refine (HT.out).mono ?_; rintro e w2 ⟨⟨A, c, rfl, hc, hs⟩, x2, k2⟩; have X2 := Lib.hid x2; have K2 := Lib.hid k2; have HS := Lib.hid hs; clear x2 k2 hs)
    obtain ⟨b, o, rfl, _, hby⟩ := HS.out (by rw [List.length_take]; have := HL.out; omega)
    have HBY := Lib.hid hby
    clear hby HT
    go_loop [6, 7] (fun v i => ∃ k : Nat, k ≤ n ∧ v = .int .u64 (val (xs.take k) : Nat) ∧ i = .int .i64 k) (fun _ i => n - (intOf i).toNat)
    case atStart => exact ⟨0, by omega, rfl, rfl⟩
    case round =>
      obtain ⟨k, hk, rfl, rfl⟩ := hrel
      by_cases hlt : k < n
      · have hl := HL.out
        have c0 := HBY.out k (by rw [List.length_take]; omega)
        have e0 : gt (xs.take n) k = gt xs k := by simp [gt, List.getD_eq_getElem?_getD, hlt]
        rw [e0] at c0
        clear e0
        have b0 := HB.out k
        go_wp2
        go_round
        case rel =>
          refine ⟨k + 1, by omega, ?_, by go_num⟩
          rw [or_step _ _ (val_small _ (bytes_take HB.out k) (by rw [List.length_take]; omega)) b0, List.take_succ_eq_append_getElem (by omega), val_snoc, ← gt_of_lt]
        case measure => simp [intOf]; omega
      · obtain rfl : k = n := by omega
        go_wp2
        go_ret
        exact ⟨rfl, X2.out, K2.out⟩
theorem rrend_t (g : Nat) (xs : List Nat) (bad : Bool) (w0 w : World) (x : Rr w0 w g xs bad) : Calls Tryd.prog 42 #[.pointer (some ⟨g, 0, none⟩)] w fun e w' => e = .returned (.int .i64 (endN xs bad : Nat)) ∧ w = w' := by
  obtain ⟨A, c, h1, _, _⟩ := x.is
  have c0 : w.cell? ⟨g, 0, none⟩ = some (.slice A xs.length c) := h1.cell 0
  have c1 : w.cell? ⟨g, 1, none⟩ = some (.bool bad) := h1.cell 1
  unfold endN
  cases bad with
  | true =>
    rw [if_pos (.inl rfl)]
    clear x h1
    go_enter Tryd.func42, Tryd.ntmps42
    go_wp2
    go_ret
    exact ⟨rfl, rfl⟩
  | false =>
    by_cases h : 0 < xs.length
    · rw [if_pos (.inr h)]
      have i1 : (0 : Int) < (xs.length : Int) := by omega
      clear x h1 h
      go_enter Tryd.func42, Tryd.ntmps42
      go_wp2
      go_ret
      exact ⟨rfl, rfl⟩
    · rw [if_neg (fun q => q.elim (fun e => by cases e) h)]
      have i1 : xs.length = 0 := by omega
      rw [i1] at c0
      clear x h1 h i1
      go_enter Tryd.func42, Tryd.ntmps42
      go_wp2
      go_ret
      exact ⟨rfl, rfl⟩
/-- What Text reads, as the reference goes. -/
def rTxtM (xs : List Nat) (bad : Bool) (most : Nat) : List Nat × List Nat × Bool :=
  if (rNum xs bad 4).1 ≤ most ∧ (rNum xs bad 4).1 ≤ (rNum xs bad 4).2.1.length ∧ (rNum xs bad 4).2.2 = false then ((rNum xs bad 4).2.1.take (rNum xs bad 4).1, (rNum xs bad 4).2.1.drop (rNum xs bad 4).1, false) else ([], [], true)
theorem rTxtM_eq (xs : List Nat) (most : Nat) : rTxtM xs false most = rTxt xs false most := by
  unfold rTxtM rTxt rNum
  by_cases h : xs.length < 4
  · rw [if_pos h, if_neg (by simp), if_neg (by omega)]
  · rw [if_neg h]
    simp only [List.length_drop]
    by_cases h2 : val (xs.take 4) ≤ most ∧ val (xs.take 4) ≤ xs.length - 4
    · rw [if_pos ⟨h2.1, h2.2, by simp⟩, if_pos ⟨by omega, h2.1, h2.2⟩]
    · rw [if_neg (fun q => h2 ⟨q.1, q.2.1⟩), if_neg (fun q => h2 ⟨q.2.1, q.2.2⟩)]
theorem rTxtM_bad (most : Nat) : rTxtM [] true most = ([], [], true) := by
  unfold rTxtM rNum
  rw [if_pos (show ([] : List Nat).length < 4 by decide), if_neg (by simp)]
set_option maxRecDepth 100000 in
set_option maxHeartbeats 400000 in
theorem rrtxt_t (g : Nat) (xs : List Nat) (bad : Bool) (most : Nat) (w0 w : World) (x : Rr w0 w g xs bad) (hb : Bytes xs) (hm : most ≤ 1000000) (hl : xs.length ≤ 70368744177664) :
    Calls Tryd.prog 58 #[.pointer (some ⟨g, 0, none⟩), .int .i64 (most : Int)] w fun e w' => (∃ A c, e = .returned (.slice A (rTxtM xs bad most).1.length c) ∧ (rTxtM xs bad most).1.length ≤ c ∧ Sr w' A (rTxtM xs bad most).1) ∧ Rr w0 w' g (rTxtM xs bad most).2.1 (rTxtM xs bad most).2.2 ∧ Kept (fun k => k = g) w w' := by
  have NM := Lib.hid (rrnum_t g xs bad 4 w0 w x hb (by decide) (by decide))
  obtain ⟨hyb, hyl, hyv⟩ := rNum_bytes xs bad 4 hb
  have hT : rTxtM xs bad most = if (rNum xs bad 4).1 ≤ most ∧ (rNum xs bad 4).1 ≤ (rNum xs bad 4).2.1.length ∧ (rNum xs bad 4).2.2 = false then ((rNum xs bad 4).2.1.take (rNum xs bad 4).1, (rNum xs bad 4).2.1.drop (rNum xs bad 4).1, false) else ([], [], true) := rfl
  rw [hT]
  obtain ⟨⟨v, ys, b2⟩, hR⟩ : ∃ r, rNum xs bad 4 = r := ⟨_, rfl⟩
  simp only [hR] at NM hyb hyl hyv ⊢
  have hmx : max (most : Int) 0 = (most : Int) := by omega
  have hmw : IntKind.u64.wrap (most : Int) = (most : Int) := IntWalk.u64_in _ (by omega)
  have hv4 : v < 4294967296 := hyv
  obtain ⟨res, hres⟩ : ∃ r : List Nat × List Nat × Bool, (if v ≤ most ∧ v ≤ ys.length ∧ b2 = false then (ys.take v, ys.drop v, false) else ([], [], true)) = r := ⟨_, rfl⟩
  rw [hres]
  have RES := Lib.hid hres
  clear hT hR hres x hb hyb
  go_enter Tryd.func58, Tryd.ntmps58
  go_wp2_with fail
  refine NM.out.mono ?_
  rintro e w1 ⟨rfl, x1, k1⟩
  have X1 := Lib.hid x1; have K1 := Lib.hid k1; have BL := Lib.hid x1.bel; have LO := Lib.hid x1.low
  obtain ⟨A, c, q1, q2, q3⟩ := x1.is
  have c0 : w1.cell? ⟨g, 0, none⟩ = some (.slice A ys.length c) := q1.cell 0
  have c1 : w1.cell? ⟨g, 1, none⟩ = some (.bool b2) := q1.cell 1
  have f0 := q1.frozen 0
  have f1 := q1.frozen 1
  have Q1 := Lib.hid q1
  clear x1 k1 q1 q2 q3 NM
  have vw : IntKind.i64.wrap (v : Int) = (v : Int) := IntWalk.i64_in _ (by omega)
  have lw : IntKind.u64.wrap (ys.length : Int) = (ys.length : Int) := IntWalk.u64_in _ (by omega)
  have FIN := Lib.hid (fun W (hW : W = (w1.setCell ⟨g, 1, none⟩ (.bool true)).setCell ⟨g, 0, none⟩ (.slice none 0 0)) => show Rr w0 W g [] true ∧ Kept (fun k => k = g) w W from by
    subst hW
    have kk : Kept (fun k => k = g) w1 ((w1.setCell ⟨g, 1, none⟩ (.bool true)).setCell ⟨g, 0, none⟩ (.slice none 0 0)) := Kept.setCell (F := fun k => k = g) (Kept.setCell (F := fun k => k = g) (Kept.refl _ w1) (p := ⟨g, 1, none⟩) (.inl rfl) _) (p := ⟨g, 0, none⟩) (.inl rfl) _
    exact ⟨⟨⟨none, 0, (Q1.out.store 1 (.bool true)).store 0 (.slice none 0 0), Nat.le_refl _, Sr.nil⟩, fun _ => rfl, kept_below BL.out kk LO.out, LO.out⟩, K1.out.trans kk⟩)
  clear Q1
  by_cases hv1 : v ≤ most
  · have i1 : (v : Int) ≤ (most : Int) := by omega
    by_cases hv2 : v ≤ ys.length
    · have i2 : (v : Int) ≤ (ys.length : Int) := by omega
      clear FIN f0 f1
      cases b2 with
      | true =>
        have RB := Lib.hid (rraw_bad g ys true v w0 w1 X1.out (.inl rfl))
        have hr := RES.out
        rw [if_neg (fun q => by cases q.2.2)] at hr
        subst hr
        clear RES X1 hv1 hv2
        go_wp2_with fail
        refine RB.out.mono ?_
        rintro e w2 ⟨rfl, x2, k2⟩
        have X2 := Lib.hid x2; have K2 := Lib.hid (K1.out.trans (k2.mono fun _ e => e))
        clear x2 k2 RB
        go_wp2_with fail
        go_ret
        exact ⟨⟨none, ⟨0, rfl⟩, Sr.nil⟩, X2.out, K2.out⟩
      | false =>
        have RB := Lib.hid (rraw_ok g ys v w0 w1 X1.out hv2)
        have hr := RES.out
        rw [if_pos ⟨hv1, hv2, rfl⟩] at hr
        subst hr
        clear RES X1 hv1 hv2
        go_wp2_with fail
        refine RB.out.mono ?_
        rintro e w2 ⟨⟨A2, cc2, rfl, hc2, hs⟩, x2, k2⟩
        have X2 := Lib.hid x2; have K2 := Lib.hid (K1.out.trans (k2.mono fun _ e => e)); have S2 := Lib.hid hs
        clear x2 k2 RB hs
        go_wp2_with fail
        go_ret
        exact ⟨⟨A2, cc2, by rw [show min v ys.length = v by omega]; rfl, by first | omega | (simp; omega), S2.out⟩, X2.out, K2.out⟩
    · have i2 : (ys.length : Int) < (v : Int) := by omega
      have hr := RES.out
      rw [if_neg (fun q => hv2 q.2.1)] at hr
      subst hr
      clear RES X1 hv1 hv2
      go_wp2_with fail
      go_ret
      exact ⟨⟨none, ⟨0, rfl⟩, Sr.nil⟩, FIN.out _ rfl⟩
  · have i1 : (most : Int) < (v : Int) := by omega
    have hr := RES.out
    rw [if_neg (fun q => hv1 q.1)] at hr
    subst hr
    clear RES X1 hv1
    go_wp2_with fail
    go_ret
    exact ⟨⟨none, ⟨0, rfl⟩, Sr.nil⟩, FIN.out _ rfl⟩
end Go.Proofs.YtigbnjgmdgkgjaaDoor
