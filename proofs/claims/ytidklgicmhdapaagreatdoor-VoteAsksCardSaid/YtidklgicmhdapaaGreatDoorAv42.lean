/-
  THE REFERENCE OF CHAPTERS 2, 6, 7, what a space's bytes want
-/
import Derived.Test.YtidklgicmhdapaaGreatDoorAv20
import Derived.Test.YtidklgicmhdapaaGreatDoorAv41
import Derived.Test.YtidklgicmhdapaaGreatDoorAv39
import Derived.Deep.DeepCutAuto
namespace Go.Proofs.YtidklgicmhdapaaGreatDoor
open Go Go.RowKit Sh

section
variable {ops : Array Oper} {rest : List Oper} {o : Oper} {a : Act} {Q : Exit → Act → World → Prop} {w : World}
end


structure Rr (w0 w : World) (g : Nat) (xs : List Nat) (bad : Bool) : Prop where
  is : ∃ A c, Blk w g 56 [.slice A xs.length c, .bool bad] ∧ xs.length ≤ c ∧ Sr w0 A xs
  none_ : bad = true → xs = []
  bel : Below w0.heap.size w0 w
  low : w0.heap.size ≤ g
theorem Rr.lt {w0 w : World} {g : Nat} {xs : List Nat} {bad : Bool} (x : Rr w0 w g xs bad) : g < w.heap.size := by
  obtain ⟨_, _, h, _⟩ := x.is
  exact h.lt
theorem Rr.below {w0 w w' : World} {g : Nat} {xs : List Nat} {bad : Bool} (x : Rr w0 w g xs bad) (hb : Below w.heap.size w w') : Rr w0 w' g xs bad := by
  obtain ⟨A, c, h1, h2, h3⟩ := x.is
  exact ⟨⟨A, c, h1.below hb h1.lt, h2, h3⟩, x.none_, x.bel.trans (hb.mono x.bel.size), x.low⟩
set_option maxRecDepth 100000 in
theorem rraw_bad (g : Nat) (xs : List Nat) (bad : Bool) (n : Nat) (w0 w : World) (x : Rr w0 w g xs bad) (hn : bad = true ∨ xs.length < n) :
    Calls Tryz.prog 46 #[.pointer (some ⟨g, 0, none⟩), .int .i64 (n : Int)] w fun e w' => e = .returned (.slice none 0 0) ∧ Rr w0 w' g [] true ∧ Kept (fun k => k = g) w w' := by
  obtain ⟨A, c, h1, h2, h3⟩ := x.is
  have c0 : w.cell? ⟨g, 0, none⟩ = some (.slice A xs.length c) := h1.cell 0
  have c1 : w.cell? ⟨g, 1, none⟩ = some (.bool bad) := h1.cell 1
  have f0 := h1.frozen 0
  have f1 := h1.frozen 1
  have H1 := Lib.hid h1; have BL := Lib.hid x.bel; have LO := Lib.hid x.low
  have n0 : ¬ ((n : Int) < 0) := by omega
  clear x h1 h2 h3
  have fin : ∀ W, W = (w.setCell ⟨g, 1, none⟩ (.bool true)).setCell ⟨g, 0, none⟩ (.slice none 0 0) → Rr w0 W g [] true ∧ Kept (fun k => k = g) w W := fun W hW => by
    subst hW
    have kk : Kept (fun k => k = g) w ((w.setCell ⟨g, 1, none⟩ (.bool true)).setCell ⟨g, 0, none⟩ (.slice none 0 0)) := Kept.setCell (F := fun k => k = g) (Kept.setCell (F := fun k => k = g) (Kept.refl _ w) (p := ⟨g, 1, none⟩) (.inl rfl) _) (p := ⟨g, 0, none⟩) (.inl rfl) _
    exact ⟨⟨⟨none, 0, (H1.out.store 1 (.bool true)).store 0 (.slice none 0 0), Nat.le_refl _, Sr.nil⟩, fun _ => rfl, kept_below BL.out kk LO.out, LO.out⟩, kk⟩
  have FIN := Lib.hid fin
  clear fin
  cases bad with
  | true =>
    clear hn
    go_enter Tryz.func46, Tryz.ntmps46
    go_wp2
    go_ret
    exact ⟨rfl, FIN.out _ rfl⟩
  | false =>
    have h : xs.length < n := by simpa using hn
    have i1 : (xs.length : Int) < (n : Int) := by omega
    clear hn h
    go_enter Tryz.func46, Tryz.ntmps46
    go_wp2
    go_ret
    exact ⟨rfl, FIN.out _ rfl⟩
set_option maxRecDepth 100000 in
theorem rraw_ok (g : Nat) (xs : List Nat) (n : Nat) (w0 w : World) (x : Rr w0 w g xs false) (hn : n ≤ xs.length) :
    Calls Tryz.prog 46 #[.pointer (some ⟨g, 0, none⟩), .int .i64 (n : Int)] w fun e w' => (∃ A c, e = .returned (.slice A n c) ∧ n ≤ c ∧ Sr w' A (xs.take n)) ∧ Rr w0 w' g (xs.drop n) false ∧ Kept (fun k => k = g) w w' := by
  obtain ⟨A, c, h1, hc, h3⟩ := x.is
  have H1 := Lib.hid h1; have H3 := Lib.hid h3; have BL := Lib.hid x.bel; have LO := Lib.hid x.low
  have HN := Lib.hid hn; have HC := Lib.hid hc
  obtain ⟨p2, hp2, he2⟩ := slice_low (P := Tryz.prog) (t := 24) (e := 5) Tryz.underlying24 byte_size A xs.length c .i64 n hn hc
  have he1 := slice_high (P := Tryz.prog) (t := 24) (e := 5) Tryz.underlying24 byte_size A xs.length c .i64 n (by omega)
  have HP2 := Lib.hid hp2
  have c0 : w.cell? ⟨g, 0, none⟩ = some (.slice A xs.length c) := h1.cell 0
  have c1 : w.cell? ⟨g, 1, none⟩ = some (.bool false) := h1.cell 1
  have f0 := h1.frozen 0
  have i1 : (n : Int) ≤ (xs.length : Int) := by omega
  have n0 : ¬ ((n : Int) < 0) := by omega
  clear x h1 h3 hp2
  go_enter Tryz.func46, Tryz.ntmps46
  go_wp2
  go_ret
  have kk : Kept (fun k => k = g) w (w.setCell ⟨g, 0, none⟩ (.slice p2 (xs.length - n) (c - n))) := Kept.setCell (F := fun k => k = g) (Kept.refl _ w) (p := ⟨g, 0, none⟩) (.inl rfl) _
  have bb := kept_below BL.out kk LO.out
  refine ⟨⟨A, c, rfl, by have := HN.out; have := HC.out; omega, (H3.out.take n).below bb⟩, ⟨⟨p2, c - n, ?_, ?_, H3.out.drop HP2.out⟩, (fun e => by cases e), bb, LO.out⟩, kk⟩
  · rw [List.length_drop]
    exact H1.out.store 0 (.slice p2 (xs.length - n) (c - n))
  · rw [List.length_drop]
    have := HC.out; omega
set_option maxRecDepth 100000 in
set_option maxHeartbeats 400000 in
theorem rrnum_t (g : Nat) (xs : List Nat) (bad : Bool) (n : Nat) (w0 w : World) (x : Rr w0 w g xs bad) (hb : Bytes xs) (h1 : 1 ≤ n) (h2 : n ≤ 8) :
    Calls Tryz.prog 28 #[.pointer (some ⟨g, 0, none⟩), .int .i64 (n : Int)] w fun e w' => e = .returned (.int .u64 ((rNum xs bad n).1 : Nat)) ∧ Rr w0 w' g (rNum xs bad n).2.1 (rNum xs bad n).2.2 ∧ Kept (fun k => k = g) w w' := by
  have i1 : (1 : Int) ≤ (n : Int) := by omega
  have i8 : (n : Int) ≤ 8 := by omega
  unfold rNum
  by_cases h : xs.length < n
  · rw [if_pos h]
    have HT := Lib.hid (rraw_bad g xs bad n w0 w x (.inr h))
    clear x h hb
    go_enter Tryz.func28, Tryz.ntmps28
    go_wp2_with (go_at_call 46; refine (HT.out).mono ?_; rintro e w2 ⟨rfl, x2, k2⟩; have X2 := Lib.hid x2; have K2 := Lib.hid k2; clear x2 k2)
    go_loop [6, 7] (fun v i => v = .int .u64 0 ∧ i = .int .i64 0) (fun _ _ => 0)
    case atStart => exact ⟨rfl, rfl⟩
    case round =>
      obtain ⟨rfl, rfl⟩ := hrel
      go_wp2
      go_ret
      exact ⟨rfl, X2.out, K2.out⟩
  · rw [if_neg h]
    obtain rfl : bad = false := by
      cases hq : bad with
      | false => rfl
      | true =>
        have := x.none_ hq
        subst this
        exact absurd (show ([] : List Nat).length < n by simp; omega) h
    have HT := Lib.hid (rraw_ok g xs n w0 w x (by omega))
    have HB := Lib.hid hb
    have HL := Lib.hid (show n ≤ xs.length by omega)
    clear x h hb
    go_enter Tryz.func28, Tryz.ntmps28
    go_wp2_with (go_at_call 46; refine (HT.out).mono ?_; rintro e w2 ⟨⟨A, c, rfl, hc, hs⟩, x2, k2⟩; have X2 := Lib.hid x2; have K2 := Lib.hid k2; have HS := Lib.hid hs; clear x2 k2 hs)
    obtain ⟨b, o, rfl, _, hby⟩ := HS.out (by rw [List.length_take]; have := HL.out; omega)
    have HBY := Lib.hid hby
    clear hby HT
    go_loop [6, 7] (fun v i => ∃ k : Nat, k ≤ n ∧ v = .int .u64 (val (xs.take k) : Nat) ∧ i = .int .i64 k) (fun _ i => n - (intOf i).toNat)
    case atStart => exact ⟨0, by omega, rfl, rfl⟩
    case round =>
      obtain ⟨k, hk, rfl, rfl⟩ := hrel
      by_cases hlt : k < n
      · have hl := HL.out
        have c0 := HBY.out k (by rw [List.length_take]; omega)
        have e0 : gt (xs.take n) k = gt xs k := by simp [gt, List.getD_eq_getElem?_getD, hlt]
        rw [e0] at c0
        clear e0
        have b0 := HB.out k
        go_wp2
        go_round
        case rel =>
          refine ⟨k + 1, by omega, ?_, by go_num⟩
          rw [or_step _ _ (val_small _ (bytes_take HB.out k) (by rw [List.length_take]; omega)) b0, List.take_succ_eq_append_getElem (by omega), val_snoc, ← gt_of_lt]
        case measure => simp [intOf]; omega
      · obtain rfl : k = n := by omega
        go_wp2
        go_ret
        exact ⟨rfl, X2.out, K2.out⟩
theorem rrend_t (g : Nat) (xs : List Nat) (bad : Bool) (w0 w : World) (x : Rr w0 w g xs bad) : Calls Tryz.prog 31 #[.pointer (some ⟨g, 0, none⟩)] w fun e w' => e = .returned (.int .i64 (endN xs bad : Nat)) ∧ w = w' := by
  obtain ⟨A, c, h1, _, _⟩ := x.is
  have c0 : w.cell? ⟨g, 0, none⟩ = some (.slice A xs.length c) := h1.cell 0
  have c1 : w.cell? ⟨g, 1, none⟩ = some (.bool bad) := h1.cell 1
  unfold endN
  cases bad with
  | true =>
    rw [if_pos (.inl rfl)]
    clear x h1
    go_enter Tryz.func31, Tryz.ntmps31
    go_wp2
    go_ret
    exact ⟨rfl, rfl⟩
  | false =>
    by_cases h : 0 < xs.length
    · rw [if_pos (.inr h)]
      have i1 : (0 : Int) < (xs.length : Int) := by omega
      clear x h1 h
      go_enter Tryz.func31, Tryz.ntmps31
      go_wp2
      go_ret
      exact ⟨rfl, rfl⟩
    · rw [if_neg (fun q => q.elim (fun e => by cases e) h)]
      have i1 : xs.length = 0 := by omega
      rw [i1] at c0
      clear x h1 h i1
      go_enter Tryz.func31, Tryz.ntmps31
      go_wp2
      go_ret
      exact ⟨rfl, rfl⟩
def rTxtM (xs : List Nat) (bad : Bool) (most : Nat) : List Nat × List Nat × Bool :=
  if (rNum xs bad 4).1 ≤ most ∧ (rNum xs bad 4).1 ≤ (rNum xs bad 4).2.1.length ∧ (rNum xs bad 4).2.2 = false then ((rNum xs bad 4).2.1.take (rNum xs bad 4).1, (rNum xs bad 4).2.1.drop (rNum xs bad 4).1, false) else ([], [], true)
theorem rTxtM_eq (xs : List Nat) (most : Nat) : rTxtM xs false most = rTxt xs false most := by
  unfold rTxtM rTxt rNum
  by_cases h : xs.length < 4
  · rw [if_pos h, if_neg (by simp), if_neg (by omega)]
  · rw [if_neg h]
    simp only [List.length_drop]
    by_cases h2 : val (xs.take 4) ≤ most ∧ val (xs.take 4) ≤ xs.length - 4
    · rw [if_pos ⟨h2.1, h2.2, by simp⟩, if_pos ⟨by omega, h2.1, h2.2⟩]
    · rw [if_neg (fun q => h2 ⟨q.1, q.2.1⟩), if_neg (fun q => h2 ⟨q.2.1, q.2.2⟩)]
theorem rTxtM_bad (most : Nat) : rTxtM [] true most = ([], [], true) := by
  unfold rTxtM rNum
  rw [if_pos (show ([] : List Nat).length < 4 by decide), if_neg (by simp)]
set_option maxRecDepth 100000 in
set_option maxHeartbeats 400000 in
theorem rrtxt_t (g : Nat) (xs : List Nat) (bad : Bool) (most : Nat) (w0 w : World) (x : Rr w0 w g xs bad) (hb : Bytes xs) (hm : most ≤ 2000000) (hl : xs.length ≤ 70368744177664) :
    Calls Tryz.prog 30 #[.pointer (some ⟨g, 0, none⟩), .int .i64 (most : Int)] w fun e w' => (∃ A c, e = .returned (.slice A (rTxtM xs bad most).1.length c) ∧ (rTxtM xs bad most).1.length ≤ c ∧ Sr w' A (rTxtM xs bad most).1) ∧ Rr w0 w' g (rTxtM xs bad most).2.1 (rTxtM xs bad most).2.2 ∧ Kept (fun k => k = g) w w' := by
  have NM := Lib.hid (rrnum_t g xs bad 4 w0 w x hb (by decide) (by decide))
  obtain ⟨hyb, hyl, hyv⟩ := rNum_bytes xs bad 4 hb
  have hT : rTxtM xs bad most = if (rNum xs bad 4).1 ≤ most ∧ (rNum xs bad 4).1 ≤ (rNum xs bad 4).2.1.length ∧ (rNum xs bad 4).2.2 = false then ((rNum xs bad 4).2.1.take (rNum xs bad 4).1, (rNum xs bad 4).2.1.drop (rNum xs bad 4).1, false) else ([], [], true) := rfl
  rw [hT]
  obtain ⟨⟨v, ys, b2⟩, hR⟩ : ∃ r, rNum xs bad 4 = r := ⟨_, rfl⟩
  simp only [hR] at NM hyb hyl hyv ⊢
  have hmx : max (most : Int) 0 = (most : Int) := by omega
  have hmw : IntKind.u64.wrap (most : Int) = (most : Int) := IntWalk.u64_in _ (by omega)
  have hv4 : v < 4294967296 := hyv
  obtain ⟨res, hres⟩ : ∃ r : List Nat × List Nat × Bool, (if v ≤ most ∧ v ≤ ys.length ∧ b2 = false then (ys.take v, ys.drop v, false) else ([], [], true)) = r := ⟨_, rfl⟩
  rw [hres]
  have RES := Lib.hid hres
  clear hT hR hres x hb hyb
  go_enter Tryz.func30, Tryz.ntmps30
  go_wp2_with fail
  refine NM.out.mono ?_
  rintro e w1 ⟨rfl, x1, k1⟩
  have X1 := Lib.hid x1; have K1 := Lib.hid k1; have BL := Lib.hid x1.bel; have LO := Lib.hid x1.low
  obtain ⟨A, c, q1, q2, q3⟩ := x1.is
  have c0 : w1.cell? ⟨g, 0, none⟩ = some (.slice A ys.length c) := q1.cell 0
  have c1 : w1.cell? ⟨g, 1, none⟩ = some (.bool b2) := q1.cell 1
  have f0 := q1.frozen 0
  have f1 := q1.frozen 1
  have Q1 := Lib.hid q1
  clear x1 k1 q1 q2 q3 NM
  have vw : IntKind.i64.wrap (v : Int) = (v : Int) := IntWalk.i64_in _ (by omega)
  have lw : IntKind.u64.wrap (ys.length : Int) = (ys.length : Int) := IntWalk.u64_in _ (by omega)
  have FIN := Lib.hid (fun W (hW : W = (w1.setCell ⟨g, 1, none⟩ (.bool true)).setCell ⟨g, 0, none⟩ (.slice none 0 0)) => show Rr w0 W g [] true ∧ Kept (fun k => k = g) w W from by
    subst hW
    have kk : Kept (fun k => k = g) w1 ((w1.setCell ⟨g, 1, none⟩ (.bool true)).setCell ⟨g, 0, none⟩ (.slice none 0 0)) := Kept.setCell (F := fun k => k = g) (Kept.setCell (F := fun k => k = g) (Kept.refl _ w1) (p := ⟨g, 1, none⟩) (.inl rfl) _) (p := ⟨g, 0, none⟩) (.inl rfl) _
    exact ⟨⟨⟨none, 0, (Q1.out.store 1 (.bool true)).store 0 (.slice none 0 0), Nat.le_refl _, Sr.nil⟩, fun _ => rfl, kept_below BL.out kk LO.out, LO.out⟩, K1.out.trans kk⟩)
  clear Q1
  by_cases hv1 : v ≤ most
  · have i1 : (v : Int) ≤ (most : Int) := by omega
    by_cases hv2 : v ≤ ys.length
    · have i2 : (v : Int) ≤ (ys.length : Int) := by omega
      clear FIN f0 f1
      cases b2 with
      | true =>
        have RB := Lib.hid (rraw_bad g ys true v w0 w1 X1.out (.inl rfl))
        have hr := RES.out
        rw [if_neg (fun q => by cases q.2.2)] at hr
        subst hr
        clear RES X1 hv1 hv2
        go_wp2_with fail
        refine RB.out.mono ?_
        rintro e w2 ⟨rfl, x2, k2⟩
        have X2 := Lib.hid x2; have K2 := Lib.hid (K1.out.trans (k2.mono fun _ e => e))
        clear x2 k2 RB
        go_wp2_with fail
        go_ret
        exact ⟨⟨none, ⟨0, rfl⟩, Sr.nil⟩, X2.out, K2.out⟩
      | false =>
        have RB := Lib.hid (rraw_ok g ys v w0 w1 X1.out hv2)
        have hr := RES.out
        rw [if_pos ⟨hv1, hv2, rfl⟩] at hr
        subst hr
        clear RES X1 hv1 hv2
        go_wp2_with fail
        refine RB.out.mono ?_
        rintro e w2 ⟨⟨A2, cc2, rfl, hc2, hs⟩, x2, k2⟩
        have X2 := Lib.hid x2; have K2 := Lib.hid (K1.out.trans (k2.mono fun _ e => e)); have S2 := Lib.hid hs
        clear x2 k2 RB hs
        go_wp2_with fail
        go_ret
        exact ⟨⟨A2, cc2, by rw [show min v ys.length = v by omega]; rfl, by first | omega | (simp; omega), S2.out⟩, X2.out, K2.out⟩
    · have i2 : (ys.length : Int) < (v : Int) := by omega
      have hr := RES.out
      rw [if_neg (fun q => hv2 q.2.1)] at hr
      subst hr
      clear RES X1 hv1 hv2
      go_wp2_with fail
      go_ret
      exact ⟨⟨none, ⟨0, rfl⟩, Sr.nil⟩, FIN.out _ rfl⟩
  · have i1 : (most : Int) < (v : Int) := by omega
    have hr := RES.out
    rw [if_neg (fun q => hv1 q.1)] at hr
    subst hr
    clear RES X1 hv1
    go_wp2_with fail
    go_ret
    exact ⟨⟨none, ⟨0, rfl⟩, Sr.nil⟩, FIN.out _ rfl⟩


theorem built_R (p : Option Addr) (m c : Nat) : Tryz.prog.built 56 [(0, .slice p m c)] = some #[.slice p m c, .bool false] := by kernel_rfl
section
variable {w0 w w' : World} {g : Nat} {xs : List Nat} {bad : Bool}
theorem Rr.off (x : Rr w0 w g xs bad) {g3 : Nat} (hk : Kept (fun k => k = g3) w w') (hne : g ≠ g3) (hl : w0.heap.size ≤ g3) : Rr w0 w' g xs bad := by
  obtain ⟨A, c, h1, h2, h3⟩ := x.is
  exact ⟨⟨A, c, h1.kept hk hne, h2, h3⟩, x.none_, kept_below x.bel hk hl, x.low⟩
end
section
variable {w0 w w' : World} {g g3 : Nat} {v : Value} {j : Nat} {G : Nat → Fld} {zs ys : List Nat} {b b' : Bool} {f f' : Fld}
end
structure PartO where
  A : Option Addr
  c : Nat
  X : List Nat
def partsO (l : List PartO) : List Value := l.map fun x => .slice x.A x.X.length x.c
def catO (l : List PartO) : List Nat := l.flatMap (·.X)
theorem catO_le (l : List PartO) (k : Nat) : (catO (l.take k)).length ≤ (catO l).length := by
  conv => rhs; rw [← List.take_append_drop k l]
  unfold catO
  rw [List.flatMap_append, List.length_append]
  omega
theorem catO_succ (l : List PartO) (k : Nat) (x : PartO) (h : l[k]? = some x) : catO (l.take (k + 1)) = catO (l.take k) ++ x.X := by
  obtain ⟨hk, rfl⟩ := List.getElem?_eq_some_iff.1 h
  unfold catO
  rw [List.take_succ_eq_append_getElem hk, List.flatMap_append, List.flatMap_cons, List.flatMap_nil, List.append_nil]
set_option maxHeartbeats 400000 in
theorem catO_t (l : List PartO) (g n c : Nat) (t : TypeId) (w : World) (hn : l.length = n) (hb : Blk w g t (partsO l)) (hr : ∀ x, x ∈ l → Sr w x.A x.X) (hl : (catO l).length ≤ 1000000) (hn2 : n ≤ 100) :
    Calls Tryz.prog 32 #[.slice (some ⟨g, 0, none⟩) n c] w fun e w' => ∃ v, e = .returned v ∧ Fresh 5 w w' v (catO l) := by
  have HB := Lib.hid hb; have HR := Lib.hid hr; have HL := Lib.hid hl; have HN := Lib.hid hn
  have n1 : (n : Int) ≤ 100 := by omega
  clear hb hr hl hn
  go_enter Tryz.func32, Tryz.ntmps32
  go_wp2_with fail
  go_loopw [3, 4] (fun o i wr => ∃ k : Nat, k ≤ n ∧ i = .int .i64 k ∧ wr.ownsRow w.heap.size 5 1 o (catO (l.take k)).length (u8s (catO (l.take k))) ∧ Below w.heap.size w wr) (fun _ i _ => n - (intOf i).toNat)
  case atStart => exact ⟨0, by omega, rfl, by simpa [catO] using nil_own _ _, Below.refl _ _⟩
  case round =>
    obtain ⟨k, hk, rfl, ho, hb⟩ := hrel
    by_cases hlt : k < n
    · obtain ⟨x, hx⟩ : ∃ x, l[k]? = some x := ⟨_, List.getElem?_eq_getElem (by rw [HN.out]; exact hlt)⟩
      have hs := (HR.out x (List.mem_of_getElem? hx)).below hb
      have h1 := catO_succ l k x hx
      have h2 : (catO (l.take k)).length + x.X.length ≤ 1000000 := by
        have := catO_le l (k + 1)
        rw [h1, List.length_append] at this
        exact Nat.le_trans this HL.out
      have c0 : wr.cell? ⟨g, k, none⟩ = some (.slice x.A x.X.length x.c) := by
        refine (hb.cell (p := ⟨g, k, none⟩) HB.out.lt).trans ?_
        rw [HB.out.cell]; simp [partsO, hx]
      obtain ⟨A, cx, X⟩ := x
      simp only [] at hs h1 h2 c0
      obtain ⟨Y, hY⟩ : ∃ Y, catO (l.take k) = Y := ⟨_, rfl⟩
      rw [hY] at ho h1 h2
      have HO := Lib.hid ho; have HW := Lib.hid hb; have HS := Lib.hid hs; have H1 := Lib.hid h1
      clear ho hb hs h1 hx hY
      go_wp2_with ((with_reducible refine at_op (.call { callee := .builtin .append, args := #[.tmp 11, .tmp 15], argTypes := #[24, 24] }) rfl ?_); refine append_bytes (.tmp 11) (.tmp 15) 24 rfl rfl 5 Tryz.underlying24 byte_info w.heap.size _ Y.length Y X rfl HO.out A X.length cx rfl rfl HS.out (by omega) HW.out.size ?_; intro v2 w2 a1 a2 a3)
      go_roundw
      case rel =>
        refine ⟨k + 1, by omega, by go_num, ?_, HW.out.grown a2.out HW.out.size fun i e => (HO.out.lt i e).1⟩
        rw [H1.out, List.length_append]
        exact a1.out
      case measure => simp [intOf]; omega
    · obtain rfl : k = n := by omega
      rw [List.take_of_length_le (by rw [HN.out]; exact Nat.le_refl _)] at ho
      have HO := Lib.hid ho; have HW := Lib.hid hb
      clear ho hb
      go_wp2_with fail
      go_ret
      exact ⟨_, rfl, HO.out, HW.out⟩
theorem fresh_opO {w w' : World} {v : Value} {l : List Nat} (h : Fresh 5 w w' v l) : ∃ A c, v = .slice A l.length c ∧ l.length ≤ c ∧ Sr w' A l ∧ Below w.heap.size w w' := by
  obtain ⟨A, c, rfl, hc⟩ := own_form h.1
  exact ⟨A, c, rfl, hc, Sr.of_own h.1, h.2⟩
def Six (W : World) (l : List PartO) : Prop := ∀ x, x ∈ l → Sr W x.A x.X
theorem Six.below {W W' : World} {l : List PartO} (h : Six W l) (hb : Below W.heap.size W W') : Six W' l := fun x hx => (h x hx).below hb
theorem Six.snoc {W : World} {l : List PartO} (h : Six W l) {A : Option Addr} {c : Nat} {X : List Nat} (hs : Sr W A X) : Six W (l ++ [⟨A, c, X⟩]) := fun x hx => by
  rcases List.mem_append.1 hx with h1 | h1
  · exact h x h1
  · obtain rfl := List.mem_singleton.1 h1
    exact hs
theorem rTxt_badO (n : Nat) : rTxt [] true n = ([], [], true) := by
  unfold rTxt
  rw [if_neg (by simp)]
end Go.Proofs.YtidklgicmhdapaaGreatDoor
