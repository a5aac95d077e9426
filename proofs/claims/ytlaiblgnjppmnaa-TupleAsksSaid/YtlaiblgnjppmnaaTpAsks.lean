/-
  TupleAsks: what may be, matches, is the same, and its bytes, as the reference has it.
-/
import Derived.Test.YtlaiblgnjppmnaaTrE
namespace Go.Proofs.Ytlaiblgnjppmnaa
open Go Go.RowKit Sh

/-- What the law holds in hand. -/
structure ACap (w0 W : World) (p : Option Addr) (n : Nat) (G : Nat → Fld) (q : Option Addr) (m : Nat) (H : Nat → Fld) (A : Option Addr) (xs : List Nat) : Prop where
  r1 : Rw W p n G
  r2 : Rw W q m H
  sr : Sr W A xs
  bel : Below w0.heap.size w0 W
theorem ACap.below {w0 W W' : World} {p : Option Addr} {n : Nat} {G : Nat → Fld} {q : Option Addr} {m : Nat} {H : Nat → Fld} {A : Option Addr} {xs : List Nat} (h : ACap w0 W p n G q m H A xs) (hb : Below W.heap.size W W') : ACap w0 W' p n G q m H A xs :=
  ⟨h.r1.below hb, h.r2.below hb, h.sr.below hb, h.bel.trans (hb.mono h.bel.size)⟩
set_option maxRecDepth 100000 in
set_option maxHeartbeats 2000000 in
theorem asks_t (n c m c2 l c3 : Nat) (p q r : Option Addr) (G H : Nat → Fld) (xs : List Nat) (w : World) (hn : n ≤ 9223372036854775807) (hm : m ≤ 9223372036854775807) (hr : Rw w p n G) (hq : Rw w q m H) (hx : xs.length = l) (hl3 : l ≤ c3) (hs : Sr w r xs) (hb : Bytes xs) :
    Calls Try.prog 4 #[.slice p n c, .slice q m c2, .slice r l c3] w fun e w' => e = .returned (.bool true) ∧ Below w.heap.size w w' := by
  have FW := Lib.hid (few_t n c p G w hn hr)
  have FQ := Lib.hid (few_t m c2 q H w hm hq)
  have C0 := Lib.hid (show ACap w w p n G q m H r xs from ⟨hr, hq, hs, Below.refl _ _⟩)
  have HL := Lib.hid hx
  have HB := Lib.hid hb
  obtain ⟨fb, hfb⟩ : ∃ b, fewL n G = b := ⟨_, rfl⟩
  obtain ⟨fq, hfq⟩ : ∃ b, fewL m H = b := ⟨_, rfl⟩
  rw [hfb] at FW
  rw [hfq] at FQ
  clear hfb hfq hr hq hs hx hb
  cases fb with
  | false =>
    clear FQ
    go_enter Try.func4, Try.ntmps4
    go_wp2_with fail
    refine FW.out.mono ?_
    rintro e w1 ⟨rfl, rfl⟩
    go_wp2_with fail
    refine (ttold_t _).mono ?_
    rintro e w9 ⟨rfl, b9⟩
    have B9 := Lib.hid (C0.out.below b9)
    clear b9
    go_wp2_with fail
    go_ret
    exact ⟨rfl, B9.out.bel⟩
  | true =>
  cases fq with
  | false =>
    go_enter Try.func4, Try.ntmps4
    go_wp2_with fail
    refine FW.out.mono ?_
    rintro e w1 ⟨rfl, rfl⟩
    go_wp2_with fail
    refine FQ.out.mono ?_
    rintro e w1 ⟨rfl, rfl⟩
    go_wp2_with fail
    refine (ttold_t _).mono ?_
    rintro e w9 ⟨rfl, b9⟩
    have B9 := Lib.hid (C0.out.below b9)
    clear b9
    go_wp2_with fail
    go_ret
    exact ⟨rfl, B9.out.bel⟩
  | true =>
  by_cases h300 : 300 < l
  · have i3 : (300 : Int) < (l : Int) := by omega
    go_enter Try.func4, Try.ntmps4
    go_wp2_with fail
    refine FW.out.mono ?_
    rintro e w1 ⟨rfl, rfl⟩
    go_wp2_with fail
    refine FQ.out.mono ?_
    rintro e w1 ⟨rfl, rfl⟩
    go_wp2_with fail
    refine (ttold_t _).mono ?_
    rintro e w9 ⟨rfl, b9⟩
    have B9 := Lib.hid (C0.out.below b9)
    clear b9
    go_wp2_with fail
    go_ret
    exact ⟨rfl, B9.out.bel⟩
  · have i3 : (l : Int) ≤ 300 := by omega
    have hl : l ≤ 300 := by omega
    clear h300
    cases hmb : mayP n G with
    | false =>
      have HM := Lib.hid hmb
      clear hmb
      go_enter Try.func4, Try.ntmps4
      go_wp2_with fail
      refine FW.out.mono ?_
      rintro e w1 ⟨rfl, rfl⟩
      go_wp2_with fail
      refine FQ.out.mono ?_
      rintro e w1 ⟨rfl, rfl⟩
      clear FW FQ
      go_wp2_with fail
      refine (Put_no n c p G w hn C0.out.r1 HM.out).mono ?_
      rintro e w1 ⟨rfl, b1⟩
      have C1 := Lib.hid (C0.out.below b1)
      clear b1 C0 i3
      go_wp2_with fail
      refine (refmayP_t n c p G w1 hn C1.out.r1).mono ?_
      rintro e w2 ⟨rfl, b2⟩
      have C2 := Lib.hid (C1.out.below b2)
      rw [HM.out]
      clear b2 C1
      skip
      go_wp2_with fail
      refine (Get_t xs _ l c3 _ HL.out C2.out.sr HB.out (by omega)).mono ?_
      rintro e w4 ⟨b4, hh⟩
      have C4 := Lib.hid (C2.out.below b4)
      clear b4
      rcases hh with ⟨hbad, rfl⟩ | ⟨hgood, gl, c', rfl, _, hrow⟩
      · go_wp2_with fail
        refine (refget_t xs _ l c3 _ HL.out hl3 C4.out.sr HB.out (by omega)).mono ?_
        rintro e w5 ⟨b5, hh⟩
        have C5 := Lib.hid (C4.out.below b5)
        obtain rfl : e = .returned (.tuple #[.slice none 0 0, .int .i64 2]) := by
          rcases hh with ⟨_, h⟩ | ⟨h1, _⟩
          · exact h
          · rw [hbad] at h1; cases h1
        clear b5 hh hbad C4
        go_wp2_with fail
        refine (ttold_t _).mono ?_
        rintro e w9 ⟨rfl, b9⟩
        have B9 := Lib.hid (C5.out.below b9)
        clear b9
        clear C5
        go_wp2_with fail
        refine (refsame_t 0 0 0 0 none none (fun _ => zF) (fun _ => zF) _ (by omega) (by omega) (fun j hj => absurd hj (by omega)) (fun j hj => absurd hj (by omega))).mono ?_
        rintro e w6 ⟨rfl, b6⟩
        have C6 := Lib.hid (B9.out.below b6)
        rw [show sameN 0 (fun _ => zF) 0 (fun _ => zF) = true from sameN_of rfl (fun _ _ => rfl)]
        clear b6 B9
        skip
        obtain ⟨mv, hmv⟩ : ∃ x, mayV m H = x := ⟨_, rfl⟩
        obtain ⟨mm, hmm⟩ : ∃ x, matchN n G m H = x := ⟨_, rfl⟩
        obtain ⟨ss, hss⟩ : ∃ x, sameN n G m H = x := ⟨_, rfl⟩
        have ev : (mv == mv) = true := by simp
        have em : (mm == mm) = true := by simp
        have es : (ss == ss) = true := by simp
        go_wp2_with fail
        refine (May_t m c2 q H _ hm C6.out.r2).mono ?_
        rintro e wa ⟨rfl, ba⟩
        have CA := Lib.hid (C6.out.below ba)
        rw [hmv]
        go_wp2_with fail
        refine (refmayV_t m c2 q H _ hm CA.out.r2).mono ?_
        rintro e wb ⟨rfl, bb⟩
        have CB := Lib.hid (CA.out.below bb)
        rw [hmv]
        clear ba bb CA
        go_wp2_with fail
        refine (MayTemplate_t n c p G _ hn CB.out.r1).mono ?_
        rintro e wc ⟨rfl, bc⟩
        have CC := Lib.hid (CB.out.below bc)
        rw [HM.out]
        go_wp2_with fail
        refine (Match_t n c m c2 p q G H _ hn hm CC.out.r1 CC.out.r2).mono ?_
        rintro e wd ⟨rfl, bd⟩
        have CD := Lib.hid (CC.out.below bd)
        rw [hmm]
        clear bc bd CB CC
        go_wp2_with fail
        refine (refmatch_t n c m c2 p q G H _ hn hm CD.out.r1 CD.out.r2).mono ?_
        rintro e wf ⟨rfl, bf⟩
        have CF := Lib.hid (CD.out.below bf)
        rw [hmm]
        go_wp2_with fail
        refine (Same_t n c m c2 p q G H _ hn hm CF.out.r1 CF.out.r2).mono ?_
        rintro e wg ⟨rfl, bg⟩
        have CG := Lib.hid (CF.out.below bg)
        rw [hss]
        clear bf bg CD CF
        go_wp2_with fail
        refine (refsame_t n c m c2 p q G H _ hn hm CG.out.r1 CG.out.r2).mono ?_
        rintro e wh ⟨rfl, bh⟩
        have CH := Lib.hid (CG.out.below bh)
        rw [hss]
        go_wp2_with fail
        refine (Same_t m c2 m c2 q q H H _ hm hm CH.out.r2 CH.out.r2).mono ?_
        rintro e wi ⟨rfl, bi⟩
        have CI := Lib.hid (CH.out.below bi)
        rw [show sameN m H m H = true from sameN_of rfl (fun _ _ => rfl)]
        clear bh bi CG CH
        go_wp2_with fail
        go_ret
        exact ⟨rfl, CI.out.bel⟩
      · have R4 := Lib.hid (rw_of_blk (rest := []) (gotN xs) (by rw [List.append_nil]; exact hrow))
        have hcn : cntN xs ≤ 255 := by
          have := (rNum_bytes xs false 1 HB.out).2.2
          unfold cntN
          omega
        clear hrow
        go_wp2_with fail
        refine (refget_t xs _ l c3 _ HL.out hl3 C4.out.sr HB.out (by omega)).mono ?_
        rintro e w5 ⟨b5, hh⟩
        have C5 := Lib.hid (C4.out.below b5); have R5 := Lib.hid (R4.out.below b5)
        rcases hh with ⟨h1, _⟩ | ⟨_, A5, c5, rfl, r5⟩
        · rw [hgood] at h1; cases h1
        have S5 := Lib.hid r5
        clear b5 r5 hgood C4 R4
        go_wp2_with fail
        refine (ttold_t _).mono ?_
        rintro e w9 ⟨rfl, b9⟩
        have B9 := Lib.hid (C5.out.below b9); have R9 := Lib.hid (R5.out.below b9); have S9 := Lib.hid (S5.out.below b9)
        clear b9 C5 R5 S5
        go_wp2_with fail
        refine (refsame_t _ c' _ c5 _ A5 (gotN xs) (gotN xs) _ (by omega) (by omega) R9.out S9.out).mono ?_
        rintro e w6 ⟨rfl, b6⟩
        have C6 := Lib.hid (B9.out.below b6)
        rw [show sameN (cntN xs) (gotN xs) (cntN xs) (gotN xs) = true from sameN_of rfl (fun _ _ => rfl)]
        clear b6 B9 R9 S9 hcn
        skip
        obtain ⟨mv, hmv⟩ : ∃ x, mayV m H = x := ⟨_, rfl⟩
        obtain ⟨mm, hmm⟩ : ∃ x, matchN n G m H = x := ⟨_, rfl⟩
        obtain ⟨ss, hss⟩ : ∃ x, sameN n G m H = x := ⟨_, rfl⟩
        have ev : (mv == mv) = true := by simp
        have em : (mm == mm) = true := by simp
        have es : (ss == ss) = true := by simp
        go_wp2_with fail
        refine (May_t m c2 q H _ hm C6.out.r2).mono ?_
        rintro e wa ⟨rfl, ba⟩
        have CA := Lib.hid (C6.out.below ba)
        rw [hmv]
        go_wp2_with fail
        refine (refmayV_t m c2 q H _ hm CA.out.r2).mono ?_
        rintro e wb ⟨rfl, bb⟩
        have CB := Lib.hid (CA.out.below bb)
        rw [hmv]
        clear ba bb CA
        go_wp2_with fail
        refine (MayTemplate_t n c p G _ hn CB.out.r1).mono ?_
        rintro e wc ⟨rfl, bc⟩
        have CC := Lib.hid (CB.out.below bc)
        rw [HM.out]
        go_wp2_with fail
        refine (Match_t n c m c2 p q G H _ hn hm CC.out.r1 CC.out.r2).mono ?_
        rintro e wd ⟨rfl, bd⟩
        have CD := Lib.hid (CC.out.below bd)
        rw [hmm]
        clear bc bd CB CC
        go_wp2_with fail
        refine (refmatch_t n c m c2 p q G H _ hn hm CD.out.r1 CD.out.r2).mono ?_
        rintro e wf ⟨rfl, bf⟩
        have CF := Lib.hid (CD.out.below bf)
        rw [hmm]
        go_wp2_with fail
        refine (Same_t n c m c2 p q G H _ hn hm CF.out.r1 CF.out.r2).mono ?_
        rintro e wg ⟨rfl, bg⟩
        have CG := Lib.hid (CF.out.below bg)
        rw [hss]
        clear bf bg CD CF
        go_wp2_with fail
        refine (refsame_t n c m c2 p q G H _ hn hm CG.out.r1 CG.out.r2).mono ?_
        rintro e wh ⟨rfl, bh⟩
        have CH := Lib.hid (CG.out.below bh)
        rw [hss]
        go_wp2_with fail
        refine (Same_t m c2 m c2 q q H H _ hm hm CH.out.r2 CH.out.r2).mono ?_
        rintro e wi ⟨rfl, bi⟩
        have CI := Lib.hid (CH.out.below bi)
        rw [show sameN m H m H = true from sameN_of rfl (fun _ _ => rfl)]
        clear bh bi CG CH
        go_wp2_with fail
        go_ret
        exact ⟨rfl, CI.out.bel⟩
    | true =>
      have HM := Lib.hid hmb
      have PB := Lib.hid (putN_bytes n G)
      have PY := Lib.hid (Put_yes n c p G w C0.out.r1 hmb)
      have PR := Lib.hid (fun (w : World) (hr : Rw w p n G) => refput_t n c p G w hr hmb)
      obtain ⟨ps, hps⟩ : ∃ xs, putN n G = xs := ⟨_, rfl⟩
      rw [hps] at PB PY
      simp only [hps] at PR
      clear hps hmb
      go_enter Try.func4, Try.ntmps4
      go_wp2_with fail
      refine FW.out.mono ?_
      rintro e w1 ⟨rfl, rfl⟩
      go_wp2_with fail
      refine FQ.out.mono ?_
      rintro e w1 ⟨rfl, rfl⟩
      clear FW FQ
      go_wp2_with fail
      refine PY.out.mono ?_
      rintro e w1 ⟨u, rfl, o1, b1⟩
      obtain ⟨A1, k1, rfl, _⟩ := own_form o1
      have C1 := Lib.hid (C0.out.below b1); have S1 := Lib.hid (Sr.of_own o1)
      clear o1 b1 PY C0 i3
      go_wp2_with fail
      refine (refmayP_t n c p G w1 hn C1.out.r1).mono ?_
      rintro e w2 ⟨rfl, b2⟩
      have C2 := Lib.hid (C1.out.below b2); have S2 := Lib.hid (S1.out.below b2)
      rw [HM.out]
      clear b2 C1 S1
      go_wp2_with fail
      refine (PR.out w2 C2.out.r1).mono ?_
      rintro e w3 ⟨u, rfl, o3, b3⟩
      obtain ⟨A3, k3, rfl, _⟩ := own_form o3
      have C3 := Lib.hid (C2.out.below b3); have S3 := Lib.hid (S2.out.below b3); have T3 := Lib.hid (Sr.of_own o3)
      clear o3 b3 PR C2 S2
      go_wp2_with fail
      refine (same_textsT ps ps _ _ _ _ k1 k3 w3 rfl rfl S3.out T3.out PB.out PB.out).mono ?_
      rintro e w3b ⟨rfl, rfl⟩
      rw [show decide (ps = ps) = true from decide_eq_true rfl]
      clear S3 T3 PB
      skip
      go_wp2_with fail
      refine (Get_t xs _ l c3 _ HL.out C3.out.sr HB.out (by omega)).mono ?_
      rintro e w4 ⟨b4, hh⟩
      have C4 := Lib.hid (C3.out.below b4)
      clear b4
      rcases hh with ⟨hbad, rfl⟩ | ⟨hgood, gl, c', rfl, _, hrow⟩
      · go_wp2_with fail
        refine (refget_t xs _ l c3 _ HL.out hl3 C4.out.sr HB.out (by omega)).mono ?_
        rintro e w5 ⟨b5, hh⟩
        have C5 := Lib.hid (C4.out.below b5)
        obtain rfl : e = .returned (.tuple #[.slice none 0 0, .int .i64 2]) := by
          rcases hh with ⟨_, h⟩ | ⟨h1, _⟩
          · exact h
          · rw [hbad] at h1; cases h1
        clear b5 hh hbad C4
        go_wp2_with fail
        refine (ttold_t _).mono ?_
        rintro e w9 ⟨rfl, b9⟩
        have B9 := Lib.hid (C5.out.below b9)
        clear b9
        clear C5
        go_wp2_with fail
        refine (refsame_t 0 0 0 0 none none (fun _ => zF) (fun _ => zF) _ (by omega) (by omega) (fun j hj => absurd hj (by omega)) (fun j hj => absurd hj (by omega))).mono ?_
        rintro e w6 ⟨rfl, b6⟩
        have C6 := Lib.hid (B9.out.below b6)
        rw [show sameN 0 (fun _ => zF) 0 (fun _ => zF) = true from sameN_of rfl (fun _ _ => rfl)]
        clear b6 B9
        skip
        obtain ⟨mv, hmv⟩ : ∃ x, mayV m H = x := ⟨_, rfl⟩
        obtain ⟨mm, hmm⟩ : ∃ x, matchN n G m H = x := ⟨_, rfl⟩
        obtain ⟨ss, hss⟩ : ∃ x, sameN n G m H = x := ⟨_, rfl⟩
        have ev : (mv == mv) = true := by simp
        have em : (mm == mm) = true := by simp
        have es : (ss == ss) = true := by simp
        go_wp2_with fail
        refine (May_t m c2 q H _ hm C6.out.r2).mono ?_
        rintro e wa ⟨rfl, ba⟩
        have CA := Lib.hid (C6.out.below ba)
        rw [hmv]
        go_wp2_with fail
        refine (refmayV_t m c2 q H _ hm CA.out.r2).mono ?_
        rintro e wb ⟨rfl, bb⟩
        have CB := Lib.hid (CA.out.below bb)
        rw [hmv]
        clear ba bb CA
        go_wp2_with fail
        refine (MayTemplate_t n c p G _ hn CB.out.r1).mono ?_
        rintro e wc ⟨rfl, bc⟩
        have CC := Lib.hid (CB.out.below bc)
        rw [HM.out]
        go_wp2_with fail
        refine (Match_t n c m c2 p q G H _ hn hm CC.out.r1 CC.out.r2).mono ?_
        rintro e wd ⟨rfl, bd⟩
        have CD := Lib.hid (CC.out.below bd)
        rw [hmm]
        clear bc bd CB CC
        go_wp2_with fail
        refine (refmatch_t n c m c2 p q G H _ hn hm CD.out.r1 CD.out.r2).mono ?_
        rintro e wf ⟨rfl, bf⟩
        have CF := Lib.hid (CD.out.below bf)
        rw [hmm]
        go_wp2_with fail
        refine (Same_t n c m c2 p q G H _ hn hm CF.out.r1 CF.out.r2).mono ?_
        rintro e wg ⟨rfl, bg⟩
        have CG := Lib.hid (CF.out.below bg)
        rw [hss]
        clear bf bg CD CF
        go_wp2_with fail
        refine (refsame_t n c m c2 p q G H _ hn hm CG.out.r1 CG.out.r2).mono ?_
        rintro e wh ⟨rfl, bh⟩
        have CH := Lib.hid (CG.out.below bh)
        rw [hss]
        go_wp2_with fail
        refine (Same_t m c2 m c2 q q H H _ hm hm CH.out.r2 CH.out.r2).mono ?_
        rintro e wi ⟨rfl, bi⟩
        have CI := Lib.hid (CH.out.below bi)
        rw [show sameN m H m H = true from sameN_of rfl (fun _ _ => rfl)]
        clear bh bi CG CH
        go_wp2_with fail
        go_ret
        exact ⟨rfl, CI.out.bel⟩
      · have R4 := Lib.hid (rw_of_blk (rest := []) (gotN xs) (by rw [List.append_nil]; exact hrow))
        have hcn : cntN xs ≤ 255 := by
          have := (rNum_bytes xs false 1 HB.out).2.2
          unfold cntN
          omega
        clear hrow
        go_wp2_with fail
        refine (refget_t xs _ l c3 _ HL.out hl3 C4.out.sr HB.out (by omega)).mono ?_
        rintro e w5 ⟨b5, hh⟩
        have C5 := Lib.hid (C4.out.below b5); have R5 := Lib.hid (R4.out.below b5)
        rcases hh with ⟨h1, _⟩ | ⟨_, A5, c5, rfl, r5⟩
        · rw [hgood] at h1; cases h1
        have S5 := Lib.hid r5
        clear b5 r5 hgood C4 R4
        go_wp2_with fail
        refine (ttold_t _).mono ?_
        rintro e w9 ⟨rfl, b9⟩
        have B9 := Lib.hid (C5.out.below b9); have R9 := Lib.hid (R5.out.below b9); have S9 := Lib.hid (S5.out.below b9)
        clear b9 C5 R5 S5
        go_wp2_with fail
        refine (refsame_t _ c' _ c5 _ A5 (gotN xs) (gotN xs) _ (by omega) (by omega) R9.out S9.out).mono ?_
        rintro e w6 ⟨rfl, b6⟩
        have C6 := Lib.hid (B9.out.below b6)
        rw [show sameN (cntN xs) (gotN xs) (cntN xs) (gotN xs) = true from sameN_of rfl (fun _ _ => rfl)]
        clear b6 B9 R9 S9 hcn
        skip
        obtain ⟨mv, hmv⟩ : ∃ x, mayV m H = x := ⟨_, rfl⟩
        obtain ⟨mm, hmm⟩ : ∃ x, matchN n G m H = x := ⟨_, rfl⟩
        obtain ⟨ss, hss⟩ : ∃ x, sameN n G m H = x := ⟨_, rfl⟩
        have ev : (mv == mv) = true := by simp
        have em : (mm == mm) = true := by simp
        have es : (ss == ss) = true := by simp
        go_wp2_with fail
        refine (May_t m c2 q H _ hm C6.out.r2).mono ?_
        rintro e wa ⟨rfl, ba⟩
        have CA := Lib.hid (C6.out.below ba)
        rw [hmv]
        go_wp2_with fail
        refine (refmayV_t m c2 q H _ hm CA.out.r2).mono ?_
        rintro e wb ⟨rfl, bb⟩
        have CB := Lib.hid (CA.out.below bb)
        rw [hmv]
        clear ba bb CA
        go_wp2_with fail
        refine (MayTemplate_t n c p G _ hn CB.out.r1).mono ?_
        rintro e wc ⟨rfl, bc⟩
        have CC := Lib.hid (CB.out.below bc)
        rw [HM.out]
        go_wp2_with fail
        refine (Match_t n c m c2 p q G H _ hn hm CC.out.r1 CC.out.r2).mono ?_
        rintro e wd ⟨rfl, bd⟩
        have CD := Lib.hid (CC.out.below bd)
        rw [hmm]
        clear bc bd CB CC
        go_wp2_with fail
        refine (refmatch_t n c m c2 p q G H _ hn hm CD.out.r1 CD.out.r2).mono ?_
        rintro e wf ⟨rfl, bf⟩
        have CF := Lib.hid (CD.out.below bf)
        rw [hmm]
        go_wp2_with fail
        refine (Same_t n c m c2 p q G H _ hn hm CF.out.r1 CF.out.r2).mono ?_
        rintro e wg ⟨rfl, bg⟩
        have CG := Lib.hid (CF.out.below bg)
        rw [hss]
        clear bf bg CD CF
        go_wp2_with fail
        refine (refsame_t n c m c2 p q G H _ hn hm CG.out.r1 CG.out.r2).mono ?_
        rintro e wh ⟨rfl, bh⟩
        have CH := Lib.hid (CG.out.below bh)
        rw [hss]
        go_wp2_with fail
        refine (Same_t m c2 m c2 q q H H _ hm hm CH.out.r2 CH.out.r2).mono ?_
        rintro e wi ⟨rfl, bi⟩
        have CI := Lib.hid (CH.out.below bi)
        rw [show sameN m H m H = true from sameN_of rfl (fun _ _ => rfl)]
        clear bh bi CG CH
        go_wp2_with fail
        go_ret
        exact ⟨rfl, CI.out.bel⟩
end Go.Proofs.Ytlaiblgnjppmnaa
