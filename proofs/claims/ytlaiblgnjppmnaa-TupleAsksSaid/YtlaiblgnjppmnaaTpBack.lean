/-
  TupleBack walked.
-/
import Derived.Test.YtlaiblgnjppmnaaTpTurned
import Derived.Test.YtlaiblgnjppmnaaRefP
namespace Go.Proofs.Ytlaiblgnjppmnaa
open Go Go.RowKit Sh

/-- Cut off it does not come back. -/
theorem take_no {n : Nat} {G : Nat → Fld} {j : Nat} (hm : mayP n G = true) (hr : ∀ i, i < n → InR (G i)) (hj : j < (putN n G).length) : getOK ((putN n G).take j) = false := by
  cases h : getOK ((putN n G).take j) with
  | false => rfl
  | true =>
    obtain ⟨e1, e2, e3⟩ := get_back (bytes_take (putN_bytes n G) j) h
    have h1 := (get_front_ok hm hr).1
    have h2 : putN n G = putN (cntN ((putN n G).take j)) (gotN ((putN n G).take j)) ++ (putN n G).drop j := by rw [← e1, List.take_append_drop]
    have h3 := get_front_no ((putN n G).drop j) e2 e3 (by rw [List.length_drop]; omega)
    rw [← h2, h1] at h3
    cases h3
/-- Two that are unlike have unlike bytes. -/
theorem put_inj {n m : Nat} {G H : Nat → Fld} (hm : mayP n G = true) (hr : ∀ i, i < n → InR (G i)) (km : mayP m H = true) (kr : ∀ i, i < m → InR (H i)) : sameN n G m H = decide (putN n G = putN m H) := by
  by_cases h : putN n G = putN m H
  · rw [decide_eq_true h]
    obtain ⟨_, g2, g3⟩ := get_front_ok hm hr
    obtain ⟨_, k2, k3⟩ := get_front_ok km kr
    rw [h] at g2 g3
    have e : n = m := g2.symm.trans k2
    exact sameN_of e (fun j hj => (g3 j hj).symm.trans (k3 j (by omega)))
  · rw [decide_eq_false h]
    cases hq : sameN n G m H with
    | false => rfl
    | true =>
      obtain ⟨q1, q2⟩ := sameN_iff.1 hq
      subst q1
      exact absurd (by rw [putN, putN, catF_congr n (fun i hi => q2 i hi)]) h
theorem own_emptyT (w : World) (base : Nat) (h : base ≤ w.heap.size) : (w.alloc (.cells #[] 5)).ownsRow base 5 1 (.slice (some ⟨w.heap.size, 0, none⟩) 0 0) 0 (u8s []) := by
  have := World.ownsRow_lit w (e := 5) (size := 1) (base := base) #[] 0 h (Nat.zero_le _) rfl
  simpa [u8s] using this
theorem one_bytesT (x : Nat) (hx : x < 256) : Bytes [x] := sl_bytes (fun y hy => by obtain rfl := List.mem_singleton.1 hy; exact hx)
theorem own_zero {w : World} {base : Nat} {e : TypeId} {v : Value} {n : Nat} {xs : List Nat} (h : w.ownsRow base e 1 v (0 + n) (u8s ([] ++ xs))) : w.ownsRow base e 1 v n (u8s xs) := by rwa [List.nil_append, Nat.zero_add] at h
theorem grown_size {w w' : World} {o : Obj} {r : Option Nat} (h : (w.alloc o).grownBy w' r) (o' : Obj) : w.heap.size ≤ (w'.alloc o').heap.size := by
  have h1 := h.size
  simp at h1 ⊢
  omega
/-- What TupleBack has: two rows, the first one's bytes. -/
structure BCap (w0 W : World) (p : Option Addr) (n : Nat) (G : Nat → Fld) (q : Option Addr) (m : Nat) (H : Nat → Fld) (A : Option Addr) (xs : List Nat) : Prop where
  r1 : Rw W p n G
  r2 : Rw W q m H
  sr : Sr W A xs
  bel : Below w0.heap.size w0 W
theorem BCap.below {w0 W W' : World} {p : Option Addr} {n : Nat} {G : Nat → Fld} {q : Option Addr} {m : Nat} {H : Nat → Fld} {A : Option Addr} {xs : List Nat} (h : BCap w0 W p n G q m H A xs) (hb : Below W.heap.size W W') : BCap w0 W' p n G q m H A xs :=
  ⟨h.r1.below hb, h.r2.below hb, h.sr.below hb, h.bel.trans (hb.mono h.bel.size)⟩
set_option maxRecDepth 100000 in
set_option maxHeartbeats 1000000 in
theorem back_t (n c m c2 : Nat) (p q : Option Addr) (G H : Nat → Fld) (at_ : Int) (x : Nat) (w : World) (hn : n ≤ 9223372036854775807) (hm : m ≤ 9223372036854775807) (hr : Rw w p n G) (hq : Rw w q m H) (hir : ∀ j, j < n → InR (G j)) (hiq : ∀ j, j < m → InR (H j)) (hx : x < 256) :
    Calls Try.prog 5 #[.slice p n c, .slice q m c2, .int .i64 at_, .int .u8 (x : Int)] w fun e w' => e = .returned (.bool true) ∧ Below w.heap.size w w' := by
  have FW := Lib.hid (few_t n c p G w hn hr)
  have FQ := Lib.hid (few_t m c2 q H w hm hq)
  have C0 := Lib.hid (show BCap w w p n G q m H none [] from ⟨hr, hq, Sr.nil, Below.refl _ _⟩)
  obtain ⟨fb, hfb⟩ : ∃ b, fewL n G = b := ⟨_, rfl⟩
  obtain ⟨fq, hfq⟩ : ∃ b, fewL m H = b := ⟨_, rfl⟩
  rw [hfb] at FW
  rw [hfq] at FQ
  clear hfb hfq hr hq
  cases fb with
  | false =>
    clear FQ
    go_enter Try.func5, Try.ntmps5
    go_wp2_with fail
    refine FW.out.mono ?_
    rintro e w1 ⟨rfl, rfl⟩
    go_wp2_with fail
    refine (ttold_t _).mono ?_
    rintro e w9 ⟨rfl, b9⟩
    have B9 := Lib.hid (C0.out.below b9)
    clear b9
    go_wp2_with fail
    go_ret
    exact ⟨rfl, B9.out.bel⟩
  | true =>
  cases fq with
  | false =>
    go_enter Try.func5, Try.ntmps5
    go_wp2_with fail
    refine FW.out.mono ?_
    rintro e w1 ⟨rfl, rfl⟩
    go_wp2_with fail
    refine FQ.out.mono ?_
    rintro e w1 ⟨rfl, rfl⟩
    go_wp2_with fail
    refine (ttold_t _).mono ?_
    rintro e w9 ⟨rfl, b9⟩
    have B9 := Lib.hid (C0.out.below b9)
    clear b9
    go_wp2_with fail
    go_ret
    exact ⟨rfl, B9.out.bel⟩
  | true =>
  cases hmb : mayP n G with
  | false =>
    have HM := Lib.hid hmb
    clear hmb
    go_enter Try.func5, Try.ntmps5
    go_wp2_with fail
    refine FW.out.mono ?_
    rintro e w1 ⟨rfl, rfl⟩
    go_wp2_with fail
    refine FQ.out.mono ?_
    rintro e w1 ⟨rfl, rfl⟩
    clear FW FQ
    go_wp2_with fail
    refine (Put_no n c p G w hn C0.out.r1 HM.out).mono ?_
    rintro e w1 ⟨rfl, b1⟩
    have C1 := Lib.hid (C0.out.below b1)
    clear b1 C0
    go_wp2_with fail
    refine (ttold_t _).mono ?_
    rintro e w9 ⟨rfl, b9⟩
    have B9 := Lib.hid (C1.out.below b9)
    clear b9
    go_wp2_with fail
    refine (MayTemplate_t n c p G w9 hn B9.out.r1).mono ?_
    rintro e w2 ⟨rfl, b2⟩
    rw [HM.out]
    have C2 := Lib.hid (B9.out.below b2)
    clear b2 B9 C1
    go_wp2_with fail
    go_ret
    exact ⟨rfl, C2.out.bel⟩
  | true =>
    have PL := Lib.hid (putN_length hmb)
    have PB := Lib.hid (putN_bytes n G)
    have GF := Lib.hid (get_front_ok hmb hir)
    have TN := Lib.hid (fun j hj => take_no (j := j) hmb hir hj)
    have GN := Lib.hid (get_front_no [x] hmb hir (Nat.zero_lt_succ 0))
    have PI := Lib.hid (fun km => put_inj hmb hir km hiq)
    have PY := Lib.hid (Put_yes n c p G w C0.out.r1 hmb)
    have H6 := Lib.hid (mayP_iff hmb).2.1
    obtain ⟨xs, hxs⟩ : ∃ xs, putN n G = xs := ⟨_, rfl⟩
    rw [hxs] at PL PB GF GN PY
    simp only [hxs] at TN PI
    obtain ⟨L, hL⟩ : ∃ L, xs.length = L := ⟨_, rfl⟩
    rw [hL] at PL PY
    simp only [hL] at TN
    obtain ⟨j, hj, hje⟩ := mod_bigT L (by have := PL.out; omega) (by have := PL.out; omega) at_
    have HL := Lib.hid hL
    have HX := Lib.hid (show L ≤ 271 ∧ 0 < L from PL.out)
    have TJ := Lib.hid (TN.out j hj)
    clear hxs hL PL hmb TN
    go_enter Try.func5, Try.ntmps5
    go_wp2_with fail
    refine FW.out.mono ?_
    rintro e w1 ⟨rfl, rfl⟩
    go_wp2_with fail
    refine FQ.out.mono ?_
    rintro e w1 ⟨rfl, rfl⟩
    clear FW FQ
    go_wp2_with fail
    refine PY.out.mono ?_
    rintro e w1 ⟨u, rfl, o1, b1⟩
    obtain ⟨g, ca, rfl, hca⟩ := own_formT o1 HX.out.2
    have C1 := Lib.hid (show BCap w w1 p n G q m H (some ⟨g, 0, none⟩) xs from ⟨C0.out.r1.below b1, C0.out.r2.below b1, Sr.of_own o1, b1⟩)
    clear o1 b1 PY C0
    go_wp2_with fail
    refine (Get_t xs _ L ca w1 HL.out C1.out.sr PB.out (by have := HX.out; omega)).mono ?_
    rintro e w2 ⟨b2, hh⟩
    have C2 := Lib.hid (C1.out.below b2)
    rcases hh with ⟨h1, _⟩ | ⟨_, gl, c', rfl, _, hrow⟩
    · rw [GF.out.1] at h1; cases h1
    have X2 := Lib.hid ((rw_of_blk (rest := []) (gotN xs) (by rw [List.append_nil]; exact hrow)).congr (fun i hi => GF.out.2.2 i (by rw [GF.out.2.1] at hi; exact hi)))
    rw [GF.out.2.1] at X2 ⊢
    clear b2 hrow C1 GF
    go_wp2_with fail
    refine (Same_t n c' n c _ p G G w2 (by have := H6.out; omega) hn X2.out C2.out.r1).mono ?_
    rintro e w3 ⟨rfl, b3⟩
    rw [show sameN n G n G = true from sameN_of rfl (fun _ _ => rfl)]
    have C3 := Lib.hid (C2.out.below b3)
    clear b3 C2 X2
    have i2 : ((L : Int) == 0) = false := by rw [beq_eq_false_iff_ne]; have := HX.out; omega
    have i3 : (L : Int) ≠ 0 := by have := HX.out; omega
    have i4 : IntKind.u64.wrap (L : Int) = (L : Int) := IntWalk.u64_in _ (by have := HX.out; omega)
    have hs1 := slice_high (P := Try.prog) (t := 25) (e := 5) Try.underlying25 byte_size (some ⟨g, 0, none⟩) L ca .i64 j (by omega)
    go_wp2_with fail
    clear i2 i3 i4 hs1 hje
    have HTL := Lib.hid (show (xs.take j).length = j by rw [List.length_take, HL.out]; omega)
    refine (Get_t (xs.take j) _ j ca w3 HTL.out (C3.out.sr.take j) (bytes_take PB.out j) (by have := HX.out; omega)).mono ?_
    rintro e w4 ⟨b4, hh⟩
    have C4 := Lib.hid (C3.out.below b4)
    obtain rfl : e = .returned (.tuple #[.slice none 0 0, .int .i64 2]) := by
      rcases hh with ⟨_, h⟩ | ⟨h1, _⟩
      · exact h
      · rw [TJ.out] at h1; cases h1
    clear b4 C3 HTL TJ hh
    have SA := Lib.hid (C4.out.sr.below ((Below.refl w4.heap.size w4).alloc (Nat.le_refl _) (.cells #[] 5)))
    have l1 : L ≤ 1000 := by have := HX.out; omega
    go_wp2_with (first
      | ((with_reducible refine at_op (.call { callee := .builtin .append, args := #[.tmp 73, .tmp 74], argTypes := #[25, 25] }) rfl ?_); go_must (refine append_bytes (.tmp 73) (.tmp 74) 25 rfl rfl 5 Try.underlying25 byte_info w4.heap.size (.slice (some ⟨w4.heap.size, 0, none⟩) 0 0) 0 [] xs rfl (own_emptyT _ _ (Nat.le_refl _)) (some ⟨g, 0, none⟩) L ca rfl HL.out SA.out (by omega) (by simp) ?_); intro v1 w5 a1 a2 a3; have O5 := Lib.hid (own_below (own_zero a1.out) ((Below.refl _ _).alloc (Nat.le_refl _) (.cells #[.int .u8 (x : Int)] 5))); have HB5 := Lib.hid (grown_size a2.out (.cells #[.int .u8 (x : Int)] 5)); have SM5 := Lib.hid (Sr.made [x] w5 5 (0, 0)))
      | ((with_reducible refine at_op (.call { callee := .builtin .append, args := #[.tmp 75, .tmp 77], argTypes := #[25, 25] }) rfl ?_); go_must (refine append_bytes (.tmp 75) (.tmp 77) 25 rfl rfl 5 Try.underlying25 byte_info w4.heap.size v1 L xs [x] rfl O5.out (some ⟨w5.heap.size, 0, none⟩) 1 1 rfl rfl SM5.out (by omega) HB5.out ?_); intro v2 w6 a4 a5 a6))
    have bk1 : Below w4.heap.size w4 w5 := ((Below.refl w4.heap.size w4).alloc (Nat.le_refl _) (.cells #[] 5)).grown a2.out (by simp) (fun k e => by have := Option.some.inj e; simp at this; omega)
    have bk : Below w4.heap.size w4 w6 := (bk1.alloc bk1.size _).grown a5.out HB5.out (fun k e => (O5.out.lt k e).1)
    obtain ⟨A2, c3, rfl, _⟩ := own_form a4.out
    have C6 := Lib.hid (C4.out.below bk); have S6 := Lib.hid (Sr.of_own a4.out)
    have AB := Lib.hid (app_bytes PB.out (one_bytesT x hx))
    have AL := Lib.hid (show (xs ++ [x]).length = L + 1 by rw [List.length_append, HL.out]; rfl)
    clear bk1 bk a1 a2 a3 a4 a5 a6 O5 HB5 SM5 SA C4
    refine (Get_t (xs ++ [x]) A2 (L + 1) c3 w6 AL.out S6.out AB.out (by omega)).mono ?_
    rintro e w7 ⟨b7, hh⟩
    have C7 := Lib.hid (C6.out.below b7)
    obtain rfl : e = .returned (.tuple #[.slice none 0 0, .int .i64 2]) := by
      rcases hh with ⟨_, h⟩ | ⟨h1, _⟩
      · exact h
      · rw [GN.out] at h1; cases h1
    clear b7 C6 hh S6 AB AL GN
    cases hmb : mayP m H with
    | false =>
      have HM := Lib.hid hmb
      clear hmb PI
      go_wp2_with fail
      refine (Put_no m c2 q H w7 hm C7.out.r2 HM.out).mono ?_
      rintro e w8 ⟨rfl, b8⟩
      have C8 := Lib.hid (C7.out.below b8)
      clear b8 C7
      go_wp2_with fail
      refine (ttold_t _).mono ?_
      rintro e w9 ⟨rfl, b9⟩
      have B9 := Lib.hid (C8.out.below b9)
      clear b9
      go_wp2_with fail
      go_ret
      exact ⟨rfl, B9.out.bel⟩
    | true =>
      have PE := Lib.hid (PI.out hmb)
      have PB2 := Lib.hid (putN_bytes m H)
      have PL2 := Lib.hid (putN_length hmb)
      have PY := Lib.hid (Put_yes m c2 q H w7 C7.out.r2 hmb)
      obtain ⟨ys, hys⟩ : ∃ ys, putN m H = ys := ⟨_, rfl⟩
      rw [hys] at PE PB2 PL2 PY
      clear hys hmb PI
      go_wp2_with fail
      refine PY.out.mono ?_
      rintro e w8 ⟨u, rfl, o8, b8⟩
      obtain ⟨A8, c8, rfl, _⟩ := own_form o8
      have C8 := Lib.hid (C7.out.below b8); have S8 := Lib.hid (Sr.of_own o8)
      clear o8 b8 C7 PY
      go_wp2_with fail
      refine (ttold_t _).mono ?_
      rintro e w9 ⟨rfl, b9⟩
      have C9 := Lib.hid (C8.out.below b9); have S9 := Lib.hid (S8.out.below b9)
      clear b9 C8 S8
      go_wp2_with fail
      refine (same_textsT xs ys _ _ L ys.length ca c8 w9 HL.out rfl C9.out.sr S9.out PB.out PB2.out).mono ?_
      rintro e w10 ⟨rfl, rfl⟩
      go_wp2_with fail
      refine (Same_t n c m c2 p q G H w9 hn hm C9.out.r1 C9.out.r2).mono ?_
      rintro e w10 ⟨rfl, b10⟩
      rw [PE.out]
      have CA := Lib.hid (C9.out.below b10)
      obtain ⟨zb, hzb⟩ : ∃ z, decide (xs = ys) = z := ⟨_, rfl⟩
      rw [hzb]
      clear b10 hzb C9 S9 PE
      go_wp2_with fail
      go_ret
      exact ⟨by simp, CA.out.bel⟩
end Go.Proofs.Ytlaiblgnjppmnaa
