/-
  TupleTurned walked.
-/
import Derived.Test.YtlaiblgnjppmnaaTpT
namespace Go.Proofs.Ytlaiblgnjppmnaa
open Go Go.RowKit Sh

theorem own_monoT {w : World} {base base' : Nat} {e : TypeId} {size : Nat} {v : Value} {n : Nat} {xs : List Value} (h : w.ownsRow base e size v n xs) (hb : base' ≤ base) : w.ownsRow base' e size v n xs := own_base h (fun k hk => Nat.le_trans hb (h.lt k hk).1)
theorem own_formT {w : World} {base : Nat} {e : TypeId} {v : Value} {n : Nat} {xs : List Value} (h : w.ownsRow base e 1 v n xs) (hn : 0 < n) : ∃ g c, v = .slice (some ⟨g, 0, none⟩) n c ∧ n ≤ c := by
  rcases h.2 with ⟨_, h0⟩ | ⟨g, cap, cur, rfl, _, _, hc, _⟩
  · omega
  · exact ⟨g, cap, rfl, hc⟩
theorem own_turnT {w : World} {base g c n : Nat} {l : List Nat} (h : w.ownsRow base 5 1 (.slice (some ⟨g, 0, none⟩) n c) n (u8s l)) (j y : Nat) :
    (w.setCell ⟨g, j, none⟩ (.int .u8 (y : Int))).ownsRow base 5 1 (.slice (some ⟨g, 0, none⟩) n c) n (u8s (l.set j y)) := by
  rw [← u8s_set]
  exact (h.stored j _).1
theorem mod_bigT (m : Nat) (hm : 0 < m) (hm2 : m ≤ 1000000) (n : Int) : ∃ k : Nat, k < m ∧ wrap64 ((IntKind.u64.wrap n).tmod (m : Int)) = (k : Int) := by
  have h0 : 0 ≤ IntKind.u64.wrap n := by simp [IntKind.wrap, IntKind.bits, IntKind.signed]; omega
  rw [Int.tmod_eq_emod_of_nonneg h0]
  generalize IntKind.u64.wrap n = x at *
  have h3 : 0 ≤ x % (m : Int) := Int.emod_nonneg _ (by omega)
  have h4 : x % (m : Int) < (m : Int) := Int.emod_lt_of_pos _ (by omega)
  refine ⟨(x % (m : Int)).toNat, by omega, ?_⟩
  generalize x % (m : Int) = y at *
  unfold wrap64
  omega
theorem xor_u8T (a x : Nat) (ha : a < 256) (hx : x < 256) : bits .xor .u8 (a : Int) (x : Int) = ((a ^^^ x : Nat) : Int) := by
  show IntKind.u8.wrap ((BitVec.ofInt 8 (a : Int) ^^^ BitVec.ofInt 8 (x : Int)).toNat : Int) = _
  have e1 : ∀ y : Nat, y < 256 → (BitVec.ofInt 8 (y : Int)).toNat = y := fun y hy => by simp; omega
  have h : a ^^^ x < 256 := Nat.xor_lt_two_pow (n := 8) ha hx
  rw [BitVec.toNat_xor, e1 a ha, e1 x hx]
  exact IntWalk.u8_in _ (by omega)
theorem set_bytesT {l : List Nat} (hb : Bytes l) (j x : Nat) (hx : x < 256) : Bytes (l.set j (gt l j ^^^ x)) := sl_bytes (fun y hy => by
    rcases List.mem_or_eq_of_mem_set hy with h | rfl
    · obtain ⟨q, hq, rfl⟩ := List.getElem_of_mem h
      have := hb q
      rwa [gt_of_lt hq] at this
    · exact Nat.xor_lt_two_pow (n := 8) (hb j) hx)
theorem set_iff {l : List Nat} {j x : Nat} (hj : j < l.length) : l.set j (gt l j ^^^ x) = l ↔ x = 0 := by
  constructor
  · intro h
    have h1 : (l.set j (gt l j ^^^ x))[j]? = l[j]? := by rw [h]
    rw [List.getElem?_set_self hj, List.getElem?_eq_getElem hj] at h1
    have h2 := Option.some.inj h1
    rw [gt_of_lt hj] at h2
    have h3 : l[j] ^^^ (l[j] ^^^ x) = l[j] ^^^ l[j] := by rw [h2]
    rwa [← Nat.xor_assoc, Nat.xor_self, Nat.zero_xor] at h3
  · rintro rfl
    rw [Nat.xor_zero, gt_of_lt hj]
    exact List.set_getElem_self hj
/-- What a turned byte makes of a template's bytes. -/
theorem turn_get {n : Nat} {G : Nat → Fld} {j x : Nat} (hm : mayP n G = true) (hr : ∀ i, i < n → InR (G i)) (hj : j < (putN n G).length) (hx : x < 256) :
    (getOK ((putN n G).set j (gt (putN n G) j ^^^ x)) = false → x ≠ 0) ∧
    (getOK ((putN n G).set j (gt (putN n G) j ^^^ x)) = true → mayP (cntN ((putN n G).set j (gt (putN n G) j ^^^ x))) (gotN ((putN n G).set j (gt (putN n G) j ^^^ x))) = true ∧
      putN (cntN ((putN n G).set j (gt (putN n G) j ^^^ x))) (gotN ((putN n G).set j (gt (putN n G) j ^^^ x))) = (putN n G).set j (gt (putN n G) j ^^^ x) ∧
      sameN n G (cntN ((putN n G).set j (gt (putN n G) j ^^^ x))) (gotN ((putN n G).set j (gt (putN n G) j ^^^ x))) = decide (x = 0)) := by
  have hb := set_bytesT (putN_bytes n G) j x hx
  have hs := set_iff (x := x) hj
  obtain ⟨ys, hys⟩ : ∃ ys, (putN n G).set j (gt (putN n G) j ^^^ x) = ys := ⟨_, rfl⟩
  rw [hys] at hb hs ⊢
  obtain ⟨g1, g2, g3⟩ := get_front_ok hm hr
  constructor
  · intro h h0
    rw [hs.2 h0, g1] at h
    cases h
  · intro h
    obtain ⟨e1, e2, _⟩ := get_back hb h
    refine ⟨e2, e1.symm, ?_⟩
    by_cases h0 : x = 0
    · rw [decide_eq_true h0]
      have := hs.2 h0
      subst this
      exact sameN_of g2.symm (fun i hi => (g3 i hi).symm)
    · rw [decide_eq_false h0]
      cases hq : sameN n G (cntN ys) (gotN ys) with
      | false => rfl
      | true =>
        obtain ⟨q1, q2⟩ := sameN_iff.1 hq
        exfalso
        apply h0
        apply hs.1
        rw [e1, ← q1, putN, putN, catF_congr n (fun i hi => q2 i hi)]
set_option maxRecDepth 100000 in
set_option maxHeartbeats 1000000 in
theorem turned_t (n c : Nat) (p : Option Addr) (G : Nat → Fld) (at_ : Int) (x : Nat) (w : World) (hn : n ≤ 9223372036854775807) (hr : Rw w p n G) (hir : ∀ j, j < n → InR (G j)) (hx : x < 256) :
    Calls Try.prog 3 #[.slice p n c, .int .i64 at_, .int .u8 (x : Int)] w fun e w' => e = .returned (.bool true) ∧ Below w.heap.size w w' := by
  have FW := Lib.hid (few_t n c p G w hn hr)
  have MW := Lib.hid (MayTemplate_t n c p G w hn hr)
  have HR := Lib.hid hr
  have B0 := Lib.hid (Below.refl w.heap.size w)
  obtain ⟨fb, hfb⟩ : ∃ b, fewL n G = b := ⟨_, rfl⟩
  obtain ⟨mb, hmb⟩ : ∃ b, mayP n G = b := ⟨_, rfl⟩
  rw [hfb] at FW
  rw [hmb] at MW
  have MB := Lib.hid hmb
  clear hfb hmb hr
  cases fb with
  | false =>
    go_enter Try.func3, Try.ntmps3
    go_wp2_with fail
    refine FW.out.mono ?_
    rintro e w1 ⟨rfl, rfl⟩
    go_wp2_with fail
    refine (ttold_t _).mono ?_
    rintro e w9 ⟨rfl, b9⟩
    have B9 := Lib.hid (B0.out.trans (b9.mono B0.out.size))
    clear b9
    go_wp2_with fail
    go_ret
    exact ⟨by simp, B9.out⟩
  | true =>
    cases mb with
    | false =>
      go_enter Try.func3, Try.ntmps3
      go_wp2_with fail
      refine FW.out.mono ?_
      rintro e w1 ⟨rfl, rfl⟩
      go_wp2_with fail
      refine MW.out.mono ?_
      rintro e w1 ⟨rfl, b1⟩
      have B1 := Lib.hid b1
      clear b1 B0
      go_wp2_with fail
      refine (ttold_t _).mono ?_
      rintro e w9 ⟨rfl, b9⟩
      have B9 := Lib.hid (B1.out.trans (b9.mono B1.out.size))
      clear b9
      go_wp2_with fail
      go_ret
      exact ⟨by simp, B9.out⟩
    | true =>
      have PL := Lib.hid (putN_length MB.out)
      have PB := Lib.hid (putN_bytes n G)
      have TG := Lib.hid (fun j hj => turn_get (j := j) (x := x) MB.out hir hj hx)
      have PY := Lib.hid (fun W (h : Below w.heap.size w W) => Put_yes n c p G W (HR.out.below h) MB.out)
      obtain ⟨xs, hxs⟩ : ∃ xs, putN n G = xs := ⟨_, rfl⟩
      rw [hxs] at PL PB
      simp only [hxs] at TG PY
      obtain ⟨L, hL⟩ : ∃ L, xs.length = L := ⟨_, rfl⟩
      rw [hL] at PL
      simp only [hL] at TG PY
      obtain ⟨j, hj, hje⟩ := mod_bigT L (by have := PL.out; omega) (by have := PL.out; omega) at_
      have HL := Lib.hid hL
      have HX := Lib.hid (show L ≤ 271 ∧ 0 < L from PL.out)
      clear hxs hL PL MB
      go_enter Try.func3, Try.ntmps3
      go_wp2_with fail
      refine FW.out.mono ?_
      rintro e w1 ⟨rfl, rfl⟩
      go_wp2_with fail
      refine MW.out.mono ?_
      rintro e w1 ⟨rfl, b1⟩
      have B1 := Lib.hid b1
      clear b1 B0 FW MW
      go_wp2_with fail
      refine (PY.out w1 B1.out).mono ?_
      rintro e w2 ⟨u, rfl, o2, b2⟩
      obtain ⟨g, c2, rfl, hc2⟩ := own_formT o2 HX.out.2
      have O2 := Lib.hid (own_monoT o2 B1.out.size); have B2 := Lib.hid (B1.out.trans (b2.mono B1.out.size))
      clear o2 b2 B1 PY
      have cj : w2.cell? ⟨g, j, none⟩ = some (.int .u8 ((gt xs j : Nat) : Int)) := by rw [O2.out.cellAt j (by omega), u8s_get _ _ (by rw [HL.out]; exact hj)]
      have fj := O2.out.frozenAt j
      have hxx := xor_u8T (gt xs j) x (PB.out j) hx
      have i1 : (j : Int) < (L : Int) := by omega
      have i2 : ((L : Int) == 0) = false := by rw [beq_eq_false_iff_ne]; have := HX.out; omega
      have i3 : (L : Int) ≠ 0 := by have := HX.out; omega
      have i4 : IntKind.u64.wrap (L : Int) = (L : Int) := IntWalk.u64_in _ (by have := HX.out; omega)
      go_upto_region 8 with (fail)
      clear cj fj hxx i2 i3 i4 hje
      have TJ := TG.out j hj
      have YL := Lib.hid (show (xs.set j (gt xs j ^^^ x)).length = L by rw [List.length_set, HL.out])
      have YB := Lib.hid (set_bytesT PB.out j x hx)
      have oy := own_turnT O2.out j (gt xs j ^^^ x)
      have by_ := B2.out.setCell (p := ⟨g, j, none⟩) (O2.out.lt g rfl).1 (.int .u8 ((gt xs j ^^^ x : Nat) : Int))
      obtain ⟨ys, hys⟩ : ∃ ys, xs.set j (gt xs j ^^^ x) = ys := ⟨_, rfl⟩
      rw [hys] at TJ YL YB oy
      refine world_at (fun Y => Y.ownsRow w.heap.size 5 1 (.slice (some ⟨g, 0, none⟩) L c2) L (u8s ys) ∧ Below w.heap.size w Y) ⟨oy, by_⟩ ?_
      rintro Y ⟨oy, bY⟩
      have OY := Lib.hid oy; have BY := Lib.hid bY
      have TN := Lib.hid TJ.1; have TY := Lib.hid TJ.2
      clear oy bY by_ hys O2 B2 TG PB HL TJ
      go_wp2_with fail
      refine (Get_t ys _ L c2 Y YL.out (Sr.of_own OY.out) YB.out (by have := HX.out; omega)).mono ?_
      rintro e w3 ⟨b3, hh⟩
      have O3 := Lib.hid (own_below OY.out b3); have B3 := Lib.hid (BY.out.trans (b3.mono BY.out.size))
      clear OY BY b3
      rcases hh with ⟨hno, rfl⟩ | ⟨hyes, gl, c', rfl, _, hrow⟩
      · have hx0 := TN.out hno
        have e1 : ((x : Int) != 0) = true := by rw [bne_iff_ne]; omega
        clear TY TN hno hx0
        go_wp2_with fail
        refine (ttold_t _).mono ?_
        rintro e w9 ⟨rfl, b9⟩
        have B9 := Lib.hid (B3.out.trans (b9.mono B3.out.size))
        clear b9
        go_wp2_with fail
        go_ret
        exact ⟨rfl, B9.out⟩
      · obtain ⟨t1, t2, t3⟩ := TY.out hyes
        have t2' := t2
        have RQ := Lib.hid (rw_of_blk (rest := []) (gotN ys) (by rw [List.append_nil]; exact hrow))
        have hc6 := (mayP_iff t1).2.1
        obtain ⟨m, hm⟩ : ∃ m, cntN ys = m := ⟨_, rfl⟩
        obtain ⟨K, hK⟩ : ∃ K, gotN ys = K := ⟨_, rfl⟩
        rw [hm, hK] at t1 t2 t3 RQ
        rw [hm] at hc6 ⊢
        have T1 := Lib.hid t1; have T2 := Lib.hid t2; have T3 := Lib.hid t3
        clear t1 t2 t3 t2' TY TN hyes hrow hm hK
        go_wp2_with fail
        refine (Put_yes m c' _ K w3 RQ.out T1.out).mono ?_
        rintro e w4 ⟨u2, rfl, o4, b4⟩
        rw [T2.out] at o4
        rw [YL.out] at o4
        obtain ⟨g4, c4, rfl, _⟩ := own_formT o4 HX.out.2
        have O4 := Lib.hid o4; have B4 := Lib.hid (B3.out.trans (b4.mono B3.out.size)); have O3b := Lib.hid (own_below O3.out b4); have RQ4 := Lib.hid (RQ.out.below b4)
        clear o4 b4 O3 B3 RQ
        go_wp2_with fail
        refine (ttold_t _).mono ?_
        rintro e w5 ⟨rfl, b5⟩
        have O5 := Lib.hid (own_below O4.out b5); have B5 := Lib.hid (B4.out.trans (b5.mono B4.out.size)); have O5b := Lib.hid (own_below O3b.out b5); have RQ5 := Lib.hid (RQ4.out.below b5)
        clear b5 O4 B4 O3b RQ4
        go_wp2_with fail
        refine (same_textsT ys ys _ _ L L c2 c4 w5 YL.out YL.out (Sr.of_own O5b.out) (Sr.of_own O5.out) YB.out YB.out).mono ?_
        rintro e w6 ⟨rfl, rfl⟩
        rw [show decide (ys = ys) = true from decide_eq_true rfl]
        clear O5 O5b YB YL
        go_wp2_with fail
        refine (Same_t n c m c' p _ G K w5 hn (by omega) (HR.out.below B5.out) RQ5.out).mono ?_
        rintro e w6 ⟨rfl, b6⟩
        rw [T3.out]
        have B6 := Lib.hid (B5.out.trans (b6.mono B5.out.size))
        have e2 : (((x : Int) == 0) : Bool) = decide (x = 0) := by
          by_cases h : x = 0
          · subst h; rfl
          · rw [decide_eq_false h, beq_eq_false_iff_ne]; omega
        obtain ⟨zb, hzb⟩ : ∃ z, decide (x = 0) = z := ⟨_, rfl⟩
        rw [hzb] at e2 ⊢
        clear b6 hzb B5 RQ5 T1 T2 T3
        go_wp2_with fail
        go_ret
        exact ⟨by simp, B6.out⟩
end Go.Proofs.Ytlaiblgnjppmnaa
