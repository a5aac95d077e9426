/-
  THE REFERENCE of chapter 7: Reads, Writes, MayRequest.
-/
import Derived.Test.YtigbnjgmdgkgjaaDoorOpA
import Derived.Test.YtigbnjgmdgkgjaaDoorTrA
namespace Go.Proofs.YtigbnjgmdgkgjaaDoor
open Go Go.RowKit Sh

theorem refReads_t (k : Int) (w : World) : Calls Tryd.prog 19 #[.int .i64 k] w fun e w' => e = .returned (.bool (rdK k)) ∧ w = w' := by
  by_cases h : k = 2 ∨ k = 3 ∨ k = 4 ∨ k = 5 ∨ k = 6 ∨ k = 7
  · rcases h with rfl | rfl | rfl | rfl | rfl | rfl
    all_goals
      go_enter Tryd.func19, Tryd.ntmps19
      go_wp2
      go_ret
      exact ⟨rfl, rfl⟩
  · have hr : rdK k = false := by unfold rdK; simp; omega
    rw [hr]
    have e2 : (k == 2) = false := by rw [beq_eq_false_iff_ne]; omega
    have e3 : (k == 3) = false := by rw [beq_eq_false_iff_ne]; omega
    have e4 : (k == 4) = false := by rw [beq_eq_false_iff_ne]; omega
    have e5 : (k == 5) = false := by rw [beq_eq_false_iff_ne]; omega
    have e6 : (k == 6) = false := by rw [beq_eq_false_iff_ne]; omega
    have e7 : (k == 7) = false := by rw [beq_eq_false_iff_ne]; omega
    clear h hr
    go_enter Tryd.func19, Tryd.ntmps19
    go_wp2
    go_ret
    exact ⟨rfl, rfl⟩
theorem refWrites_t (k : Int) (w : World) : Calls Tryd.prog 21 #[.int .i64 k] w fun e w' => e = .returned (.bool (wrK k)) ∧ w = w' := by
  by_cases h : k = 1 ∨ k = 3 ∨ k = 5 ∨ k = 6 ∨ k = 7
  · rcases h with rfl | rfl | rfl | rfl | rfl
    all_goals
      go_enter Tryd.func21, Tryd.ntmps21
      go_wp2
      go_ret
      exact ⟨rfl, rfl⟩
  · have hr : wrK k = false := by unfold wrK; simp; omega
    rw [hr]
    have e2 : (k == 1) = false := by rw [beq_eq_false_iff_ne]; omega
    have e3 : (k == 3) = false := by rw [beq_eq_false_iff_ne]; omega
    have e5 : (k == 5) = false := by rw [beq_eq_false_iff_ne]; omega
    have e6 : (k == 6) = false := by rw [beq_eq_false_iff_ne]; omega
    have e7 : (k == 7) = false := by rw [beq_eq_false_iff_ne]; omega
    clear h hr
    go_enter Tryd.func21, Tryd.ntmps21
    go_wp2
    go_ret
    exact ⟨rfl, rfl⟩
/-- A request at hand, boxed. -/
structure OM (w0 W : World) (x : Rv) (xs : List Value) : Prop where
  box : Blk W w0.heap.size 24 xs
  rx : RvW W x
  bel : Below w0.heap.size w0 W
theorem OM.below {w0 W W' : World} {x : Rv} {xs : List Value} (h : OM w0 W x xs) (hb : Below W.heap.size W W') : OM w0 W' x xs := ⟨h.box.below hb h.box.lt, h.rx.below hb, h.bel.trans (hb.mono h.bel.size)⟩
set_option maxRecDepth 100000 in
set_option maxHeartbeats 10000000 in
theorem refMay_r (x : Rv) (w : World) (h : RvW w x) : Calls Tryd.prog 9 #[.agg (rv x).toArray] w fun e w' => e = .returned (.bool (mayR x.r)) ∧ Below w.heap.size w w' := by
  have M0 := Lib.hid (show OM w (w.alloc (.cells (rv x).toArray 24)) x (rv x) from ⟨Blk.new w _ _, h.below ((Below.refl _ _).alloc (Nat.le_refl _) _), (Below.refl _ _).alloc (Nat.le_refl _) _⟩)
  have RD := Lib.hid (fun W => refReads_t x.r.kd W)
  have MP := Lib.hid (fun W (c : OM w W x (rv x)) => refmayP_t x.r.n x.c x.p x.r.G W h.n c.rx.p)
  have MV := Lib.hid (fun W (c : OM w W x (rv x)) => refmayV_t x.r.m x.d x.t x.r.H W h.m c.rx.t)
  have hf : mayR x.r = ((decide (0 ≤ x.r.cl) && decide (x.r.cl < 4)) && ((decide (1 ≤ x.r.sq) && decide (x.r.sq ≤ 1073741824)) && isK x.r.kd) && (findB x.r && bringB x.r)) := rfl
  have hff : findB x.r = if rdK x.r.kd then mayP x.r.n x.r.G else decide (x.r.n = 0) := rfl
  have hbb : bringB x.r = if brK x.r.kd then mayV x.r.m x.r.H && (decide (0 ≤ x.r.le) && decide (x.r.le ≤ 1099511627776)) else decide (x.r.m = 0) && (x.r.le == 0) := rfl
  obtain ⟨c0, c1, c2, c3, c4, c5⟩ := rv_cells M0.out.box
  obtain ⟨xs, hxs⟩ : ∃ l, rv x = l := ⟨_, rfl⟩
  rw [hxs] at M0 MP MV c0 c1 c2 c3 c4 c5 ⊢
  obtain ⟨mp, hmp⟩ : ∃ n, mayP x.r.n x.r.G = n := ⟨_, rfl⟩
  obtain ⟨mv, hmv⟩ : ∃ n, mayV x.r.m x.r.H = n := ⟨_, rfl⟩
  obtain ⟨fb, hfb⟩ : ∃ n, findB x.r = n := ⟨_, rfl⟩
  obtain ⟨bb, hb2⟩ : ∃ n, bringB x.r = n := ⟨_, rfl⟩
  obtain ⟨cl, hcl⟩ : ∃ n, x.r.cl = n := ⟨_, rfl⟩
  obtain ⟨sq, hsq⟩ : ∃ n, x.r.sq = n := ⟨_, rfl⟩
  obtain ⟨kd, hkd⟩ : ∃ n, x.r.kd = n := ⟨_, rfl⟩
  obtain ⟨le, hle⟩ : ∃ n, x.r.le = n := ⟨_, rfl⟩
  obtain ⟨n, hn⟩ : ∃ n, x.r.n = n := ⟨_, rfl⟩
  obtain ⟨m, hm⟩ : ∃ n, x.r.m = n := ⟨_, rfl⟩
  rw [hmp] at MP hff
  rw [hmv] at MV hbb
  rw [hfb] at hf hff
  rw [hb2] at hf hbb
  rw [hcl] at c0 hf
  rw [hsq] at c1 hf
  rw [hkd] at c2 hf hff hbb RD
  obtain ⟨rb, hrb⟩ : ∃ n, rdK kd = n := ⟨_, rfl⟩
  rw [hrb] at RD hff
  rw [hle] at c5 hbb
  rw [hn] at c3 MP hff
  rw [hm] at c4 MV hbb
  rw [hf]
  have FF := Lib.hid hff
  have C5 := Lib.hid c5; have C2 := Lib.hid c2; have C3 := Lib.hid c3
  unfold isK
  clear hrb h hf hff hxs hmp hmv hfb hb2 hcl hsq hkd hle hn hm c5
  by_cases h1 : 0 ≤ cl
  · rw [decide_eq_true h1, Bool.true_and]
    by_cases h2 : cl < 4
    · rw [decide_eq_true h2, Bool.true_and]
      by_cases h3 : 1 ≤ sq
      · rw [decide_eq_true h3, Bool.true_and]
        by_cases h4 : sq ≤ 1073741824
        · rw [decide_eq_true h4, Bool.true_and]
          by_cases k1 : 1 ≤ kd
          · rw [decide_eq_true k1, Bool.true_and]
            by_cases k8 : kd ≤ 8
            · rw [decide_eq_true k8, Bool.true_and]
              have hk : kd = 1 ∨ kd = 2 ∨ kd = 3 ∨ kd = 4 ∨ kd = 5 ∨ kd = 6 ∨ kd = 7 ∨ kd = 8 := by omega
              rcases hk with rfl | rfl | rfl | rfl | rfl | rfl | rfl | rfl
              · skip
                have BF := Lib.hid (show bb = _ from hbb.trans (if_pos (show brK 1 = true from rfl)))
                clear hbb k1 k8
                cases mv with
                | false =>
                  have BE := Lib.hid (show bb = false from BF.out)
                  clear BF
                  obtain rfl := BE.out
                  rw [Bool.and_false]
                  go_enter Tryd.func9, Tryd.ntmps9
                  go_wp2_with fail
                  refine (MV.out _ M0.out).mono ?_
                  rintro e w2 ⟨rfl, b2⟩
                  have M2 := Lib.hid (M0.out.below b2)
                  clear b2
                  go_wp2_with fail
                  go_ret
                  exact ⟨rfl, M2.out.bel⟩
                | true =>
                  by_cases l0 : 0 ≤ le
                  · by_cases lm : le ≤ 1099511627776
                    · have BE := Lib.hid (show bb = true from BF.out.trans (by simp [l0, lm]))
                      clear BF
                      obtain rfl := BE.out
                      rw [Bool.and_true]
                      go_enter Tryd.func9, Tryd.ntmps9
                      go_wp2_with fail
                      refine (MV.out _ M0.out).mono ?_
                      rintro e w2 ⟨rfl, b2⟩
                      have M2 := Lib.hid (M0.out.below b2)
                      have c5 := (b2.cell (p := ⟨w.heap.size, 5, none⟩) M0.out.box.lt).trans C5.out
                      have c2 := (b2.cell (p := ⟨w.heap.size, 2, none⟩) M0.out.box.lt).trans C2.out
                      have c3 := (b2.cell (p := ⟨w.heap.size, 3, none⟩) M0.out.box.lt).trans C3.out
                      clear b2 c0 c1
                      cases rb with
                      | true =>
                        have FE := Lib.hid (show fb = mp from FF.out)
                        clear FF
                        go_wp2_with fail
                        refine (RD.out _).mono ?_
                        rintro e w3 ⟨rfl, rfl⟩
                        go_wp2_with fail
                        refine (MP.out _ M2.out).mono ?_
                        rintro e w4 ⟨rfl, b4⟩
                        have M4 := Lib.hid (M2.out.below b4)
                        clear b4
                        go_wp2_with fail
                        go_ret
                        exact ⟨by have h := FE.out; subst h; rfl, M4.out.bel⟩
                      | false =>
                        have FE := Lib.hid (show fb = decide (n = 0) from FF.out)
                        clear FF
                        go_wp2_with fail
                        refine (RD.out _).mono ?_
                        rintro e w3 ⟨rfl, rfl⟩
                        go_wp2_with fail
                        go_ret
                        exact ⟨by
                          rw [FE.out]
                          by_cases h0 : n = 0
                          · subst h0; rfl
                          · simp [h0], M2.out.bel⟩
                    · have BE := Lib.hid (show bb = false from BF.out.trans (by simp; omega))
                      clear BF
                      obtain rfl := BE.out
                      rw [Bool.and_false]
                      have lm2 : 1099511627776 < le := by omega
                      go_enter Tryd.func9, Tryd.ntmps9
                      go_wp2_with fail
                      refine (MV.out _ M0.out).mono ?_
                      rintro e w2 ⟨rfl, b2⟩
                      have M2 := Lib.hid (M0.out.below b2)
                      have c5 := (b2.cell (p := ⟨w.heap.size, 5, none⟩) M0.out.box.lt).trans C5.out
                      clear b2
                      go_wp2_with fail
                      go_ret
                      exact ⟨rfl, M2.out.bel⟩
                  · have BE := Lib.hid (show bb = false from BF.out.trans (by simp; omega))
                    clear BF
                    obtain rfl := BE.out
                    rw [Bool.and_false]
                    have lm2 : le < 0 := by omega
                    go_enter Tryd.func9, Tryd.ntmps9
                    go_wp2_with fail
                    refine (MV.out _ M0.out).mono ?_
                    rintro e w2 ⟨rfl, b2⟩
                    have M2 := Lib.hid (M0.out.below b2)
                    have c5 := (b2.cell (p := ⟨w.heap.size, 5, none⟩) M0.out.box.lt).trans C5.out
                    clear b2
                    go_wp2_with fail
                    go_ret
                    exact ⟨rfl, M2.out.bel⟩
              · skip
                have BF := Lib.hid (show bb = _ from hbb.trans (if_neg (show ¬ brK 2 = true by decide)))
                clear hbb k1 k8 MV
                have c5 := C5.out
                by_cases m0 : m = 0
                · subst m0
                  cases el : (le == 0) with
                  | true =>
                    have BE := Lib.hid (show bb = true from BF.out.trans (by rw [el]; rfl))
                    have el2 : (le != 0) = false := by rw [bne, el]; rfl
                    clear BF
                    obtain rfl := BE.out
                    rw [Bool.and_true]
                    go_enter Tryd.func9, Tryd.ntmps9
                    go_upto_region 6 with (fail)
                    cases rb with
                    | true =>
                      have FE := Lib.hid (show fb = mp from FF.out)
                      clear FF
                      go_wp2_with fail
                      refine (RD.out _).mono ?_
                      rintro e w3 ⟨rfl, rfl⟩
                      go_wp2_with fail
                      refine (MP.out _ M0.out).mono ?_
                      rintro e w4 ⟨rfl, b4⟩
                      have M4 := Lib.hid (M0.out.below b4)
                      clear b4
                      go_wp2_with fail
                      go_ret
                      exact ⟨by have h := FE.out; subst h; rfl, M4.out.bel⟩
                    | false =>
                      have FE := Lib.hid (show fb = decide (n = 0) from FF.out)
                      clear FF
                      go_wp2_with fail
                      refine (RD.out _).mono ?_
                      rintro e w3 ⟨rfl, rfl⟩
                      go_wp2_with fail
                      go_ret
                      exact ⟨by
                        rw [FE.out]
                        by_cases h0 : n = 0
                        · subst h0; rfl
                        · simp [h0], M0.out.bel⟩
                  | false =>
                    have BE := Lib.hid (show bb = false from BF.out.trans (by rw [el]; rfl))
                    have el2 : (le != 0) = true := by rw [bne, el]; rfl
                    clear BF
                    obtain rfl := BE.out
                    rw [Bool.and_false]
                    go_enter Tryd.func9, Tryd.ntmps9
                    go_wp2_with fail
                    go_ret
                    exact ⟨rfl, M0.out.bel⟩
                · have BE := Lib.hid (show bb = false from BF.out.trans (by rw [decide_eq_false m0]; rfl))
                  have m1 : (0 : Int) < (m : Int) := by omega
                  clear BF
                  obtain rfl := BE.out
                  rw [Bool.and_false]
                  go_enter Tryd.func9, Tryd.ntmps9
                  go_wp2_with fail
                  go_ret
                  exact ⟨rfl, M0.out.bel⟩
              · skip
                have BF := Lib.hid (show bb = _ from hbb.trans (if_neg (show ¬ brK 3 = true by decide)))
                clear hbb k1 k8 MV
                have c5 := C5.out
                by_cases m0 : m = 0
                · subst m0
                  cases el : (le == 0) with
                  | true =>
                    have BE := Lib.hid (show bb = true from BF.out.trans (by rw [el]; rfl))
                    have el2 : (le != 0) = false := by rw [bne, el]; rfl
                    clear BF
                    obtain rfl := BE.out
                    rw [Bool.and_true]
                    go_enter Tryd.func9, Tryd.ntmps9
                    go_upto_region 6 with (fail)
                    cases rb with
                    | true =>
                      have FE := Lib.hid (show fb = mp from FF.out)
                      clear FF
                      go_wp2_with fail
                      refine (RD.out _).mono ?_
                      rintro e w3 ⟨rfl, rfl⟩
                      go_wp2_with fail
                      refine (MP.out _ M0.out).mono ?_
                      rintro e w4 ⟨rfl, b4⟩
                      have M4 := Lib.hid (M0.out.below b4)
                      clear b4
                      go_wp2_with fail
                      go_ret
                      exact ⟨by have h := FE.out; subst h; rfl, M4.out.bel⟩
                    | false =>
                      have FE := Lib.hid (show fb = decide (n = 0) from FF.out)
                      clear FF
                      go_wp2_with fail
                      refine (RD.out _).mono ?_
                      rintro e w3 ⟨rfl, rfl⟩
                      go_wp2_with fail
                      go_ret
                      exact ⟨by
                        rw [FE.out]
                        by_cases h0 : n = 0
                        · subst h0; rfl
                        · simp [h0], M0.out.bel⟩
                  | false =>
                    have BE := Lib.hid (show bb = false from BF.out.trans (by rw [el]; rfl))
                    have el2 : (le != 0) = true := by rw [bne, el]; rfl
                    clear BF
                    obtain rfl := BE.out
                    rw [Bool.and_false]
                    go_enter Tryd.func9, Tryd.ntmps9
                    go_wp2_with fail
                    go_ret
                    exact ⟨rfl, M0.out.bel⟩
                · have BE := Lib.hid (show bb = false from BF.out.trans (by rw [decide_eq_false m0]; rfl))
                  have m1 : (0 : Int) < (m : Int) := by omega
                  clear BF
                  obtain rfl := BE.out
                  rw [Bool.and_false]
                  go_enter Tryd.func9, Tryd.ntmps9
                  go_wp2_with fail
                  go_ret
                  exact ⟨rfl, M0.out.bel⟩
              · skip
                have BF := Lib.hid (show bb = _ from hbb.trans (if_neg (show ¬ brK 4 = true by decide)))
                clear hbb k1 k8 MV
                have c5 := C5.out
                by_cases m0 : m = 0
                · subst m0
                  cases el : (le == 0) with
                  | true =>
                    have BE := Lib.hid (show bb = true from BF.out.trans (by rw [el]; rfl))
                    have el2 : (le != 0) = false := by rw [bne, el]; rfl
                    clear BF
                    obtain rfl := BE.out
                    rw [Bool.and_true]
                    go_enter Tryd.func9, Tryd.ntmps9
                    go_upto_region 6 with (fail)
                    cases rb with
                    | true =>
                      have FE := Lib.hid (show fb = mp from FF.out)
                      clear FF
                      go_wp2_with fail
                      refine (RD.out _).mono ?_
                      rintro e w3 ⟨rfl, rfl⟩
                      go_wp2_with fail
                      refine (MP.out _ M0.out).mono ?_
                      rintro e w4 ⟨rfl, b4⟩
                      have M4 := Lib.hid (M0.out.below b4)
                      clear b4
                      go_wp2_with fail
                      go_ret
                      exact ⟨by have h := FE.out; subst h; rfl, M4.out.bel⟩
                    | false =>
                      have FE := Lib.hid (show fb = decide (n = 0) from FF.out)
                      clear FF
                      go_wp2_with fail
                      refine (RD.out _).mono ?_
                      rintro e w3 ⟨rfl, rfl⟩
                      go_wp2_with fail
                      go_ret
                      exact ⟨by
                        rw [FE.out]
                        by_cases h0 : n = 0
                        · subst h0; rfl
                        · simp [h0], M0.out.bel⟩
                  | false =>
                    have BE := Lib.hid (show bb = false from BF.out.trans (by rw [el]; rfl))
                    have el2 : (le != 0) = true := by rw [bne, el]; rfl
                    clear BF
                    obtain rfl := BE.out
                    rw [Bool.and_false]
                    go_enter Tryd.func9, Tryd.ntmps9
                    go_wp2_with fail
                    go_ret
                    exact ⟨rfl, M0.out.bel⟩
                · have BE := Lib.hid (show bb = false from BF.out.trans (by rw [decide_eq_false m0]; rfl))
                  have m1 : (0 : Int) < (m : Int) := by omega
                  clear BF
                  obtain rfl := BE.out
                  rw [Bool.and_false]
                  go_enter Tryd.func9, Tryd.ntmps9
                  go_wp2_with fail
                  go_ret
                  exact ⟨rfl, M0.out.bel⟩
              · skip
                have BF := Lib.hid (show bb = _ from hbb.trans (if_neg (show ¬ brK 5 = true by decide)))
                clear hbb k1 k8 MV
                have c5 := C5.out
                by_cases m0 : m = 0
                · subst m0
                  cases el : (le == 0) with
                  | true =>
                    have BE := Lib.hid (show bb = true from BF.out.trans (by rw [el]; rfl))
                    have el2 : (le != 0) = false := by rw [bne, el]; rfl
                    clear BF
                    obtain rfl := BE.out
                    rw [Bool.and_true]
                    go_enter Tryd.func9, Tryd.ntmps9
                    go_upto_region 6 with (fail)
                    cases rb with
                    | true =>
                      have FE := Lib.hid (show fb = mp from FF.out)
                      clear FF
                      go_wp2_with fail
                      refine (RD.out _).mono ?_
                      rintro e w3 ⟨rfl, rfl⟩
                      go_wp2_with fail
                      refine (MP.out _ M0.out).mono ?_
                      rintro e w4 ⟨rfl, b4⟩
                      have M4 := Lib.hid (M0.out.below b4)
                      clear b4
                      go_wp2_with fail
                      go_ret
                      exact ⟨by have h := FE.out; subst h; rfl, M4.out.bel⟩
                    | false =>
                      have FE := Lib.hid (show fb = decide (n = 0) from FF.out)
                      clear FF
                      go_wp2_with fail
                      refine (RD.out _).mono ?_
                      rintro e w3 ⟨rfl, rfl⟩
                      go_wp2_with fail
                      go_ret
                      exact ⟨by
                        rw [FE.out]
                        by_cases h0 : n = 0
                        · subst h0; rfl
                        · simp [h0], M0.out.bel⟩
                  | false =>
                    have BE := Lib.hid (show bb = false from BF.out.trans (by rw [el]; rfl))
                    have el2 : (le != 0) = true := by rw [bne, el]; rfl
                    clear BF
                    obtain rfl := BE.out
                    rw [Bool.and_false]
                    go_enter Tryd.func9, Tryd.ntmps9
                    go_wp2_with fail
                    go_ret
                    exact ⟨rfl, M0.out.bel⟩
                · have BE := Lib.hid (show bb = false from BF.out.trans (by rw [decide_eq_false m0]; rfl))
                  have m1 : (0 : Int) < (m : Int) := by omega
                  clear BF
                  obtain rfl := BE.out
                  rw [Bool.and_false]
                  go_enter Tryd.func9, Tryd.ntmps9
                  go_wp2_with fail
                  go_ret
                  exact ⟨rfl, M0.out.bel⟩
              · skip
                have BF := Lib.hid (show bb = _ from hbb.trans (if_pos (show brK 6 = true from rfl)))
                clear hbb k1 k8
                cases mv with
                | false =>
                  have BE := Lib.hid (show bb = false from BF.out)
                  clear BF
                  obtain rfl := BE.out
                  rw [Bool.and_false]
                  go_enter Tryd.func9, Tryd.ntmps9
                  go_wp2_with fail
                  refine (MV.out _ M0.out).mono ?_
                  rintro e w2 ⟨rfl, b2⟩
                  have M2 := Lib.hid (M0.out.below b2)
                  clear b2
                  go_wp2_with fail
                  go_ret
                  exact ⟨rfl, M2.out.bel⟩
                | true =>
                  by_cases l0 : 0 ≤ le
                  · by_cases lm : le ≤ 1099511627776
                    · have BE := Lib.hid (show bb = true from BF.out.trans (by simp [l0, lm]))
                      clear BF
                      obtain rfl := BE.out
                      rw [Bool.and_true]
                      go_enter Tryd.func9, Tryd.ntmps9
                      go_wp2_with fail
                      refine (MV.out _ M0.out).mono ?_
                      rintro e w2 ⟨rfl, b2⟩
                      have M2 := Lib.hid (M0.out.below b2)
                      have c5 := (b2.cell (p := ⟨w.heap.size, 5, none⟩) M0.out.box.lt).trans C5.out
                      have c2 := (b2.cell (p := ⟨w.heap.size, 2, none⟩) M0.out.box.lt).trans C2.out
                      have c3 := (b2.cell (p := ⟨w.heap.size, 3, none⟩) M0.out.box.lt).trans C3.out
                      clear b2 c0 c1
                      cases rb with
                      | true =>
                        have FE := Lib.hid (show fb = mp from FF.out)
                        clear FF
                        go_wp2_with fail
                        refine (RD.out _).mono ?_
                        rintro e w3 ⟨rfl, rfl⟩
                        go_wp2_with fail
                        refine (MP.out _ M2.out).mono ?_
                        rintro e w4 ⟨rfl, b4⟩
                        have M4 := Lib.hid (M2.out.below b4)
                        clear b4
                        go_wp2_with fail
                        go_ret
                        exact ⟨by have h := FE.out; subst h; rfl, M4.out.bel⟩
                      | false =>
                        have FE := Lib.hid (show fb = decide (n = 0) from FF.out)
                        clear FF
                        go_wp2_with fail
                        refine (RD.out _).mono ?_
                        rintro e w3 ⟨rfl, rfl⟩
                        go_wp2_with fail
                        go_ret
                        exact ⟨by
                          rw [FE.out]
                          by_cases h0 : n = 0
                          · subst h0; rfl
                          · simp [h0], M2.out.bel⟩
                    · have BE := Lib.hid (show bb = false from BF.out.trans (by simp; omega))
                      clear BF
                      obtain rfl := BE.out
                      rw [Bool.and_false]
                      have lm2 : 1099511627776 < le := by omega
                      go_enter Tryd.func9, Tryd.ntmps9
                      go_wp2_with fail
                      refine (MV.out _ M0.out).mono ?_
                      rintro e w2 ⟨rfl, b2⟩
                      have M2 := Lib.hid (M0.out.below b2)
                      have c5 := (b2.cell (p := ⟨w.heap.size, 5, none⟩) M0.out.box.lt).trans C5.out
                      clear b2
                      go_wp2_with fail
                      go_ret
                      exact ⟨rfl, M2.out.bel⟩
                  · have BE := Lib.hid (show bb = false from BF.out.trans (by simp; omega))
                    clear BF
                    obtain rfl := BE.out
                    rw [Bool.and_false]
                    have lm2 : le < 0 := by omega
                    go_enter Tryd.func9, Tryd.ntmps9
                    go_wp2_with fail
                    refine (MV.out _ M0.out).mono ?_
                    rintro e w2 ⟨rfl, b2⟩
                    have M2 := Lib.hid (M0.out.below b2)
                    have c5 := (b2.cell (p := ⟨w.heap.size, 5, none⟩) M0.out.box.lt).trans C5.out
                    clear b2
                    go_wp2_with fail
                    go_ret
                    exact ⟨rfl, M2.out.bel⟩
              · skip
                have BF := Lib.hid (show bb = _ from hbb.trans (if_pos (show brK 7 = true from rfl)))
                clear hbb k1 k8
                cases mv with
                | false =>
                  have BE := Lib.hid (show bb = false from BF.out)
                  clear BF
                  obtain rfl := BE.out
                  rw [Bool.and_false]
                  go_enter Tryd.func9, Tryd.ntmps9
                  go_wp2_with fail
                  refine (MV.out _ M0.out).mono ?_
                  rintro e w2 ⟨rfl, b2⟩
                  have M2 := Lib.hid (M0.out.below b2)
                  clear b2
                  go_wp2_with fail
                  go_ret
                  exact ⟨rfl, M2.out.bel⟩
                | true =>
                  by_cases l0 : 0 ≤ le
                  · by_cases lm : le ≤ 1099511627776
                    · have BE := Lib.hid (show bb = true from BF.out.trans (by simp [l0, lm]))
                      clear BF
                      obtain rfl := BE.out
                      rw [Bool.and_true]
                      go_enter Tryd.func9, Tryd.ntmps9
                      go_wp2_with fail
                      refine (MV.out _ M0.out).mono ?_
                      rintro e w2 ⟨rfl, b2⟩
                      have M2 := Lib.hid (M0.out.below b2)
                      have c5 := (b2.cell (p := ⟨w.heap.size, 5, none⟩) M0.out.box.lt).trans C5.out
                      have c2 := (b2.cell (p := ⟨w.heap.size, 2, none⟩) M0.out.box.lt).trans C2.out
                      have c3 := (b2.cell (p := ⟨w.heap.size, 3, none⟩) M0.out.box.lt).trans C3.out
                      clear b2 c0 c1
                      cases rb with
                      | true =>
                        have FE := Lib.hid (show fb = mp from FF.out)
                        clear FF
                        go_wp2_with fail
                        refine (RD.out _).mono ?_
                        rintro e w3 ⟨rfl, rfl⟩
                        go_wp2_with fail
                        refine (MP.out _ M2.out).mono ?_
                        rintro e w4 ⟨rfl, b4⟩
                        have M4 := Lib.hid (M2.out.below b4)
                        clear b4
                        go_wp2_with fail
                        go_ret
                        exact ⟨by have h := FE.out; subst h; rfl, M4.out.bel⟩
                      | false =>
                        have FE := Lib.hid (show fb = decide (n = 0) from FF.out)
                        clear FF
                        go_wp2_with fail
                        refine (RD.out _).mono ?_
                        rintro e w3 ⟨rfl, rfl⟩
                        go_wp2_with fail
                        go_ret
                        exact ⟨by
                          rw [FE.out]
                          by_cases h0 : n = 0
                          · subst h0; rfl
                          · simp [h0], M2.out.bel⟩
                    · have BE := Lib.hid (show bb = false from BF.out.trans (by simp; omega))
                      clear BF
                      obtain rfl := BE.out
                      rw [Bool.and_false]
                      have lm2 : 1099511627776 < le := by omega
                      go_enter Tryd.func9, Tryd.ntmps9
                      go_wp2_with fail
                      refine (MV.out _ M0.out).mono ?_
                      rintro e w2 ⟨rfl, b2⟩
                      have M2 := Lib.hid (M0.out.below b2)
                      have c5 := (b2.cell (p := ⟨w.heap.size, 5, none⟩) M0.out.box.lt).trans C5.out
                      clear b2
                      go_wp2_with fail
                      go_ret
                      exact ⟨rfl, M2.out.bel⟩
                  · have BE := Lib.hid (show bb = false from BF.out.trans (by simp; omega))
                    clear BF
                    obtain rfl := BE.out
                    rw [Bool.and_false]
                    have lm2 : le < 0 := by omega
                    go_enter Tryd.func9, Tryd.ntmps9
                    go_wp2_with fail
                    refine (MV.out _ M0.out).mono ?_
                    rintro e w2 ⟨rfl, b2⟩
                    have M2 := Lib.hid (M0.out.below b2)
                    have c5 := (b2.cell (p := ⟨w.heap.size, 5, none⟩) M0.out.box.lt).trans C5.out
                    clear b2
                    go_wp2_with fail
                    go_ret
                    exact ⟨rfl, M2.out.bel⟩
              · skip
                have BF := Lib.hid (show bb = _ from hbb.trans (if_neg (show ¬ brK 8 = true by decide)))
                clear hbb k1 k8 MV
                have c5 := C5.out
                by_cases m0 : m = 0
                · subst m0
                  cases el : (le == 0) with
                  | true =>
                    have BE := Lib.hid (show bb = true from BF.out.trans (by rw [el]; rfl))
                    have el2 : (le != 0) = false := by rw [bne, el]; rfl
                    clear BF
                    obtain rfl := BE.out
                    rw [Bool.and_true]
                    go_enter Tryd.func9, Tryd.ntmps9
                    go_upto_region 6 with (fail)
                    cases rb with
                    | true =>
                      have FE := Lib.hid (show fb = mp from FF.out)
                      clear FF
                      go_wp2_with fail
                      refine (RD.out _).mono ?_
                      rintro e w3 ⟨rfl, rfl⟩
                      go_wp2_with fail
                      refine (MP.out _ M0.out).mono ?_
                      rintro e w4 ⟨rfl, b4⟩
                      have M4 := Lib.hid (M0.out.below b4)
                      clear b4
                      go_wp2_with fail
                      go_ret
                      exact ⟨by have h := FE.out; subst h; rfl, M4.out.bel⟩
                    | false =>
                      have FE := Lib.hid (show fb = decide (n = 0) from FF.out)
                      clear FF
                      go_wp2_with fail
                      refine (RD.out _).mono ?_
                      rintro e w3 ⟨rfl, rfl⟩
                      go_wp2_with fail
                      go_ret
                      exact ⟨by
                        rw [FE.out]
                        by_cases h0 : n = 0
                        · subst h0; rfl
                        · simp [h0], M0.out.bel⟩
                  | false =>
                    have BE := Lib.hid (show bb = false from BF.out.trans (by rw [el]; rfl))
                    have el2 : (le != 0) = true := by rw [bne, el]; rfl
                    clear BF
                    obtain rfl := BE.out
                    rw [Bool.and_false]
                    go_enter Tryd.func9, Tryd.ntmps9
                    go_wp2_with fail
                    go_ret
                    exact ⟨rfl, M0.out.bel⟩
                · have BE := Lib.hid (show bb = false from BF.out.trans (by rw [decide_eq_false m0]; rfl))
                  have m1 : (0 : Int) < (m : Int) := by omega
                  clear BF
                  obtain rfl := BE.out
                  rw [Bool.and_false]
                  go_enter Tryd.func9, Tryd.ntmps9
                  go_wp2_with fail
                  go_ret
                  exact ⟨rfl, M0.out.bel⟩
            · rw [decide_eq_false k8, Bool.false_and]
              have n4 : 8 < kd := by omega
              go_enter Tryd.func9, Tryd.ntmps9
              go_wp2_with fail
              go_ret
              exact ⟨rfl, M0.out.bel⟩
          · rw [decide_eq_false k1, Bool.false_and, Bool.false_and]
            have n4 : kd < 1 := by omega
            go_enter Tryd.func9, Tryd.ntmps9
            go_wp2_with fail
            go_ret
            exact ⟨rfl, M0.out.bel⟩
        · rw [decide_eq_false h4, Bool.false_and, Bool.false_and]
          have n4 : 1073741824 < sq := by omega
          go_enter Tryd.func9, Tryd.ntmps9
          go_wp2_with fail
          go_ret
          exact ⟨rfl, M0.out.bel⟩
      · rw [decide_eq_false h3, Bool.false_and, Bool.false_and, Bool.false_and]
        have n3 : sq < 1 := by omega
        go_enter Tryd.func9, Tryd.ntmps9
        go_wp2_with fail
        go_ret
        exact ⟨rfl, M0.out.bel⟩
    · rw [decide_eq_false h2, Bool.false_and, Bool.false_and]
      have n2 : 4 ≤ cl := by omega
      go_enter Tryd.func9, Tryd.ntmps9
      go_wp2_with fail
      go_ret
      exact ⟨rfl, M0.out.bel⟩
  · rw [decide_eq_false h1, Bool.false_and, Bool.false_and, Bool.false_and]
    have n1 : cl < 0 := by omega
    go_enter Tryd.func9, Tryd.ntmps9
    go_wp2_with fail
    go_ret
    exact ⟨rfl, M0.out.bel⟩
end Go.Proofs.YtigbnjgmdgkgjaaDoor
