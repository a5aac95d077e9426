/-
  PACKAGE genesis
-/
import Derived.Test.YtidklgicmhdapaaGreatDoorAv15
import Derived.Test.YtidklgicmhdapaaGreatDoorAv24
import Derived.Test.YtidklgicmhdapaaGreatDoorAv26
namespace Go.Proofs.YtidklgicmhdapaaGreatDoor
open Go Go.RowKit Sh

structure Ky where
  A : Option Addr
  c : Nat
  X : List Nat
def kyv (k : Ky) : List Value := [.slice k.A k.X.length k.c]
theorem kyv_len (k : Ky) : (kyv k).length = 1 := rfl
theorem kyv_one (k : Ky) : ∀ v ∈ kyv k, v.oneCell' = true := fun v hv => by
  simp only [kyv, List.mem_cons, List.not_mem_nil, or_false] at hv
  subst hv
  rfl
structure Gv where
  f : Int
  rd : Int
  wr : Int
  kp : Option Addr
  kc : Nat
  ks : List Ky
  sp : Option Addr
  sc : Nat
  st : List Nat
def gv (x : Gv) : List Value := [.int .i64 x.f, .int .i64 x.rd, .int .i64 x.wr, .slice x.kp x.ks.length x.kc, .slice x.sp x.st.length x.sc]
theorem gv_size (x : Gv) : (Tryz.prog.info? 41).map (·.size) = some (gv x).length := by
  show (Tryz.prog.info? 41).map (·.size) = some 5
  kernel_rfl
theorem gv_one (x : Gv) : (gv x).toArray.all (·.oneCell') = true := by simp [gv, Value.oneCell']
theorem gv_cells {W : World} {g : Nat} {t : TypeId} {x : Gv} (h : Blk W g t (gv x)) : W.cell? ⟨g, 0, none⟩ = some (.int .i64 x.f) ∧ W.cell? ⟨g, 1, none⟩ = some (.int .i64 x.rd) ∧ W.cell? ⟨g, 2, none⟩ = some (.int .i64 x.wr) ∧ W.cell? ⟨g, 3, none⟩ = some (.slice x.kp x.ks.length x.kc) ∧ W.cell? ⟨g, 4, none⟩ = some (.slice x.sp x.st.length x.sc) :=
  ⟨h.cell 0, h.cell 1, h.cell 2, h.cell 3, h.cell 4⟩
structure GvW (W : World) (x : Gv) : Prop where
  ks : RowL W x.kp 1 kyv x.ks
  k : ∀ y ∈ x.ks, Sr W y.A y.X
  kb : ∀ y ∈ x.ks, Bytes y.X
  kn : ∀ y ∈ x.ks, y.X.length ≤ 9223372036854775807
  kl : x.ks.length ≤ 9223372036854775807
  st : Sr W x.sp x.st
  sb : Bytes x.st
  sl : x.st.length ≤ 1000000
  sc : x.st.length ≤ x.sc
theorem GvW.below {W W' : World} {x : Gv} (h : GvW W x) (hb : Below W.heap.size W W') : GvW W' x :=
  ⟨h.ks.below hb, fun y hy => (h.k y hy).below hb, h.kb, h.kn, h.kl, h.st.below hb, h.sb, h.sl, h.sc⟩
structure GB9 (w0 W : World) (x : Gv) : Prop where
  a : Blk W w0.heap.size 41 (gv x)
  rx : GvW W x
  bel : Below w0.heap.size w0 W
theorem GB9.below {w0 W W' : World} {x : Gv} (h : GB9 w0 W x) (hb : Below W.heap.size W W') : GB9 w0 W' x := ⟨h.a.below hb h.a.lt, h.rx.below hb, h.bel.trans (hb.mono h.bel.size)⟩
theorem GB9.new {w : World} {x : Gv} (h : GvW w x) : GB9 w (w.alloc (.cells (gv x).toArray 41)) x := by
  have b1 := (Below.refl w.heap.size w).alloc (Nat.le_refl _) (.cells (gv x).toArray 41)
  exact ⟨Blk.new w 41 (gv x), h.below b1, b1⟩
def fltB (f : Int) : Bool := decide (0 ≤ f) && decide (f ≤ 2)
def mayK (f : Int) (l : List (List Nat)) : Bool := decide ((l.length : Int) = 3 * f + 1) && l.all formN
theorem faults_t (f : Int) (w : World) : Calls Tryz.prog 51 #[.int .i64 f] w fun e w' => e = .returned (.bool (fltB f)) ∧ w = w' := by
  unfold fltB
  by_cases h : 0 ≤ f
  · rw [decide_eq_true h, Bool.true_and]
    obtain ⟨b, hb⟩ : ∃ b, decide (f ≤ 2) = b := ⟨_, rfl⟩
    rw [hb]
    go_enter Tryz.func51, Tryz.ntmps51
    go_wp2_with fail
    go_ret
    exact ⟨rfl, rfl⟩
  · have h1 : decide (0 ≤ f) = false := decide_eq_false h
    rw [h1, Bool.false_and]
    go_enter Tryz.func51, Tryz.ntmps51
    go_wp2_with fail
    go_ret
    exact ⟨rfl, rfl⟩
theorem allowG_t (f : Int) (w : World) : Calls Tryz.prog 52 #[.int .i64 f] w fun e w' => e = .returned (.bool (alB f)) ∧ w = w' := by
  unfold alB
  by_cases h : 0 ≤ f
  · rw [decide_eq_true h, Bool.true_and]
    obtain ⟨b, hb⟩ : ∃ b, decide (f ≤ 15) = b := ⟨_, rfl⟩
    have h2 : decide (f < 16) = b := by rw [← hb]; exact decide_eq_decide.2 (by omega)
    rw [hb]
    clear hb
    go_enter Tryz.func52, Tryz.ntmps52
    go_wp2_with fail
    go_ret
    exact ⟨rfl, rfl⟩
  · have h1 : decide (0 ≤ f) = false := decide_eq_false h
    rw [h1, Bool.false_and]
    go_enter Tryz.func52, Tryz.ntmps52
    go_wp2_with fail
    go_ret
    exact ⟨rfl, rfl⟩
theorem keysFor_t (f : Int) (h0 : 0 ≤ f) (h2 : f ≤ 2) (w : World) : Calls Tryz.prog 63 #[.int .i64 f] w fun e w' => e = .returned (.int .i64 (3 * f + 1)) ∧ w = w' := by
  go_enter Tryz.func63, Tryz.ntmps63
  go_wp2_with fail
  go_ret
  exact ⟨by first | rfl | (congr 2; go_num), rfl⟩
set_option maxRecDepth 100000 in
set_option maxHeartbeats 1000000 in
theorem mayKeys_t (x : Gv) (w : World) (h : GvW w x) (h0 : 0 ≤ x.f) (h2 : x.f ≤ 2) (hk : KI w) :
    Calls Tryz.prog 53 #[.agg (gv x).toArray] w fun e w' => e = .returned (.bool (mayK x.f (x.ks.map (·.X)))) ∧ Below w.heap.size w w' := by
  have S0 := Lib.hid (GB9.new h)
  have HK := Lib.hid hk
  obtain ⟨n, hn⟩ : ∃ n, x.ks.length = n := ⟨_, rfl⟩
  obtain ⟨f, hf⟩ : ∃ n, x.f = n := ⟨_, rfl⟩
  have HN := Lib.hid hn
  obtain ⟨kp, hkp⟩ : ∃ p, x.kp = p := ⟨_, rfl⟩
  have HKP := Lib.hid hkp
  have hnl : n ≤ 9223372036854775807 := by rw [← hn]; exact h.kl
  have hm : mayK x.f (x.ks.map (·.X)) = (decide ((n : Int) = 3 * f + 1) && x.ks.all fun y => formN y.X) := by
    unfold mayK
    rw [List.length_map, hn, hf, List.all_map]
    rfl
  obtain ⟨r, hr⟩ : ∃ r, mayK x.f (x.ks.map (·.X)) = r := ⟨_, rfl⟩
  have HR := Lib.hid (show r = (decide ((n : Int) = 3 * f + 1) && x.ks.all fun y => formN y.X) from hr.symm.trans hm)
  rw [hr]
  have CELL := Lib.hid (fun (W : World) (h : GB9 w W x) => show W.cell? ⟨w.heap.size, 0, none⟩ = some (.int .i64 f) ∧ W.cell? ⟨w.heap.size, 3, none⟩ = some (.slice kp n x.kc) from by
    have := gv_cells h.a
    rw [hf, hn, hkp] at this
    exact ⟨this.1, this.2.2.2.1⟩)
  rw [hf] at h0 h2
  have KF := Lib.hid (fun W => keysFor_t f h0 h2 W)
  clear h hk hm hn hf hr hkp
  go_enter Tryz.func53, Tryz.ntmps53
  go_upto_region 1 with (fail)
  refine wp_region_held (S := fun W => W.cell? ⟨w.heap.size, 0, none⟩ = some (.int .i64 f) ∧ W.cell? ⟨w.heap.size, 3, none⟩ = some (.slice kp n x.kc)) (by kernel_rfl) ?_
  change wpAnyH _ _ _ _ _ _ _ _ (w.alloc (.cells (gv x).toArray 41)).drew
  obtain ⟨U, hU⟩ : ∃ U, (w.alloc (.cells (gv x).toArray 41)).drew = U := ⟨_, rfl⟩
  have Z0 := Lib.hid (show GB9 w U x from S0.out.below (by rw [← hU]; exact (Below.refl _ _).drew))
  rw [hU]
  clear hU S0
  have r0 := CELL.out _ Z0.out
  refine wpAnyH_take (i := 0) (v := ?_) rfl (by kernel_rfl) (by kernel_rfl) (by kernel_rfl) (fun _ _ _ h => h) (Or.inl ⟨by kernel_rfl, ?_⟩) r0 ?_
  rotate_left 1
  · (intro w hS; clear hS; go_simp; try (with_reducible rfl))
  refine wpAnyH_take (i := 3) (v := ?_) rfl (by kernel_rfl) (by kernel_rfl) (by kernel_rfl) (fun _ _ _ h => h) (Or.inl ⟨by kernel_rfl, ?_⟩) r0 ?_
  rotate_left 1
  · (intro w hS; clear hS; go_simp; try (with_reducible rfl))
  refine wpAnyH_take (i := 1) (v := ?_) rfl (by kernel_rfl) (by kernel_rfl) (by kernel_rfl) (fun _ _ _ h => h) (Or.inl ⟨by kernel_rfl, ?_⟩) r0 ?_
  rotate_left 1
  · (intro w hS; have hs := hS.2; clear hS; go_simp; try (with_reducible rfl))
  refine wpAnyH_take (i := 2) (v := ?_) rfl (by kernel_rfl) (by kernel_rfl) (by kernel_rfl) (fun _ _ _ h => h) (Or.inl ⟨by kernel_rfl, ?_⟩) r0 ?_
  rotate_left 1
  · (intro w hS; clear hS; go_simp; try (with_reducible rfl))
  refine wpAnyH_take (i := 4) (v := ?_) rfl (by kernel_rfl) (by kernel_rfl) (by kernel_rfl) (fun _ _ _ h => h) (Or.inl ⟨by kernel_rfl, ?_⟩) r0 ?_
  rotate_left 1
  · (intro w hS; have hs := hS.1; clear hS; go_simp; try (with_reducible rfl))
  refine wpAnyH_ready (rs := [5]) (by kernel_rfl) (by simp) ?_
  refine AllReadyH.cons rfl (fun K hK => ?_) AllReadyH.nil
  go_simp
  refine (KF.out _).mono ?_
  rintro e w5 ⟨rfl, rfl⟩
  refine hK.out _ _ r0 (fun hz => ?_)
  clear hK K KF hz
  refine wpAnyH_take (i := 6) (v := ?_) rfl (by kernel_rfl) (by kernel_rfl) (by kernel_rfl) (fun _ _ _ h => h) (Or.inl ⟨by kernel_rfl, ?_⟩) r0 ?_
  rotate_left 1
  · (intro w hS; clear hS; go_simp; try (with_reducible rfl))
  refine wpAnyH_done (by kernel_rfl) ?_ _
  go_simp
  by_cases hl : (n : Int) = 3 * f + 1
  · have e1 : ((n : Int) != 3 * f + 1) = false := by rw [bne_eq_false_iff_eq]; exact hl
    have HR2 := Lib.hid (show r = (x.ks.all fun y => formN y.X) from by have := HR.out; rw [decide_eq_true hl, Bool.true_and] at this; exact this)
    have n7 : n ≤ 7 := by omega
    clear hl HR
    rw [e1]
    clear e1
    go_wp2_with fail
    clear r0
    go_loopw [15] (fun t wr => ∃ j : Nat, j ≤ n ∧ t = .int .i64 (j : Int) ∧ GB9 w wr x ∧ ∀ (i : Nat) (y : Ky), i < j → x.ks[i]? = some y → formN y.X = true) (fun t _ => n - (intOf t).toNat)
    case atStart => exact ⟨0, by omega, rfl, Z0.out, fun i y hi => absurd hi (by omega)⟩
    case round =>
      clear Z0
      obtain ⟨j, hj, rfl, s0, hb⟩ := hrel
      have S0 := Lib.hid s0; have HB := Lib.hid hb
      clear s0 hb
      by_cases hlt : j < n
      · obtain ⟨y, hy⟩ : ∃ y, x.ks[j]? = some y := ⟨_, List.getElem?_eq_getElem (by rw [HN.out]; exact hlt)⟩
        obtain ⟨b, o, hpe, hbl, rg⟩ := S0.out.rx.ks j y hy
        obtain rfl : kp = some ⟨b, o, none⟩ := HKP.out.symm.trans hpe
        have c1 : wr.cell? ⟨b, o + j, none⟩ = some (.slice y.A y.X.length y.c) := by have := rg 0 _ rfl; rw [Nat.mul_one, Nat.add_zero] at this; exact this
        have j1 : (j : Int) < (n : Int) := by omega
        have HM := List.mem_of_getElem? hy
        have FT_ := Lib.hid (form_t y.X y.A y.X.length y.c wr rfl (S0.out.rx.k y HM) (S0.out.rx.kb y HM) (S0.out.rx.kn y HM) (HK.out.kept S0.out.bel))
        have HY := Lib.hid hy
        obtain ⟨fb, hfb⟩ : ∃ b, formN y.X = b := ⟨_, rfl⟩
        rw [hfb] at FT_
        have HFB := Lib.hid hfb
        clear hfb rg hpe hbl hy HM
        go_wp2_with fail
        refine FT_.out.mono ?_
        rintro e w3 ⟨rfl, b3⟩
        have S3 := Lib.hid (S0.out.below b3)
        clear b3 FT_ S0 c1
        cases fb with
        | false =>
          have hR : (x.ks.all fun y => formN y.X) = false := by
            cases hq : (x.ks.all fun y => formN y.X) with
            | false => rfl
            | true =>
              have := List.all_eq_true.1 hq y (List.mem_of_getElem? HY.out)
              rw [HFB.out] at this
              cases this
          obtain rfl : r = false := HR2.out.trans hR
          go_wp2_with fail
          go_ret
          exact ⟨rfl, S3.out.bel⟩
        | true =>
          have HB2 := Lib.hid (show ∀ (i : Nat) (y : Ky), i < j + 1 → x.ks[i]? = some y → formN y.X = true from fun i y hi hy => by
            rcases Nat.lt_or_ge i j with h | h
            · exact HB.out i y h hy
            · obtain rfl : i = j := by omega
              rw [HY.out] at hy
              obtain rfl := Option.some.inj hy
              exact HFB.out)
          go_wp2_with fail
          go_roundw
          case rel =>
            exact ⟨j + 1, hlt, by go_num, S3.out, HB2.out⟩
          case measure => simp [intOf]; omega
      · obtain rfl : j = n := by omega
        have hR : (x.ks.all fun y => formN y.X) = true := List.all_eq_true.2 fun y hy => by
          obtain ⟨i, hi⟩ := List.getElem?_of_mem hy
          exact HB.out i y (by have := (List.getElem?_eq_some_iff.1 hi).1; rw [HN.out] at this; exact this) hi
        obtain rfl : r = true := HR2.out.trans hR
        clear hlt hR
        go_wp2_with fail
        go_ret
        exact ⟨rfl, S0.out.bel⟩
  · have e1 : ((n : Int) != 3 * f + 1) = true := by rw [bne_iff_ne]; exact hl
    obtain rfl : r = false := by have := HR.out; rw [decide_eq_false hl, Bool.false_and] at this; exact this
    go_wp2_with fail
    go_ret
    exact ⟨rfl, Z0.out.bel⟩
end Go.Proofs.YtidklgicmhdapaaGreatDoor
