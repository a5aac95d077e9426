/-
  THE REFERENCE OF CHAPTER 10
-/
import Derived.Test.YtlipjglehongeaaGreatDoorGa35
namespace Go.Proofs.YtlipjglehongeaaGreatDoor
open Go Go.RowKit Sh

def GvC (x : Gv) : Prop := ∀ y ∈ x.ks, y.X.length ≤ y.c
def frB (x : Gv) : Bool := fltB x.f && (alB x.rd && (alB x.wr && decide ((x.ks.length : Int) = 3 * x.f + 1)))
theorem begB_fr (x : Gv) : begB x = (frB x && ((x.ks.all fun y => formN y.X) && stB x)) := by
  unfold begB frB mayK
  rw [List.length_map, List.all_map]
  simp only [Bool.and_assoc]
  rfl
set_option maxRecDepth 100000 in
set_option maxHeartbeats 4000000 in
theorem gMayR_t (x : Gv) (w : World) (h : GvW w x) (hc : GvC x) :
    Calls Tryz.prog 11 #[.agg (gv x).toArray] w fun e w' => e = .returned (.bool (begB x)) ∧ Below w.heap.size w w' := by
  have S0 := Lib.hid (GB9.new h)
  have HC := Lib.hid hc
  obtain ⟨n, hn⟩ : ∃ n, x.ks.length = n := ⟨_, rfl⟩
  obtain ⟨kp, hkp⟩ : ∃ p, x.kp = p := ⟨_, rfl⟩
  have HN := Lib.hid hn; have HKP := Lib.hid hkp
  have hnl : n ≤ 9223372036854775807 := by rw [← hn]; exact h.kl
  have CELL := Lib.hid (fun (W : World) (h : GB9 w W x) => show W.cell? ⟨w.heap.size, 0, none⟩ = some (.int .i64 x.f) ∧ W.cell? ⟨w.heap.size, 1, none⟩ = some (.int .i64 x.rd) ∧ W.cell? ⟨w.heap.size, 2, none⟩ = some (.int .i64 x.wr) ∧ W.cell? ⟨w.heap.size, 3, none⟩ = some (.slice kp n x.kc) ∧ W.cell? ⟨w.heap.size, 4, none⟩ = some (.slice x.sp x.st.length x.sc) from by
    have := gv_cells h.a
    rw [hn, hkp] at this
    exact this)
  obtain ⟨r, hr⟩ : ∃ r, begB x = r := ⟨_, rfl⟩
  have HR := Lib.hid (show r = (frB x && ((x.ks.all fun y => formN y.X) && stB x)) from hr.symm.trans (begB_fr x))
  rw [hr]
  obtain ⟨q, hq⟩ : ∃ q, frB x = q := ⟨_, rfl⟩
  have HQ := Lib.hid hq
  rw [hq] at HR
  clear h hc hn hkp hr hq
  go_enter Tryz.func11, Tryz.ntmps11
  go_upto_region 1 with (fail)
  refine world_at (fun Y => GB9 w Y x) S0.out ?_
  rintro V s1
  have S1 := Lib.hid s1
  clear s1 S0
  obtain ⟨c0, c1, c2, c3, c4⟩ := CELL.out V S1.out
  go_cut [43] (fun s43 wx => s43 = .bool (!q) ∧ wx = V)
  case first =>
    have qf : ∀ b, frB x = b → q = b := fun b e => HQ.out.symm.trans e
    by_cases f0 : x.f < 0
    · have hq := qf false (by unfold frB fltB; rw [decide_eq_false (by omega : ¬ (0 ≤ x.f))]; rfl)
      clear qf
      go_wp2_with fail
      go_meet
      exact ⟨by rw [hq]; rfl, rfl⟩
    by_cases f2 : 2 < x.f
    · have hq := qf false (by unfold frB fltB; rw [decide_eq_false (by omega : ¬ (x.f ≤ 2)), Bool.and_false]; rfl)
      clear qf
      go_wp2_with fail
      go_meet
      exact ⟨by rw [hq]; rfl, rfl⟩
    have w3 : wrap64 (3 * x.f) = 3 * x.f := by unfold wrap64; omega
    have w4 : wrap64 (3 * x.f + 1) = 3 * x.f + 1 := by unfold wrap64; omega
    by_cases r0 : x.rd < 0
    · have hq := qf false (by unfold frB alB; rw [decide_eq_false (by omega : ¬ (0 ≤ x.rd)), Bool.false_and, Bool.false_and, Bool.and_false])
      clear qf
      go_wp2_with fail
      go_meet
      exact ⟨by rw [hq]; rfl, rfl⟩
    by_cases r1 : 15 < x.rd
    · have hq := qf false (by unfold frB alB; rw [decide_eq_false (by omega : ¬ (x.rd ≤ 15)), Bool.and_false, Bool.false_and, Bool.and_false])
      clear qf
      go_wp2_with fail
      go_meet
      exact ⟨by rw [hq]; rfl, rfl⟩
    by_cases k0 : x.wr < 0
    · have hq := qf false (by unfold frB alB; rw [decide_eq_false (by omega : ¬ (0 ≤ x.wr)), Bool.false_and, Bool.false_and, Bool.and_false, Bool.and_false])
      clear qf
      go_wp2_with fail
      go_meet
      exact ⟨by rw [hq]; rfl, rfl⟩
    by_cases k1 : 15 < x.wr
    · have hq := qf false (by unfold frB alB; rw [decide_eq_false (by omega : ¬ (x.wr ≤ 15)), Bool.and_false, Bool.false_and, Bool.and_false, Bool.and_false])
      clear qf
      go_wp2_with fail
      go_meet
      exact ⟨by rw [hq]; rfl, rfl⟩
    have hq := qf (decide ((n : Int) = 3 * x.f + 1)) (by
      unfold frB fltB alB
      rw [decide_eq_true (by omega : 0 ≤ x.f), decide_eq_true (by omega : x.f ≤ 2), decide_eq_true (by omega : 0 ≤ x.rd), decide_eq_true (by omega : x.rd ≤ 15), decide_eq_true (by omega : 0 ≤ x.wr), decide_eq_true (by omega : x.wr ≤ 15), HN.out]
      rfl)
    have t3 : ((n : Int) != 3 * x.f + 1) = !q := by rw [hq, Bool.eq_iff_iff, bne_iff_ne]; simp
    clear qf hq
    go_wp2_with fail
    go_meet
    exact ⟨rfl, rfl⟩
  case rest =>
  obtain ⟨rfl, rfl⟩ := hcut
  clear c0 c1 c2 c3 c4
  cases q with
  | false =>
    obtain rfl : r = false := HR.out
    go_wp2_with fail
    go_ret
    exact ⟨rfl, S1.out.bel⟩
  | true =>
  have HR2 := Lib.hid (show r = ((x.ks.all fun y => formN y.X) && stB x) from HR.out)
  clear HR
  go_wp2_with fail
  go_loopw [3] (fun t wr => ∃ j : Nat, j ≤ n ∧ t = .int .i64 (j : Int) ∧ GB9 w wr x ∧ ∀ (i : Nat) (y : Ky), i < j → x.ks[i]? = some y → formN y.X = true) (fun t _ => n - (intOf t).toNat)
  case atStart => exact ⟨0, by omega, rfl, S1.out, fun i y hi => absurd hi (by omega)⟩
  case round =>
    clear S1
    obtain ⟨j, hj, rfl, s0, hb⟩ := hrel
    have S0 := Lib.hid s0; have HB := Lib.hid hb
    clear s0 hb
    obtain ⟨_, _, _, c3, c4⟩ := CELL.out wr S0.out
    by_cases hlt : j < n
    · obtain ⟨y, hy⟩ : ∃ y, x.ks[j]? = some y := ⟨_, List.getElem?_eq_getElem (by rw [HN.out]; exact hlt)⟩
      obtain ⟨b, o, hpe, hbl, rg⟩ := S0.out.rx.ks j y hy
      obtain rfl : kp = some ⟨b, o, none⟩ := HKP.out.symm.trans hpe
      have c1 : wr.cell? ⟨b, o + j, none⟩ = some (.slice y.A y.X.length y.c) := by have := rg 0 _ rfl; rw [Nat.mul_one, Nat.add_zero] at this; exact this
      have j1 : (j : Int) < (n : Int) := by omega
      have HM := List.mem_of_getElem? hy
      have FT_ := Lib.hid (refform_t y.X y.A y.X.length y.c wr rfl (S0.out.rx.k y HM) (S0.out.rx.kb y HM) (S0.out.rx.kn y HM) (HC.out y HM))
      have HY := Lib.hid hy
      obtain ⟨fb, hfb⟩ : ∃ b, formN y.X = b := ⟨_, rfl⟩
      rw [hfb] at FT_
      have HFB := Lib.hid hfb
      clear hfb rg hpe hbl hy HM c4
      go_wp2_with fail
      refine FT_.out.mono ?_
      rintro e w3 ⟨rfl, b3⟩
      have S3 := Lib.hid (S0.out.below b3)
      clear b3 FT_ S0 c1 c3
      cases fb with
      | false =>
        have hR : (x.ks.all fun y => formN y.X) = false := by
          cases hq : (x.ks.all fun y => formN y.X) with
          | false => rfl
          | true =>
            have := List.all_eq_true.1 hq y (List.mem_of_getElem? HY.out)
            rw [HFB.out] at this
            cases this
        obtain rfl : r = false := by rw [HR2.out, hR]; rfl
        go_wp2_with fail
        go_ret
        exact ⟨rfl, S3.out.bel⟩
      | true =>
        have HB2 := Lib.hid (show ∀ (i : Nat) (y : Ky), i < j + 1 → x.ks[i]? = some y → formN y.X = true from fun i y hi hy => by
          rcases Nat.lt_or_ge i j with h | h
          · exact HB.out i y h hy
          · obtain rfl : i = j := by omega
            rw [HY.out] at hy
            obtain rfl := Option.some.inj hy
            exact HFB.out)
        go_wp2_with fail
        go_roundw
        case rel =>
          exact ⟨_, .int .i64 ((j : Int) + 1), _, _, _, _, _, _, _, _, _, _, _, _, _, _, ⟨j + 1, hlt, by go_num, S3.out, HB2.out⟩, rfl⟩
        case measure => simp [intOf]; omega
    · obtain rfl : j = n := by omega
      have hR : (x.ks.all fun y => formN y.X) = true := List.all_eq_true.2 fun y hy => by
        obtain ⟨i, hi⟩ := List.getElem?_of_mem hy
        exact HB.out i y (by have := (List.getElem?_eq_some_iff.1 hi).1; rw [HN.out] at this; exact this) hi
      have HRS := Lib.hid (show r = stB x from by rw [HR2.out, hR]; rfl)
      clear HR2 hR HB hlt
      by_cases h0 : x.st.length = 0
      · have e0 : ((x.st.length : Int) == 0) = true := by rw [h0]; rfl
        obtain rfl : r = true := by rw [HRS.out]; unfold stB stQ; rw [decide_eq_true h0]; rfl
        clear h0
        go_wp2_with fail
        go_ret
        exact ⟨rfl, S0.out.bel⟩
      · have e0 : ((x.st.length : Int) == 0) = false := by rw [beq_eq_false_iff_ne]; omega
        have SGT := Lib.hid (refGetS_t x.st x.sp x.st.length x.sc wr rfl S0.out.rx.sc S0.out.rx.st S0.out.rx.sb S0.out.rx.sl)
        have HB0 := Lib.hid (show stB x = (okS x.st && (((gotS x.st).rd == x.rd) && ((gotS x.st).wr == x.wr))) from by unfold stB stQ; rw [decide_eq_false h0, Bool.false_or])
        clear h0
        go_wp2_with fail
        refine SGT.out.mono ?_
        rintro e w3 ⟨bw3, hh⟩
        have S3 := Lib.hid (S0.out.below bw3)
        clear S0 bw3 SGT c3 c4 e0
        rcases hh with ⟨hno, rfl⟩ | ⟨hyes, y, hy, rfl, yy⟩
        · obtain rfl : r = false := by rw [HRS.out, HB0.out, hno]; rfl
          clear hno HB0 HRS
          obtain ⟨y, hy⟩ : ∃ y, gsp 0 0 0 = y := ⟨_, rfl⟩
          have wy := gsp_w 0 0 0 w3
          rw [hy] at wy ⊢
          have FX_y := Lib.hid (sv_size y wy.l4); have FO_y := Lib.hid (sv_one y); have SL_y := Lib.hid (sv_len y wy.l4)
          have Z_y := Lib.hid (Blk.new w3 46 [.int .i64 0, .slice none 0 0, .slice none 0 0, .int .i64 0, .int .i64 0, .int .i64 0, .int .i64 0, .int .i64 0, .slice none 0 0, .bool false, .int .i64 0, .int .i64 0, .int .i64 0, .slice none 0 0, .bool false, .int .i64 0, .int .i64 0, .int .i64 0, .slice none 0 0, .bool false, .int .i64 0, .int .i64 0, .int .i64 0, .slice none 0 0, .bool false])
          have KN_y := Lib.hid (KSp.new (w1 := w3) (x := y) wy)
          go_upto_region 11 with ((with_reducible refine at_op (.store 46 (.tmp 4) (.tmp 66)) rfl ?_); go_must (refine store_blk 46 (.tmp 4) (.tmp 66) (w3).heap.size 46 _ (sv y) rfl rfl Z_y.out SL_y.out.symm FX_y.out FO_y.out rfl rfl ?_))
          obtain ⟨V3, hV3⟩ : ∃ V, ((w3).alloc (.cells #[.int .i64 0, .slice none 0 0, .slice none 0 0, .int .i64 0, .int .i64 0, .int .i64 0, .int .i64 0, .int .i64 0, .slice none 0 0, .bool false, .int .i64 0, .int .i64 0, .int .i64 0, .slice none 0 0, .bool false, .int .i64 0, .int .i64 0, .int .i64 0, .slice none 0 0, .bool false, .int .i64 0, .int .i64 0, .int .i64 0, .slice none 0 0, .bool false] 46)).setRow (w3).heap.size (sv y).toArray = V := ⟨_, rfl⟩
          rw [hV3] at KN_y ⊢
          have K_y := Lib.hid KN_y.out.1
          have B_y := Lib.hid KN_y.out.2
          clear hV3 KN_y Z_y FO_y SL_y
          have S4 := Lib.hid (S3.out.below B_y.out)
          clear S3 B_y wy K_y FX_y hy
          go_wp2_with fail
          go_ret
          exact ⟨rfl, S4.out.bel⟩
        · have HEB := Lib.hid (show r = ((y.rd == x.rd) && (y.wr == x.wr)) from by rw [HRS.out, HB0.out, hyes, ← hy]; rfl)
          have wy := yy.w
          clear hyes HB0 hy yy HRS
          have FX_y := Lib.hid (sv_size y wy.l4); have FO_y := Lib.hid (sv_one y); have SL_y := Lib.hid (sv_len y wy.l4)
          have Z_y := Lib.hid (Blk.new w3 46 [.int .i64 0, .slice none 0 0, .slice none 0 0, .int .i64 0, .int .i64 0, .int .i64 0, .int .i64 0, .int .i64 0, .slice none 0 0, .bool false, .int .i64 0, .int .i64 0, .int .i64 0, .slice none 0 0, .bool false, .int .i64 0, .int .i64 0, .int .i64 0, .slice none 0 0, .bool false, .int .i64 0, .int .i64 0, .int .i64 0, .slice none 0 0, .bool false])
          have KN_y := Lib.hid (KSp.new (w1 := w3) (x := y) wy)
          go_upto_region 11 with ((with_reducible refine at_op (.store 46 (.tmp 4) (.tmp 66)) rfl ?_); go_must (refine store_blk 46 (.tmp 4) (.tmp 66) (w3).heap.size 46 _ (sv y) rfl rfl Z_y.out SL_y.out.symm FX_y.out FO_y.out rfl rfl ?_))
          obtain ⟨V3, hV3⟩ : ∃ V, ((w3).alloc (.cells #[.int .i64 0, .slice none 0 0, .slice none 0 0, .int .i64 0, .int .i64 0, .int .i64 0, .int .i64 0, .int .i64 0, .slice none 0 0, .bool false, .int .i64 0, .int .i64 0, .int .i64 0, .slice none 0 0, .bool false, .int .i64 0, .int .i64 0, .int .i64 0, .slice none 0 0, .bool false, .int .i64 0, .int .i64 0, .int .i64 0, .slice none 0 0, .bool false] 46)).setRow (w3).heap.size (sv y).toArray = V := ⟨_, rfl⟩
          rw [hV3] at KN_y ⊢
          have K_y := Lib.hid KN_y.out.1
          have B_y := Lib.hid KN_y.out.2
          clear hV3 KN_y Z_y FO_y SL_y
          have S4 := Lib.hid (S3.out.below B_y.out)
          obtain ⟨g4, hg4⟩ : ∃ g, w3.heap.size = g := ⟨_, rfl⟩
          rw [hg4] at K_y ⊢
          clear S3 B_y wy hg4 FX_y
          obtain ⟨_, c1, c2, _, _⟩ := CELL.out V3 S4.out
          obtain ⟨_, _, _, d3, d4⟩ := sv_cells K_y.out.box
          obtain ⟨b5, hb5⟩ : ∃ b, (y.rd == x.rd) = b := ⟨_, rfl⟩
          obtain ⟨b6, hb6⟩ : ∃ b, (y.wr == x.wr) = b := ⟨_, rfl⟩
          rw [hb5, hb6] at HEB
          obtain rfl := HEB.out
          cases b5 with
          | false =>
            go_wp2_with fail
            go_ret
            exact ⟨rfl, S4.out.bel⟩
          | true =>
            go_wp2_with fail
            go_ret
            exact ⟨rfl, S4.out.bel⟩
end Go.Proofs.YtlipjglehongeaaGreatDoor
