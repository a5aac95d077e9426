/-
  OtsSums walked.
-/
import Derived.Test.YtahghfjjpbjemaaDoorOtSumsN
import Derived.BigRegion
import Derived.StillTailTactics
namespace Go.Proofs.YtahghfjjpbjemaaDoor
open Go Go.RowKit Sh

theorem digs_get (i : Nat) (h : List Nat) (j : Nat) (hj : j < (kd i).p) : gt (digs i h) j = digN (kd i).w (kd i).ls h j := by
  unfold digs; simp [gt, List.getD_eq_getElem?_getD, hj]
theorem backN_bytes (v : Nat) (h : List Nat) (hb : Bytes h) (n : Nat) : Bytes (backN v h n) := fun j => by
  rcases Nat.lt_or_ge j 32 with hj | hj
  · rw [backN_get v h n j hj]
    unfold backB
    have := hb j
    have h1 := Nat.div_mul_le_self (gt h j) (2 ^ (8 - v * min (n - j * (8 / v)) (8 / v)))
    omega
  · rw [gt_out (by rw [backN_length]; exact hj)]; decide
theorem toNat8 (a : Nat) (ha : a < 256) : (BitVec.ofInt 8 (a : Int)).toNat = a := by
  rw [BitVec.ofInt_natCast, BitVec.toNat_ofNat]
  exact Nat.mod_eq_of_lt (by omega)
theorem or_u8 (a b : Nat) (ha : a < 256) (hb : b < 256) : bits .or .u8 (a : Int) (b : Int) = ((a ||| b : Nat) : Int) := by
  have hx : a ||| b < 2 ^ 8 := Nat.or_lt_two_pow ha hb
  show IntKind.u8.wrap ((BitVec.ofInt 8 (a : Int) ||| BitVec.ofInt 8 (b : Int)).toNat : Int) = _
  rw [BitVec.toNat_or, toNat8 a ha, toNat8 b hb]
  exact IntWalk.u8_in _ (by omega)
theorem sl_gt_byte (l : List Nat) (h : Bytes l) (i : Nat) : gt l i < 256 := h i
set_option maxRecDepth 100000 in
set_option maxHeartbeats 4000000 in
theorem sums_0 (h : List Nat) (n : Int) (w : World) (hl : h.length = 32) (hb : Bytes h) (hki : KI w) (hke : wrap64 ((IntKind.u64.wrap n).tmod 4) = 0) :
    Calls Tryd.prog 6 #[.agg (u8s h).toArray, .int .i64 n] w fun e w' => e = .returned (.bool true) ∧ Below w.heap.size w w' := by
  have HL := Lib.hid hl; have HB := Lib.hid hb; have HKI := Lib.hid hki
  have b0 := (Below.refl w.heap.size w).alloc (Nat.le_refl _) (.cells (u8s h).toArray 23)
  have B0 := Lib.hid b0; have H0 := Lib.hid (Blk.new w 23 (u8s h)); have KI0 := Lib.hid (hki.kept b0)
  clear hl hb hki b0
  go_enter Tryd.func6, Tryd.ntmps6
  go_upto_region 2 with (fail)
  refine world_is (fun W => Blk W w.heap.size 23 (u8s h) ∧ KI W ∧ Below w.heap.size w W) ⟨H0.out.alloc _, KI0.out.kept ((Below.refl _ _).alloc (Nat.le_refl _) _), B0.out.alloc B0.out.size _⟩ ?_
  rintro W ⟨h1, k1, b1⟩
  have H1 := Lib.hid h1; have KI1 := Lib.hid k1; have B1 := Lib.hid b1
  clear h1 k1 b1 H0 KI0 B0
  go_wp2_with ((with_reducible refine load_blk 23 (.tmp 2) w.heap.size 23 (u8s h) _ rfl rfl ?_ Tryd.underlying23 ?_ ?_ ?_ ?_); exact H1.out; exact rfl; exact size32 _ HL.out; exact rfl)
  refine digitsCall_t 1 h W HL.out HB.out KI1.out _ (fun i v w1 hi hn fr => ?_) (fun _ hno _ => absurd rfl (hno 0 (by decide)))
  obtain rfl := kd_inj (show 0 < 4 by decide) hi (show (kd 0).w = (kd i).w by change 1 = (kd i).w; omega)
  obtain ⟨gd, cd, rfl, hcd, hv, lgd⟩ := own_cell fr.1 (by rw [digs_length]; decide)
  rw [digs_length, show (kd 0).p = 265 from rfl] at hv hcd ⊢
  have HV := Lib.hid (fun j (hj : j < 265) => (hv j hj).trans (by rw [digs_get 0 h j hj]))
  have CH := Lib.hid (fun W hW => chains_of 0 (by decide) W hW)
  have KI2 := Lib.hid (KI1.out.kept fr.2); have B2 := Lib.hid (B1.out.trans (fr.2.mono B1.out.size)); have H2 := Lib.hid (H1.out.below fr.2 H1.out.lt)
  have ghd : w.heap.size < w1.heap.size := H2.out.lt
  clear fr hcd hn hi hv H1 KI1 B1
  go_wp2_with fail
  refine (CH.out _ KI2.out).mono ?_
  rintro e w2 ⟨rfl, b⟩
  rw [show (kd 0).p = 265 from rfl]
  have KI3 := Lib.hid (KI2.out.kept b); have B3 := Lib.hid (B2.out.trans (b.mono B2.out.size)); have H3 := Lib.hid (H2.out.below b H2.out.lt)
  have HV3 := Lib.hid (fun j (hj : j < 265) => (b.cell (p := ⟨gd, j, none⟩) lgd).trans (HV.out j hj))
  have lg2 : gd < w2.heap.size := Nat.lt_of_lt_of_le lgd b.size
  clear b HV KI2 B2 H2 ghd lgd CH
  go_upto_region 9 with (fail)
  have ba := (Below.refl w2.heap.size w2).alloc (Nat.le_refl _) (.cells (u8s z32).toArray 23)
  refine world_is (fun X => Blk X w.heap.size 23 (u8s h) ∧ Blk X w2.heap.size 23 (u8s (backN 1 h 0)) ∧ (∀ j, j < 265 → X.cell? ⟨gd, j, none⟩ = some (.int .i64 ((digN (kd 0).w (kd 0).ls h j : Nat) : Int))) ∧ KI X ∧ Below w.heap.size w X)
    ⟨H3.out.below ba H3.out.lt, by rw [backN_zero 1 h HB.out]; exact Blk.new w2 _ _, fun j hj => (ba.cell (p := ⟨gd, j, none⟩) lg2).trans (HV3.out j hj), KI3.out.kept ba, B3.out.trans (ba.mono B3.out.size)⟩ ?_
  rintro X ⟨x1, x2, x3, x4, x5⟩
  obtain ⟨gb, hgb⟩ : ∃ g, w2.heap.size = g := ⟨_, rfl⟩
  rw [hgb] at x2 lg2 ⊢
  have X1 := Lib.hid x1; have X2 := Lib.hid x2; have X3 := Lib.hid x3; have X4 := Lib.hid x4; have X5 := Lib.hid x5
  have lgw : w.heap.size < gb := by rw [← hgb]; exact H3.out.lt
  clear x1 x2 x3 x4 x5 ba hgb H3 HV3 KI3 B3
  go_loopw [9, 11] (fun s i wr => ∃ k : Nat, k ≤ 256 ∧ i = .int .i64 k ∧ s = .int .i64 ((sumN 1 h k : Nat) : Int) ∧ Blk wr w.heap.size 23 (u8s h) ∧ Blk wr gb 23 (u8s (backN 1 h k)) ∧ (∀ j, j < 265 → wr.cell? ⟨gd, j, none⟩ = some (.int .i64 ((digN (kd 0).w (kd 0).ls h j : Nat) : Int))) ∧ KI wr ∧ Below w.heap.size w wr) (fun _ i _ => 256 - (intOf i).toNat)
  case atStart => exact ⟨0, by omega, rfl, rfl, X1.out, X2.out, X3.out, X4.out, X5.out⟩
  case round =>
    clear X1 X2 X3 X4 X5
    obtain ⟨k, hk, rfl, rfl, x1, x2, x3, x4, x5⟩ := hrel
    have hsu := sumN_le 1 h k
    by_cases hlt : k < 256
    · have i1 : (k : Int) < 256 := by omega
      have cd := (x3 k (by omega)).trans (by rw [show digN (kd 0).w (kd 0).ls h k = coefN 1 h k from digN_own 1 7 (by decide) h HL.out k (by simpa using hlt)])
      have hc := coefN_lt 1 h k
      have HST := Lib.hid (backN_step 1 (by decide) h HB.out k (by simpa using hlt))
      have HSU := Lib.hid (show sumN 1 h (k + 1) = sumN 1 h k + (2 ^ 1 - 1 - coefN 1 h k) from rfl)
      have HBL := Lib.hid (backN_length 1 h k)
      have hgb := sl_gt_byte (backN 1 h k) (backN_bytes 1 h HB.out k) (k / (8 / 1))
      obtain ⟨c, hcc⟩ : ∃ c, coefN 1 h k = c := ⟨_, rfl⟩
      obtain ⟨s, hs⟩ : ∃ s, sumN 1 h k = s := ⟨_, rfl⟩
      obtain ⟨L, hL⟩ : ∃ L, backN 1 h k = L := ⟨_, rfl⟩
      rw [hcc] at cd hc HST HSU
      rw [hs] at hsu HSU ⊢
      rw [hL] at HST HBL x2 hgb
      have c1 : (c : Int) < 2 := by simp at hc; omega
      have s1 : (s : Int) ≤ 8160 := by simp at hsu; omega
      have X1 := Lib.hid x1; have X2 := Lib.hid x2; have X3 := Lib.hid x3; have X4 := Lib.hid x4; have X5 := Lib.hid x5
      clear x1 x2 x3 x4 x5 hcc hs hL hc hsu
      go_upto_region 14 with (fail)
      have hj : k = k := rfl
      have hj' : k * 1 = k := by omega
      have j1 : (k : Int) < 256 := by omega
      have e1 : IntKind.i64.wrap ((k : Int)) = (k : Int) := by rw [show (k : Int) = (k : Int) from by omega]; exact IntWalk.i64_in _ (by omega)
      have q0 : (0 : Int) ≤ (k : Int) / 8 := by omega
      have q1 : (k : Int) / 8 < 32 := by omega
      have cb : wr.cell? ⟨gb, k / 8, none⟩ = some (.int .u8 ((gt L (k / 8) : Nat) : Int)) := by rw [X2.out.cell, u8s_get _ _ (by rw [HBL.out]; omega)]
      have cf : wr.frozen? ⟨gb, k / 8, none⟩ = false := X2.out.frozen _
      rw [show k / (8 / 1) = k / 8 from by first | omega | simp | (simp; omega)] at HST hgb
      obtain ⟨y, hy⟩ : ∃ y, gt L (k / 8) = y := ⟨_, rfl⟩
      rw [hy] at HST hgb cb
      obtain ⟨t, ht⟩ : ∃ t, 8 - 1 * (k % (8 / 1) + 1) = t := ⟨_, rfl⟩
      rw [ht] at HST
      have t8 : t < 8 := by simp at ht; omega
      have e3 : IntKind.i64.wrap ((7 : Int) - (k : Int) % 8) = (t : Int) := by rw [show (7 : Int) - (k : Int) % 8 = (t : Int) from by simp at ht; omega]; exact IntWalk.i64_in _ (by omega)
      have hd : c * 2 ^ t < 256 := by
        have h1 : c ≤ 2 - 1 := by omega
        have h2 : t ≤ 8 - 1 := by simp at ht; omega
        have h3 : 2 ^ t ≤ 2 ^ (8 - 1) := Nat.pow_le_pow_right (by decide) h2
        have h4 := Nat.mul_le_mul h1 h3
        simp at h4
        omega
      obtain ⟨d, hdd⟩ : ∃ d, c * 2 ^ t = d := ⟨_, rfl⟩
      rw [hdd] at HST hd
      have e4 : IntKind.i64.wrap ((c : Int) * 2 ^ t) = (d : Int) := by rw [show (c : Int) * 2 ^ t = (d : Int) from by rw [← hdd]; simp]; exact IntWalk.i64_in _ (by omega)
      have e5 : bits .or .u8 (y : Int) (d : Int) = ((y ||| d : Nat) : Int) := or_u8 y d hgb hd
      have t1 : (t : Int) < 8 := by omega
      have d1 : (d : Int) < 256 := by omega
      have HJ := Lib.hid hj'; have HYY := Lib.hid hy
      clear hj hj' hy ht hdd
      refine wp_region_still_tail 26 (by kernel_rfl) (by kernel_rfl) ?_
      simp only [List.take_succ_cons, List.take_zero, List.drop_succ_cons, List.drop_zero]
      iterate 26 ((refine wpStill_step (fun K hK => ?_); go_simp; (try go_bits); refine hK _ ?_; clear hK K))
      refine wpStill_nil ?_
      go_wp2
      go_roundw
      case rel =>
        refine ⟨k + 1, by omega, by go_num, ?_, ?_, ?_, ?_, ?_, ?_⟩
        · rw [HSU.out]; exact congrArg (Value.int .i64) (by omega)
        · exact X1.out.far (by show w.heap.size ≠ gb; omega) _
        · have m2 := X2.out.store (k / 8) (.int .u8 ((y ||| d : Nat) : Int))
          rw [u8s_set] at m2
          rw [← HST.out]
          exact m2
        · intro q hq
          exact (World.cell?_setCell_other _ ⟨gb, k / 8, none⟩ ⟨gd, q, none⟩ _ (by intro e; have := congrArg Addr.block e; simp at this; omega)).trans (X3.out q hq)
        · exact HKI.out.kept ((X5.out.setCell (p := ⟨gb, k / 8, none⟩) (by show w.heap.size ≤ gb; omega) _).drew)
        · exact (X5.out.setCell (p := ⟨gb, k / 8, none⟩) (by show w.heap.size ≤ gb; omega) _).drew
      case measure => simp [intOf]; omega
    · obtain rfl : k = 256 := by omega
      rw [show ((256 : Nat) : Int) = 256 from rfl]
      rw [backN_last 1 (by decide) h HL.out] at x2
      obtain ⟨s, hs⟩ : ∃ s, sumN 1 h 256 = s := ⟨_, rfl⟩
      rw [hs] at hsu ⊢
      have s1 : (s : Int) ≤ 8160 := by simp at hsu; omega
      have HSS := Lib.hid hs; have HSL := Lib.hid hsu
      have X1 := Lib.hid x1; have X2 := Lib.hid x2; have X3 := Lib.hid x3; have X5 := Lib.hid x5
      clear x1 x2 x3 x4 x5 hs hsu hk hlt
      go_upto_region 17 with (fail)
      have hck : cksN 1 7 h < 65536 := by unfold cksN; rw [show 256 / 1 = 256 from rfl, HSS.out]; have := HSL.out; simp at this ⊢; omega
      have HCK := Lib.hid hck
      obtain ⟨C, hC⟩ : ∃ C, cksN 1 7 h = C := ⟨_, rfl⟩
      rw [hC] at HCK hck
      have HCC := Lib.hid hC
      clear hC
      go_loopw [12, 13] (fun s i wx => ∃ m j : Nat, j = 256 + m ∧ j ≤ 265 ∧ i = .int .i64 (j : Int) ∧ s = .int .i64 ((C / 2 ^ (16 - 1 * m) : Nat) : Int) ∧ wx = wr) (fun _ i _ => 265 - (intOf i).toNat)
      case atStart => exact ⟨0, 256, rfl, by omega, rfl, congrArg (Value.int .i64) (by simp; omega), by first | rfl | trivial⟩
      case round =>
        obtain ⟨m, j, hj, hj3, rfl, rfl, rfl⟩ := hrel
        by_cases hlt : j < 265
        · have j1 : (j : Int) < 265 := by omega
          have HJ := Lib.hid hj
          have hm2 : m < 265 - 256 := by omega
          have GS := Lib.hid (glue_step 1 C HCK.out h HL.out m (by simp at hm2 ⊢; omega))
          have cd := (X3.out j hlt).trans (by rw [show digN (kd 0).w (kd 0).ls h j = coefN 1 (h ++ [C / 256 % 256, C % 256]) (256 / 1 + m) from by rw [← HCC.out, show 256 / 1 + m = j from HJ.out.symm]; rfl])
          have hc := coefN_lt 1 (h ++ [C / 256 % 256, C % 256]) (256 / 1 + m)
          obtain ⟨c, hcc⟩ : ∃ c, coefN 1 (h ++ [C / 256 % 256, C % 256]) (256 / 1 + m) = c := ⟨_, rfl⟩
          have hg : C / 2 ^ (16 - 1 * m) ≤ 65535 := Nat.le_trans (Nat.div_le_self _ _) (by omega)
          obtain ⟨q, hq⟩ : ∃ q, C / 2 ^ (16 - 1 * m) = q := ⟨_, rfl⟩
          rw [hcc] at cd hc GS
          rw [hq] at hg GS ⊢
          have q1 : (q : Int) ≤ 65535 := by omega
          have eg : bits .or .i64 ((q : Int) * 2) (c : Int) = ((q * 2 ^ 1 + c : Nat) : Int) := by
            rw [show (q : Int) * 2 = ((q * 2 ^ 1 : Nat) : Int) from by rw [Int.natCast_mul]; rfl, or_i64 _ _ (by simp; omega) (by simp at hc; omega), or_glue q c 1 hc]
          clear hcc hq hg hj hm2 hck hc
          go_wp2
          go_roundw
          case rel =>
            refine ⟨m + 1, j + 1, by have := HJ.out; omega, by omega, by go_num, ?_, by first | rfl | trivial⟩
            exact congrArg (Value.int .i64) (by rw [GS.out]; simp)
          case measure => simp [intOf]; omega
        · obtain rfl : j = 265 := by omega
          obtain rfl : m = 265 - 256 := by omega
          have hcs : C / 2 ^ (16 - 1 * (265 - 256)) = s := by rw [← HCC.out]; unfold cksN; rw [show 256 / 1 = 256 from rfl, HSS.out]; simp
          rw [hcs]
          have he : ∀ W, (binOp .eql 23 (.agg (u8s h).toArray) (.agg (u8s h).toArray)).run Tryd.prog W = .ok (.bool true) W := fun W => eql_same h HL.out W
          clear hcs hj hj3 hlt hck
          have bx := (Below.refl wr.heap.size wr).alloc (Nat.le_refl _) (.cells #[.int .i64 7, .int .i64 6, .int .i64 4, .int .i64 0] 3)
          have X6 := Lib.hid (X5.out.trans (bx.mono X5.out.size)); have Y1 := Lib.hid (X1.out.below bx X1.out.lt); have Y2 := Lib.hid (X2.out.below bx X2.out.lt)
          clear bx
          go_wp2_with fail
          refine (told_t _ (HKI.out.kept X6.out)).mono ?_
          rintro e w6 ⟨rfl, b⟩
          have Y6 := Lib.hid (X6.out.trans (b.mono X6.out.size)); have Z1 := Lib.hid (Y1.out.below b Y1.out.lt); have Z2 := Lib.hid (Y2.out.below b Y2.out.lt)
          clear b
          go_wp2_with (first
            | ((with_reducible refine load_blk_g 23 (.tmp 10) gb 23 (u8s h) _ ?_ rfl ?_ Tryd.underlying23 ?_ ?_ ?_ ?_); kernel_rfl; exact Z2.out; exact rfl; exact size32 _ HL.out; exact rfl)
            | ((with_reducible refine load_blk_g 23 (.tmp 2) w.heap.size 23 (u8s h) _ ?_ rfl ?_ Tryd.underlying23 ?_ ?_ ?_ ?_); kernel_rfl; exact Z1.out; exact rfl; exact size32 _ HL.out; exact rfl))
          go_ret
          refine ⟨?_, Y6.out⟩
          simp
set_option maxRecDepth 100000 in
set_option maxHeartbeats 4000000 in
theorem sums_1 (h : List Nat) (n : Int) (w : World) (hl : h.length = 32) (hb : Bytes h) (hki : KI w) (hke : wrap64 ((IntKind.u64.wrap n).tmod 4) = 1) :
    Calls Tryd.prog 6 #[.agg (u8s h).toArray, .int .i64 n] w fun e w' => e = .returned (.bool true) ∧ Below w.heap.size w w' := by
  have HL := Lib.hid hl; have HB := Lib.hid hb; have HKI := Lib.hid hki
  have b0 := (Below.refl w.heap.size w).alloc (Nat.le_refl _) (.cells (u8s h).toArray 23)
  have B0 := Lib.hid b0; have H0 := Lib.hid (Blk.new w 23 (u8s h)); have KI0 := Lib.hid (hki.kept b0)
  clear hl hb hki b0
  go_enter Tryd.func6, Tryd.ntmps6
  go_upto_region 2 with (fail)
  refine world_is (fun W => Blk W w.heap.size 23 (u8s h) ∧ KI W ∧ Below w.heap.size w W) ⟨H0.out.alloc _, KI0.out.kept ((Below.refl _ _).alloc (Nat.le_refl _) _), B0.out.alloc B0.out.size _⟩ ?_
  rintro W ⟨h1, k1, b1⟩
  have H1 := Lib.hid h1; have KI1 := Lib.hid k1; have B1 := Lib.hid b1
  clear h1 k1 b1 H0 KI0 B0
  go_wp2_with ((with_reducible refine load_blk 23 (.tmp 2) w.heap.size 23 (u8s h) _ rfl rfl ?_ Tryd.underlying23 ?_ ?_ ?_ ?_); exact H1.out; exact rfl; exact size32 _ HL.out; exact rfl)
  refine digitsCall_t 2 h W HL.out HB.out KI1.out _ (fun i v w1 hi hn fr => ?_) (fun _ hno _ => absurd rfl (hno 1 (by decide)))
  obtain rfl := kd_inj (show 1 < 4 by decide) hi (show (kd 1).w = (kd i).w by change 2 = (kd i).w; omega)
  obtain ⟨gd, cd, rfl, hcd, hv, lgd⟩ := own_cell fr.1 (by rw [digs_length]; decide)
  rw [digs_length, show (kd 1).p = 133 from rfl] at hv hcd ⊢
  have HV := Lib.hid (fun j (hj : j < 133) => (hv j hj).trans (by rw [digs_get 1 h j hj]))
  have CH := Lib.hid (fun W hW => chains_of 1 (by decide) W hW)
  have KI2 := Lib.hid (KI1.out.kept fr.2); have B2 := Lib.hid (B1.out.trans (fr.2.mono B1.out.size)); have H2 := Lib.hid (H1.out.below fr.2 H1.out.lt)
  have ghd : w.heap.size < w1.heap.size := H2.out.lt
  clear fr hcd hn hi hv H1 KI1 B1
  go_wp2_with fail
  refine (CH.out _ KI2.out).mono ?_
  rintro e w2 ⟨rfl, b⟩
  rw [show (kd 1).p = 133 from rfl]
  have KI3 := Lib.hid (KI2.out.kept b); have B3 := Lib.hid (B2.out.trans (b.mono B2.out.size)); have H3 := Lib.hid (H2.out.below b H2.out.lt)
  have HV3 := Lib.hid (fun j (hj : j < 133) => (b.cell (p := ⟨gd, j, none⟩) lgd).trans (HV.out j hj))
  have lg2 : gd < w2.heap.size := Nat.lt_of_lt_of_le lgd b.size
  clear b HV KI2 B2 H2 ghd lgd CH
  go_upto_region 9 with (fail)
  have ba := (Below.refl w2.heap.size w2).alloc (Nat.le_refl _) (.cells (u8s z32).toArray 23)
  refine world_is (fun X => Blk X w.heap.size 23 (u8s h) ∧ Blk X w2.heap.size 23 (u8s (backN 2 h 0)) ∧ (∀ j, j < 133 → X.cell? ⟨gd, j, none⟩ = some (.int .i64 ((digN (kd 1).w (kd 1).ls h j : Nat) : Int))) ∧ KI X ∧ Below w.heap.size w X)
    ⟨H3.out.below ba H3.out.lt, by rw [backN_zero 2 h HB.out]; exact Blk.new w2 _ _, fun j hj => (ba.cell (p := ⟨gd, j, none⟩) lg2).trans (HV3.out j hj), KI3.out.kept ba, B3.out.trans (ba.mono B3.out.size)⟩ ?_
  rintro X ⟨x1, x2, x3, x4, x5⟩
  obtain ⟨gb, hgb⟩ : ∃ g, w2.heap.size = g := ⟨_, rfl⟩
  rw [hgb] at x2 lg2 ⊢
  have X1 := Lib.hid x1; have X2 := Lib.hid x2; have X3 := Lib.hid x3; have X4 := Lib.hid x4; have X5 := Lib.hid x5
  have lgw : w.heap.size < gb := by rw [← hgb]; exact H3.out.lt
  clear x1 x2 x3 x4 x5 ba hgb H3 HV3 KI3 B3
  go_loopw [9, 11] (fun s i wr => ∃ k : Nat, k ≤ 128 ∧ i = .int .i64 k ∧ s = .int .i64 ((sumN 2 h k : Nat) : Int) ∧ Blk wr w.heap.size 23 (u8s h) ∧ Blk wr gb 23 (u8s (backN 2 h k)) ∧ (∀ j, j < 133 → wr.cell? ⟨gd, j, none⟩ = some (.int .i64 ((digN (kd 1).w (kd 1).ls h j : Nat) : Int))) ∧ KI wr ∧ Below w.heap.size w wr) (fun _ i _ => 128 - (intOf i).toNat)
  case atStart => exact ⟨0, by omega, rfl, rfl, X1.out, X2.out, X3.out, X4.out, X5.out⟩
  case round =>
    clear X1 X2 X3 X4 X5
    obtain ⟨k, hk, rfl, rfl, x1, x2, x3, x4, x5⟩ := hrel
    have hsu := sumN_le 2 h k
    by_cases hlt : k < 128
    · have i1 : (k : Int) < 128 := by omega
      have cd := (x3 k (by omega)).trans (by rw [show digN (kd 1).w (kd 1).ls h k = coefN 2 h k from digN_own 2 6 (by decide) h HL.out k (by simpa using hlt)])
      have hc := coefN_lt 2 h k
      have HST := Lib.hid (backN_step 2 (by decide) h HB.out k (by simpa using hlt))
      have HSU := Lib.hid (show sumN 2 h (k + 1) = sumN 2 h k + (2 ^ 2 - 1 - coefN 2 h k) from rfl)
      have HBL := Lib.hid (backN_length 2 h k)
      have hgb := sl_gt_byte (backN 2 h k) (backN_bytes 2 h HB.out k) (k / (8 / 2))
      obtain ⟨c, hcc⟩ : ∃ c, coefN 2 h k = c := ⟨_, rfl⟩
      obtain ⟨s, hs⟩ : ∃ s, sumN 2 h k = s := ⟨_, rfl⟩
      obtain ⟨L, hL⟩ : ∃ L, backN 2 h k = L := ⟨_, rfl⟩
      rw [hcc] at cd hc HST HSU
      rw [hs] at hsu HSU ⊢
      rw [hL] at HST HBL x2 hgb
      have c1 : (c : Int) < 4 := by simp at hc; omega
      have s1 : (s : Int) ≤ 8160 := by simp at hsu; omega
      have X1 := Lib.hid x1; have X2 := Lib.hid x2; have X3 := Lib.hid x3; have X4 := Lib.hid x4; have X5 := Lib.hid x5
      clear x1 x2 x3 x4 x5 hcc hs hL hc hsu
      go_upto_region 14 with (fail)
      obtain ⟨j, hj⟩ : ∃ j, k * 2 = j := ⟨_, rfl⟩
      have hj' : k * 2 = j := by omega
      have j1 : (j : Int) < 256 := by omega
      have e1 : IntKind.i64.wrap ((k : Int) * 2) = (j : Int) := by rw [show (k : Int) * 2 = (j : Int) from by omega]; exact IntWalk.i64_in _ (by omega)
      have q0 : (0 : Int) ≤ (j : Int) / 8 := by omega
      have q1 : (j : Int) / 8 < 32 := by omega
      have cb : wr.cell? ⟨gb, j / 8, none⟩ = some (.int .u8 ((gt L (j / 8) : Nat) : Int)) := by rw [X2.out.cell, u8s_get _ _ (by rw [HBL.out]; omega)]
      have cf : wr.frozen? ⟨gb, j / 8, none⟩ = false := X2.out.frozen _
      rw [show k / (8 / 2) = j / 8 from by first | omega | simp | (simp; omega)] at HST hgb
      obtain ⟨y, hy⟩ : ∃ y, gt L (j / 8) = y := ⟨_, rfl⟩
      rw [hy] at HST hgb cb
      obtain ⟨t, ht⟩ : ∃ t, 8 - 2 * (k % (8 / 2) + 1) = t := ⟨_, rfl⟩
      rw [ht] at HST
      have t8 : t < 8 := by simp at ht; omega
      have e3 : IntKind.i64.wrap ((6 : Int) - (j : Int) % 8) = (t : Int) := by rw [show (6 : Int) - (j : Int) % 8 = (t : Int) from by simp at ht; omega]; exact IntWalk.i64_in _ (by omega)
      have hd : c * 2 ^ t < 256 := by
        have h1 : c ≤ 4 - 1 := by omega
        have h2 : t ≤ 8 - 2 := by simp at ht; omega
        have h3 : 2 ^ t ≤ 2 ^ (8 - 2) := Nat.pow_le_pow_right (by decide) h2
        have h4 := Nat.mul_le_mul h1 h3
        simp at h4
        omega
      obtain ⟨d, hdd⟩ : ∃ d, c * 2 ^ t = d := ⟨_, rfl⟩
      rw [hdd] at HST hd
      have e4 : IntKind.i64.wrap ((c : Int) * 2 ^ t) = (d : Int) := by rw [show (c : Int) * 2 ^ t = (d : Int) from by rw [← hdd]; simp]; exact IntWalk.i64_in _ (by omega)
      have e5 : bits .or .u8 (y : Int) (d : Int) = ((y ||| d : Nat) : Int) := or_u8 y d hgb hd
      have t1 : (t : Int) < 8 := by omega
      have d1 : (d : Int) < 256 := by omega
      have HJ := Lib.hid hj'; have HYY := Lib.hid hy
      clear hj hj' hy ht hdd
      refine wp_region_still_tail 26 (by kernel_rfl) (by kernel_rfl) ?_
      simp only [List.take_succ_cons, List.take_zero, List.drop_succ_cons, List.drop_zero]
      iterate 26 ((refine wpStill_step (fun K hK => ?_); go_simp; (try go_bits); refine hK _ ?_; clear hK K))
      refine wpStill_nil ?_
      go_wp2
      go_roundw
      case rel =>
        refine ⟨k + 1, by omega, by go_num, ?_, ?_, ?_, ?_, ?_, ?_⟩
        · rw [HSU.out]; exact congrArg (Value.int .i64) (by omega)
        · exact X1.out.far (by show w.heap.size ≠ gb; omega) _
        · have m2 := X2.out.store (j / 8) (.int .u8 ((y ||| d : Nat) : Int))
          rw [u8s_set] at m2
          rw [← HST.out]
          exact m2
        · intro q hq
          exact (World.cell?_setCell_other _ ⟨gb, j / 8, none⟩ ⟨gd, q, none⟩ _ (by intro e; have := congrArg Addr.block e; simp at this; omega)).trans (X3.out q hq)
        · exact HKI.out.kept ((X5.out.setCell (p := ⟨gb, j / 8, none⟩) (by show w.heap.size ≤ gb; omega) _).drew)
        · exact (X5.out.setCell (p := ⟨gb, j / 8, none⟩) (by show w.heap.size ≤ gb; omega) _).drew
      case measure => simp [intOf]; omega
    · obtain rfl : k = 128 := by omega
      rw [show ((128 : Nat) : Int) = 128 from rfl]
      rw [backN_last 2 (by decide) h HL.out] at x2
      obtain ⟨s, hs⟩ : ∃ s, sumN 2 h 128 = s := ⟨_, rfl⟩
      rw [hs] at hsu ⊢
      have s1 : (s : Int) ≤ 8160 := by simp at hsu; omega
      have HSS := Lib.hid hs; have HSL := Lib.hid hsu
      have X1 := Lib.hid x1; have X2 := Lib.hid x2; have X3 := Lib.hid x3; have X5 := Lib.hid x5
      clear x1 x2 x3 x4 x5 hs hsu hk hlt
      go_upto_region 17 with (fail)
      have hck : cksN 2 6 h < 65536 := by unfold cksN; rw [show 256 / 2 = 128 from rfl, HSS.out]; have := HSL.out; simp at this ⊢; omega
      have HCK := Lib.hid hck
      obtain ⟨C, hC⟩ : ∃ C, cksN 2 6 h = C := ⟨_, rfl⟩
      rw [hC] at HCK hck
      have HCC := Lib.hid hC
      clear hC
      go_loopw [12, 13] (fun s i wx => ∃ m j : Nat, j = 128 + m ∧ j ≤ 133 ∧ i = .int .i64 (j : Int) ∧ s = .int .i64 ((C / 2 ^ (16 - 2 * m) : Nat) : Int) ∧ wx = wr) (fun _ i _ => 133 - (intOf i).toNat)
      case atStart => exact ⟨0, 128, rfl, by omega, rfl, congrArg (Value.int .i64) (by simp; omega), by first | rfl | trivial⟩
      case round =>
        obtain ⟨m, j, hj, hj3, rfl, rfl, rfl⟩ := hrel
        by_cases hlt : j < 133
        · have j1 : (j : Int) < 133 := by omega
          have HJ := Lib.hid hj
          have hm2 : m < 133 - 128 := by omega
          have GS := Lib.hid (glue_step 2 C HCK.out h HL.out m (by simp at hm2 ⊢; omega))
          have cd := (X3.out j hlt).trans (by rw [show digN (kd 1).w (kd 1).ls h j = coefN 2 (h ++ [C / 256 % 256, C % 256]) (256 / 2 + m) from by rw [← HCC.out, show 256 / 2 + m = j from HJ.out.symm]; rfl])
          have hc := coefN_lt 2 (h ++ [C / 256 % 256, C % 256]) (256 / 2 + m)
          obtain ⟨c, hcc⟩ : ∃ c, coefN 2 (h ++ [C / 256 % 256, C % 256]) (256 / 2 + m) = c := ⟨_, rfl⟩
          have hg : C / 2 ^ (16 - 2 * m) ≤ 65535 := Nat.le_trans (Nat.div_le_self _ _) (by omega)
          obtain ⟨q, hq⟩ : ∃ q, C / 2 ^ (16 - 2 * m) = q := ⟨_, rfl⟩
          rw [hcc] at cd hc GS
          rw [hq] at hg GS ⊢
          have q1 : (q : Int) ≤ 65535 := by omega
          have eg : bits .or .i64 ((q : Int) * 4) (c : Int) = ((q * 2 ^ 2 + c : Nat) : Int) := by
            rw [show (q : Int) * 4 = ((q * 2 ^ 2 : Nat) : Int) from by rw [Int.natCast_mul]; rfl, or_i64 _ _ (by simp; omega) (by simp at hc; omega), or_glue q c 2 hc]
          clear hcc hq hg hj hm2 hck hc
          go_wp2
          go_roundw
          case rel =>
            refine ⟨m + 1, j + 1, by have := HJ.out; omega, by omega, by go_num, ?_, by first | rfl | trivial⟩
            exact congrArg (Value.int .i64) (by rw [GS.out]; simp)
          case measure => simp [intOf]; omega
        · obtain rfl : j = 133 := by omega
          obtain rfl : m = 133 - 128 := by omega
          have hcs : C / 2 ^ (16 - 2 * (133 - 128)) = s := by rw [← HCC.out]; unfold cksN; rw [show 256 / 2 = 128 from rfl, HSS.out]; simp
          rw [hcs]
          have he : ∀ W, (binOp .eql 23 (.agg (u8s h).toArray) (.agg (u8s h).toArray)).run Tryd.prog W = .ok (.bool true) W := fun W => eql_same h HL.out W
          clear hcs hj hj3 hlt hck
          have bx := (Below.refl wr.heap.size wr).alloc (Nat.le_refl _) (.cells #[.int .i64 7, .int .i64 6, .int .i64 4, .int .i64 0] 3)
          have X6 := Lib.hid (X5.out.trans (bx.mono X5.out.size)); have Y1 := Lib.hid (X1.out.below bx X1.out.lt); have Y2 := Lib.hid (X2.out.below bx X2.out.lt)
          clear bx
          go_wp2_with fail
          refine (told_t _ (HKI.out.kept X6.out)).mono ?_
          rintro e w6 ⟨rfl, b⟩
          have Y6 := Lib.hid (X6.out.trans (b.mono X6.out.size)); have Z1 := Lib.hid (Y1.out.below b Y1.out.lt); have Z2 := Lib.hid (Y2.out.below b Y2.out.lt)
          clear b
          go_wp2_with (first
            | ((with_reducible refine load_blk_g 23 (.tmp 10) gb 23 (u8s h) _ ?_ rfl ?_ Tryd.underlying23 ?_ ?_ ?_ ?_); kernel_rfl; exact Z2.out; exact rfl; exact size32 _ HL.out; exact rfl)
            | ((with_reducible refine load_blk_g 23 (.tmp 2) w.heap.size 23 (u8s h) _ ?_ rfl ?_ Tryd.underlying23 ?_ ?_ ?_ ?_); kernel_rfl; exact Z1.out; exact rfl; exact size32 _ HL.out; exact rfl))
          go_ret
          refine ⟨?_, Y6.out⟩
          simp
set_option maxRecDepth 100000 in
set_option maxHeartbeats 4000000 in
theorem sums_2 (h : List Nat) (n : Int) (w : World) (hl : h.length = 32) (hb : Bytes h) (hki : KI w) (hke : wrap64 ((IntKind.u64.wrap n).tmod 4) = 2) :
    Calls Tryd.prog 6 #[.agg (u8s h).toArray, .int .i64 n] w fun e w' => e = .returned (.bool true) ∧ Below w.heap.size w w' := by
  have HL := Lib.hid hl; have HB := Lib.hid hb; have HKI := Lib.hid hki
  have b0 := (Below.refl w.heap.size w).alloc (Nat.le_refl _) (.cells (u8s h).toArray 23)
  have B0 := Lib.hid b0; have H0 := Lib.hid (Blk.new w 23 (u8s h)); have KI0 := Lib.hid (hki.kept b0)
  clear hl hb hki b0
  go_enter Tryd.func6, Tryd.ntmps6
  go_upto_region 2 with (fail)
  refine world_is (fun W => Blk W w.heap.size 23 (u8s h) ∧ KI W ∧ Below w.heap.size w W) ⟨H0.out.alloc _, KI0.out.kept ((Below.refl _ _).alloc (Nat.le_refl _) _), B0.out.alloc B0.out.size _⟩ ?_
  rintro W ⟨h1, k1, b1⟩
  have H1 := Lib.hid h1; have KI1 := Lib.hid k1; have B1 := Lib.hid b1
  clear h1 k1 b1 H0 KI0 B0
  go_wp2_with ((with_reducible refine load_blk 23 (.tmp 2) w.heap.size 23 (u8s h) _ rfl rfl ?_ Tryd.underlying23 ?_ ?_ ?_ ?_); exact H1.out; exact rfl; exact size32 _ HL.out; exact rfl)
  refine digitsCall_t 4 h W HL.out HB.out KI1.out _ (fun i v w1 hi hn fr => ?_) (fun _ hno _ => absurd rfl (hno 2 (by decide)))
  obtain rfl := kd_inj (show 2 < 4 by decide) hi (show (kd 2).w = (kd i).w by change 4 = (kd i).w; omega)
  obtain ⟨gd, cd, rfl, hcd, hv, lgd⟩ := own_cell fr.1 (by rw [digs_length]; decide)
  rw [digs_length, show (kd 2).p = 67 from rfl] at hv hcd ⊢
  have HV := Lib.hid (fun j (hj : j < 67) => (hv j hj).trans (by rw [digs_get 2 h j hj]))
  have CH := Lib.hid (fun W hW => chains_of 2 (by decide) W hW)
  have KI2 := Lib.hid (KI1.out.kept fr.2); have B2 := Lib.hid (B1.out.trans (fr.2.mono B1.out.size)); have H2 := Lib.hid (H1.out.below fr.2 H1.out.lt)
  have ghd : w.heap.size < w1.heap.size := H2.out.lt
  clear fr hcd hn hi hv H1 KI1 B1
  go_wp2_with fail
  refine (CH.out _ KI2.out).mono ?_
  rintro e w2 ⟨rfl, b⟩
  rw [show (kd 2).p = 67 from rfl]
  have KI3 := Lib.hid (KI2.out.kept b); have B3 := Lib.hid (B2.out.trans (b.mono B2.out.size)); have H3 := Lib.hid (H2.out.below b H2.out.lt)
  have HV3 := Lib.hid (fun j (hj : j < 67) => (b.cell (p := ⟨gd, j, none⟩) lgd).trans (HV.out j hj))
  have lg2 : gd < w2.heap.size := Nat.lt_of_lt_of_le lgd b.size
  clear b HV KI2 B2 H2 ghd lgd CH
  go_upto_region 9 with (fail)
  have ba := (Below.refl w2.heap.size w2).alloc (Nat.le_refl _) (.cells (u8s z32).toArray 23)
  refine world_is (fun X => Blk X w.heap.size 23 (u8s h) ∧ Blk X w2.heap.size 23 (u8s (backN 4 h 0)) ∧ (∀ j, j < 67 → X.cell? ⟨gd, j, none⟩ = some (.int .i64 ((digN (kd 2).w (kd 2).ls h j : Nat) : Int))) ∧ KI X ∧ Below w.heap.size w X)
    ⟨H3.out.below ba H3.out.lt, by rw [backN_zero 4 h HB.out]; exact Blk.new w2 _ _, fun j hj => (ba.cell (p := ⟨gd, j, none⟩) lg2).trans (HV3.out j hj), KI3.out.kept ba, B3.out.trans (ba.mono B3.out.size)⟩ ?_
  rintro X ⟨x1, x2, x3, x4, x5⟩
  obtain ⟨gb, hgb⟩ : ∃ g, w2.heap.size = g := ⟨_, rfl⟩
  rw [hgb] at x2 lg2 ⊢
  have X1 := Lib.hid x1; have X2 := Lib.hid x2; have X3 := Lib.hid x3; have X4 := Lib.hid x4; have X5 := Lib.hid x5
  have lgw : w.heap.size < gb := by rw [← hgb]; exact H3.out.lt
  clear x1 x2 x3 x4 x5 ba hgb H3 HV3 KI3 B3
  go_loopw [9, 11] (fun s i wr => ∃ k : Nat, k ≤ 64 ∧ i = .int .i64 k ∧ s = .int .i64 ((sumN 4 h k : Nat) : Int) ∧ Blk wr w.heap.size 23 (u8s h) ∧ Blk wr gb 23 (u8s (backN 4 h k)) ∧ (∀ j, j < 67 → wr.cell? ⟨gd, j, none⟩ = some (.int .i64 ((digN (kd 2).w (kd 2).ls h j : Nat) : Int))) ∧ KI wr ∧ Below w.heap.size w wr) (fun _ i _ => 64 - (intOf i).toNat)
  case atStart => exact ⟨0, by omega, rfl, rfl, X1.out, X2.out, X3.out, X4.out, X5.out⟩
  case round =>
    clear X1 X2 X3 X4 X5
    obtain ⟨k, hk, rfl, rfl, x1, x2, x3, x4, x5⟩ := hrel
    have hsu := sumN_le 4 h k
    by_cases hlt : k < 64
    · have i1 : (k : Int) < 64 := by omega
      have cd := (x3 k (by omega)).trans (by rw [show digN (kd 2).w (kd 2).ls h k = coefN 4 h k from digN_own 4 4 (by decide) h HL.out k (by simpa using hlt)])
      have hc := coefN_lt 4 h k
      have HST := Lib.hid (backN_step 4 (by decide) h HB.out k (by simpa using hlt))
      have HSU := Lib.hid (show sumN 4 h (k + 1) = sumN 4 h k + (2 ^ 4 - 1 - coefN 4 h k) from rfl)
      have HBL := Lib.hid (backN_length 4 h k)
      have hgb := sl_gt_byte (backN 4 h k) (backN_bytes 4 h HB.out k) (k / (8 / 4))
      obtain ⟨c, hcc⟩ : ∃ c, coefN 4 h k = c := ⟨_, rfl⟩
      obtain ⟨s, hs⟩ : ∃ s, sumN 4 h k = s := ⟨_, rfl⟩
      obtain ⟨L, hL⟩ : ∃ L, backN 4 h k = L := ⟨_, rfl⟩
      rw [hcc] at cd hc HST HSU
      rw [hs] at hsu HSU ⊢
      rw [hL] at HST HBL x2 hgb
      have c1 : (c : Int) < 16 := by simp at hc; omega
      have s1 : (s : Int) ≤ 8160 := by simp at hsu; omega
      have X1 := Lib.hid x1; have X2 := Lib.hid x2; have X3 := Lib.hid x3; have X4 := Lib.hid x4; have X5 := Lib.hid x5
      clear x1 x2 x3 x4 x5 hcc hs hL hc hsu
      go_upto_region 14 with (fail)
      obtain ⟨j, hj⟩ : ∃ j, k * 4 = j := ⟨_, rfl⟩
      have hj' : k * 4 = j := by omega
      have j1 : (j : Int) < 256 := by omega
      have e1 : IntKind.i64.wrap ((k : Int) * 4) = (j : Int) := by rw [show (k : Int) * 4 = (j : Int) from by omega]; exact IntWalk.i64_in _ (by omega)
      have q0 : (0 : Int) ≤ (j : Int) / 8 := by omega
      have q1 : (j : Int) / 8 < 32 := by omega
      have cb : wr.cell? ⟨gb, j / 8, none⟩ = some (.int .u8 ((gt L (j / 8) : Nat) : Int)) := by rw [X2.out.cell, u8s_get _ _ (by rw [HBL.out]; omega)]
      have cf : wr.frozen? ⟨gb, j / 8, none⟩ = false := X2.out.frozen _
      rw [show k / (8 / 4) = j / 8 from by first | omega | simp | (simp; omega)] at HST hgb
      obtain ⟨y, hy⟩ : ∃ y, gt L (j / 8) = y := ⟨_, rfl⟩
      rw [hy] at HST hgb cb
      obtain ⟨t, ht⟩ : ∃ t, 8 - 4 * (k % (8 / 4) + 1) = t := ⟨_, rfl⟩
      rw [ht] at HST
      have t8 : t < 8 := by simp at ht; omega
      have e3 : IntKind.i64.wrap ((4 : Int) - (j : Int) % 8) = (t : Int) := by rw [show (4 : Int) - (j : Int) % 8 = (t : Int) from by simp at ht; omega]; exact IntWalk.i64_in _ (by omega)
      have hd : c * 2 ^ t < 256 := by
        have h1 : c ≤ 16 - 1 := by omega
        have h2 : t ≤ 8 - 4 := by simp at ht; omega
        have h3 : 2 ^ t ≤ 2 ^ (8 - 4) := Nat.pow_le_pow_right (by decide) h2
        have h4 := Nat.mul_le_mul h1 h3
        simp at h4
        omega
      obtain ⟨d, hdd⟩ : ∃ d, c * 2 ^ t = d := ⟨_, rfl⟩
      rw [hdd] at HST hd
      have e4 : IntKind.i64.wrap ((c : Int) * 2 ^ t) = (d : Int) := by rw [show (c : Int) * 2 ^ t = (d : Int) from by rw [← hdd]; simp]; exact IntWalk.i64_in _ (by omega)
      have e5 : bits .or .u8 (y : Int) (d : Int) = ((y ||| d : Nat) : Int) := or_u8 y d hgb hd
      have t1 : (t : Int) < 8 := by omega
      have d1 : (d : Int) < 256 := by omega
      have HJ := Lib.hid hj'; have HYY := Lib.hid hy
      clear hj hj' hy ht hdd
      refine wp_region_still_tail 26 (by kernel_rfl) (by kernel_rfl) ?_
      simp only [List.take_succ_cons, List.take_zero, List.drop_succ_cons, List.drop_zero]
      iterate 26 ((refine wpStill_step (fun K hK => ?_); go_simp; (try go_bits); refine hK _ ?_; clear hK K))
      refine wpStill_nil ?_
      go_wp2
      go_roundw
      case rel =>
        refine ⟨k + 1, by omega, by go_num, ?_, ?_, ?_, ?_, ?_, ?_⟩
        · rw [HSU.out]; exact congrArg (Value.int .i64) (by omega)
        · exact X1.out.far (by show w.heap.size ≠ gb; omega) _
        · have m2 := X2.out.store (j / 8) (.int .u8 ((y ||| d : Nat) : Int))
          rw [u8s_set] at m2
          rw [← HST.out]
          exact m2
        · intro q hq
          exact (World.cell?_setCell_other _ ⟨gb, j / 8, none⟩ ⟨gd, q, none⟩ _ (by intro e; have := congrArg Addr.block e; simp at this; omega)).trans (X3.out q hq)
        · exact HKI.out.kept ((X5.out.setCell (p := ⟨gb, j / 8, none⟩) (by show w.heap.size ≤ gb; omega) _).drew)
        · exact (X5.out.setCell (p := ⟨gb, j / 8, none⟩) (by show w.heap.size ≤ gb; omega) _).drew
      case measure => simp [intOf]; omega
    · obtain rfl : k = 64 := by omega
      rw [show ((64 : Nat) : Int) = 64 from rfl]
      rw [backN_last 4 (by decide) h HL.out] at x2
      obtain ⟨s, hs⟩ : ∃ s, sumN 4 h 64 = s := ⟨_, rfl⟩
      rw [hs] at hsu ⊢
      have s1 : (s : Int) ≤ 8160 := by simp at hsu; omega
      have HSS := Lib.hid hs; have HSL := Lib.hid hsu
      have X1 := Lib.hid x1; have X2 := Lib.hid x2; have X3 := Lib.hid x3; have X5 := Lib.hid x5
      clear x1 x2 x3 x4 x5 hs hsu hk hlt
      go_upto_region 17 with (fail)
      have hck : cksN 4 4 h < 65536 := by unfold cksN; rw [show 256 / 4 = 64 from rfl, HSS.out]; have := HSL.out; simp at this ⊢; omega
      have HCK := Lib.hid hck
      obtain ⟨C, hC⟩ : ∃ C, cksN 4 4 h = C := ⟨_, rfl⟩
      rw [hC] at HCK hck
      have HCC := Lib.hid hC
      clear hC
      go_loopw [12, 13] (fun s i wx => ∃ m j : Nat, j = 64 + m ∧ j ≤ 67 ∧ i = .int .i64 (j : Int) ∧ s = .int .i64 ((C / 2 ^ (16 - 4 * m) : Nat) : Int) ∧ wx = wr) (fun _ i _ => 67 - (intOf i).toNat)
      case atStart => exact ⟨0, 64, rfl, by omega, rfl, congrArg (Value.int .i64) (by simp; omega), by first | rfl | trivial⟩
      case round =>
        obtain ⟨m, j, hj, hj3, rfl, rfl, rfl⟩ := hrel
        by_cases hlt : j < 67
        · have j1 : (j : Int) < 67 := by omega
          have HJ := Lib.hid hj
          have hm2 : m < 67 - 64 := by omega
          have GS := Lib.hid (glue_step 4 C HCK.out h HL.out m (by simp at hm2 ⊢; omega))
          have cd := (X3.out j hlt).trans (by rw [show digN (kd 2).w (kd 2).ls h j = coefN 4 (h ++ [C / 256 % 256, C % 256]) (256 / 4 + m) from by rw [← HCC.out, show 256 / 4 + m = j from HJ.out.symm]; rfl])
          have hc := coefN_lt 4 (h ++ [C / 256 % 256, C % 256]) (256 / 4 + m)
          obtain ⟨c, hcc⟩ : ∃ c, coefN 4 (h ++ [C / 256 % 256, C % 256]) (256 / 4 + m) = c := ⟨_, rfl⟩
          have hg : C / 2 ^ (16 - 4 * m) ≤ 65535 := Nat.le_trans (Nat.div_le_self _ _) (by omega)
          obtain ⟨q, hq⟩ : ∃ q, C / 2 ^ (16 - 4 * m) = q := ⟨_, rfl⟩
          rw [hcc] at cd hc GS
          rw [hq] at hg GS ⊢
          have q1 : (q : Int) ≤ 65535 := by omega
          have eg : bits .or .i64 ((q : Int) * 16) (c : Int) = ((q * 2 ^ 4 + c : Nat) : Int) := by
            rw [show (q : Int) * 16 = ((q * 2 ^ 4 : Nat) : Int) from by rw [Int.natCast_mul]; rfl, or_i64 _ _ (by simp; omega) (by simp at hc; omega), or_glue q c 4 hc]
          clear hcc hq hg hj hm2 hck hc
          go_wp2
          go_roundw
          case rel =>
            refine ⟨m + 1, j + 1, by have := HJ.out; omega, by omega, by go_num, ?_, by first | rfl | trivial⟩
            exact congrArg (Value.int .i64) (by rw [GS.out]; simp)
          case measure => simp [intOf]; omega
        · obtain rfl : j = 67 := by omega
          obtain rfl : m = 67 - 64 := by omega
          have hcs : C / 2 ^ (16 - 4 * (67 - 64)) = s := by rw [← HCC.out]; unfold cksN; rw [show 256 / 4 = 64 from rfl, HSS.out]; simp
          rw [hcs]
          have he : ∀ W, (binOp .eql 23 (.agg (u8s h).toArray) (.agg (u8s h).toArray)).run Tryd.prog W = .ok (.bool true) W := fun W => eql_same h HL.out W
          clear hcs hj hj3 hlt hck
          have bx := (Below.refl wr.heap.size wr).alloc (Nat.le_refl _) (.cells #[.int .i64 7, .int .i64 6, .int .i64 4, .int .i64 0] 3)
          have X6 := Lib.hid (X5.out.trans (bx.mono X5.out.size)); have Y1 := Lib.hid (X1.out.below bx X1.out.lt); have Y2 := Lib.hid (X2.out.below bx X2.out.lt)
          clear bx
          go_wp2_with fail
          refine (told_t _ (HKI.out.kept X6.out)).mono ?_
          rintro e w6 ⟨rfl, b⟩
          have Y6 := Lib.hid (X6.out.trans (b.mono X6.out.size)); have Z1 := Lib.hid (Y1.out.below b Y1.out.lt); have Z2 := Lib.hid (Y2.out.below b Y2.out.lt)
          clear b
          go_wp2_with (first
            | ((with_reducible refine load_blk_g 23 (.tmp 10) gb 23 (u8s h) _ ?_ rfl ?_ Tryd.underlying23 ?_ ?_ ?_ ?_); kernel_rfl; exact Z2.out; exact rfl; exact size32 _ HL.out; exact rfl)
            | ((with_reducible refine load_blk_g 23 (.tmp 2) w.heap.size 23 (u8s h) _ ?_ rfl ?_ Tryd.underlying23 ?_ ?_ ?_ ?_); kernel_rfl; exact Z1.out; exact rfl; exact size32 _ HL.out; exact rfl))
          go_ret
          refine ⟨?_, Y6.out⟩
          simp
set_option maxRecDepth 100000 in
set_option maxHeartbeats 4000000 in
theorem sums_3 (h : List Nat) (n : Int) (w : World) (hl : h.length = 32) (hb : Bytes h) (hki : KI w) (hke : wrap64 ((IntKind.u64.wrap n).tmod 4) = 3) :
    Calls Tryd.prog 6 #[.agg (u8s h).toArray, .int .i64 n] w fun e w' => e = .returned (.bool true) ∧ Below w.heap.size w w' := by
  have HL := Lib.hid hl; have HB := Lib.hid hb; have HKI := Lib.hid hki
  have b0 := (Below.refl w.heap.size w).alloc (Nat.le_refl _) (.cells (u8s h).toArray 23)
  have B0 := Lib.hid b0; have H0 := Lib.hid (Blk.new w 23 (u8s h)); have KI0 := Lib.hid (hki.kept b0)
  clear hl hb hki b0
  go_enter Tryd.func6, Tryd.ntmps6
  go_upto_region 2 with (fail)
  refine world_is (fun W => Blk W w.heap.size 23 (u8s h) ∧ KI W ∧ Below w.heap.size w W) ⟨H0.out.alloc _, KI0.out.kept ((Below.refl _ _).alloc (Nat.le_refl _) _), B0.out.alloc B0.out.size _⟩ ?_
  rintro W ⟨h1, k1, b1⟩
  have H1 := Lib.hid h1; have KI1 := Lib.hid k1; have B1 := Lib.hid b1
  clear h1 k1 b1 H0 KI0 B0
  go_wp2_with ((with_reducible refine load_blk 23 (.tmp 2) w.heap.size 23 (u8s h) _ rfl rfl ?_ Tryd.underlying23 ?_ ?_ ?_ ?_); exact H1.out; exact rfl; exact size32 _ HL.out; exact rfl)
  refine digitsCall_t 8 h W HL.out HB.out KI1.out _ (fun i v w1 hi hn fr => ?_) (fun _ hno _ => absurd rfl (hno 3 (by decide)))
  obtain rfl := kd_inj (show 3 < 4 by decide) hi (show (kd 3).w = (kd i).w by change 8 = (kd i).w; omega)
  obtain ⟨gd, cd, rfl, hcd, hv, lgd⟩ := own_cell fr.1 (by rw [digs_length]; decide)
  rw [digs_length, show (kd 3).p = 34 from rfl] at hv hcd ⊢
  have HV := Lib.hid (fun j (hj : j < 34) => (hv j hj).trans (by rw [digs_get 3 h j hj]))
  have CH := Lib.hid (fun W hW => chains_of 3 (by decide) W hW)
  have KI2 := Lib.hid (KI1.out.kept fr.2); have B2 := Lib.hid (B1.out.trans (fr.2.mono B1.out.size)); have H2 := Lib.hid (H1.out.below fr.2 H1.out.lt)
  have ghd : w.heap.size < w1.heap.size := H2.out.lt
  clear fr hcd hn hi hv H1 KI1 B1
  go_wp2_with fail
  refine (CH.out _ KI2.out).mono ?_
  rintro e w2 ⟨rfl, b⟩
  rw [show (kd 3).p = 34 from rfl]
  have KI3 := Lib.hid (KI2.out.kept b); have B3 := Lib.hid (B2.out.trans (b.mono B2.out.size)); have H3 := Lib.hid (H2.out.below b H2.out.lt)
  have HV3 := Lib.hid (fun j (hj : j < 34) => (b.cell (p := ⟨gd, j, none⟩) lgd).trans (HV.out j hj))
  have lg2 : gd < w2.heap.size := Nat.lt_of_lt_of_le lgd b.size
  clear b HV KI2 B2 H2 ghd lgd CH
  go_upto_region 9 with (fail)
  have ba := (Below.refl w2.heap.size w2).alloc (Nat.le_refl _) (.cells (u8s z32).toArray 23)
  refine world_is (fun X => Blk X w.heap.size 23 (u8s h) ∧ Blk X w2.heap.size 23 (u8s (backN 8 h 0)) ∧ (∀ j, j < 34 → X.cell? ⟨gd, j, none⟩ = some (.int .i64 ((digN (kd 3).w (kd 3).ls h j : Nat) : Int))) ∧ KI X ∧ Below w.heap.size w X)
    ⟨H3.out.below ba H3.out.lt, by rw [backN_zero 8 h HB.out]; exact Blk.new w2 _ _, fun j hj => (ba.cell (p := ⟨gd, j, none⟩) lg2).trans (HV3.out j hj), KI3.out.kept ba, B3.out.trans (ba.mono B3.out.size)⟩ ?_
  rintro X ⟨x1, x2, x3, x4, x5⟩
  obtain ⟨gb, hgb⟩ : ∃ g, w2.heap.size = g := ⟨_, rfl⟩
  rw [hgb] at x2 lg2 ⊢
  have X1 := Lib.hid x1; have X2 := Lib.hid x2; have X3 := Lib.hid x3; have X4 := Lib.hid x4; have X5 := Lib.hid x5
  have lgw : w.heap.size < gb := by rw [← hgb]; exact H3.out.lt
  clear x1 x2 x3 x4 x5 ba hgb H3 HV3 KI3 B3
  go_loopw [9, 11] (fun s i wr => ∃ k : Nat, k ≤ 32 ∧ i = .int .i64 k ∧ s = .int .i64 ((sumN 8 h k : Nat) : Int) ∧ Blk wr w.heap.size 23 (u8s h) ∧ Blk wr gb 23 (u8s (backN 8 h k)) ∧ (∀ j, j < 34 → wr.cell? ⟨gd, j, none⟩ = some (.int .i64 ((digN (kd 3).w (kd 3).ls h j : Nat) : Int))) ∧ KI wr ∧ Below w.heap.size w wr) (fun _ i _ => 32 - (intOf i).toNat)
  case atStart => exact ⟨0, by omega, rfl, rfl, X1.out, X2.out, X3.out, X4.out, X5.out⟩
  case round =>
    clear X1 X2 X3 X4 X5
    obtain ⟨k, hk, rfl, rfl, x1, x2, x3, x4, x5⟩ := hrel
    have hsu := sumN_le 8 h k
    by_cases hlt : k < 32
    · have i1 : (k : Int) < 32 := by omega
      have cd := (x3 k (by omega)).trans (by rw [show digN (kd 3).w (kd 3).ls h k = coefN 8 h k from digN_own 8 0 (by decide) h HL.out k (by simpa using hlt)])
      have hc := coefN_lt 8 h k
      have HST := Lib.hid (backN_step 8 (by decide) h HB.out k (by simpa using hlt))
      have HSU := Lib.hid (show sumN 8 h (k + 1) = sumN 8 h k + (2 ^ 8 - 1 - coefN 8 h k) from rfl)
      have HBL := Lib.hid (backN_length 8 h k)
      have hgb := sl_gt_byte (backN 8 h k) (backN_bytes 8 h HB.out k) (k / (8 / 8))
      obtain ⟨c, hcc⟩ : ∃ c, coefN 8 h k = c := ⟨_, rfl⟩
      obtain ⟨s, hs⟩ : ∃ s, sumN 8 h k = s := ⟨_, rfl⟩
      obtain ⟨L, hL⟩ : ∃ L, backN 8 h k = L := ⟨_, rfl⟩
      rw [hcc] at cd hc HST HSU
      rw [hs] at hsu HSU ⊢
      rw [hL] at HST HBL x2 hgb
      have c1 : (c : Int) < 256 := by simp at hc; omega
      have s1 : (s : Int) ≤ 8160 := by simp at hsu; omega
      have X1 := Lib.hid x1; have X2 := Lib.hid x2; have X3 := Lib.hid x3; have X4 := Lib.hid x4; have X5 := Lib.hid x5
      clear x1 x2 x3 x4 x5 hcc hs hL hc hsu
      go_upto_region 14 with (fail)
      obtain ⟨j, hj⟩ : ∃ j, k * 8 = j := ⟨_, rfl⟩
      have hj' : k * 8 = j := by omega
      have j1 : (j : Int) < 256 := by omega
      have e1 : IntKind.i64.wrap ((k : Int) * 8) = (j : Int) := by rw [show (k : Int) * 8 = (j : Int) from by omega]; exact IntWalk.i64_in _ (by omega)
      have q0 : (0 : Int) ≤ (j : Int) / 8 := by omega
      have q1 : (j : Int) / 8 < 32 := by omega
      have cb : wr.cell? ⟨gb, j / 8, none⟩ = some (.int .u8 ((gt L (j / 8) : Nat) : Int)) := by rw [X2.out.cell, u8s_get _ _ (by rw [HBL.out]; omega)]
      have cf : wr.frozen? ⟨gb, j / 8, none⟩ = false := X2.out.frozen _
      rw [show k / (8 / 8) = j / 8 from by first | omega | simp | (simp; omega)] at HST hgb
      obtain ⟨y, hy⟩ : ∃ y, gt L (j / 8) = y := ⟨_, rfl⟩
      rw [hy] at HST hgb cb
      obtain ⟨t, ht⟩ : ∃ t, 8 - 8 * (k % (8 / 8) + 1) = t := ⟨_, rfl⟩
      rw [ht] at HST
      have t8 : t < 8 := by simp at ht; omega
      have e3 : IntKind.i64.wrap (-((j : Int) % 8)) = (t : Int) := by rw [show -((j : Int) % 8) = (t : Int) from by simp at ht; omega]; exact IntWalk.i64_in _ (by omega)
      have hd : c * 2 ^ t < 256 := by
        have h1 : c ≤ 256 - 1 := by omega
        have h2 : t ≤ 8 - 8 := by simp at ht; omega
        have h3 : 2 ^ t ≤ 2 ^ (8 - 8) := Nat.pow_le_pow_right (by decide) h2
        have h4 := Nat.mul_le_mul h1 h3
        simp at h4
        omega
      obtain ⟨d, hdd⟩ : ∃ d, c * 2 ^ t = d := ⟨_, rfl⟩
      rw [hdd] at HST hd
      have e4 : IntKind.i64.wrap ((c : Int) * 2 ^ t) = (d : Int) := by rw [show (c : Int) * 2 ^ t = (d : Int) from by rw [← hdd]; simp]; exact IntWalk.i64_in _ (by omega)
      have e5 : bits .or .u8 (y : Int) (d : Int) = ((y ||| d : Nat) : Int) := or_u8 y d hgb hd
      have t1 : (t : Int) < 8 := by omega
      have d1 : (d : Int) < 256 := by omega
      have HJ := Lib.hid hj'; have HYY := Lib.hid hy
      clear hj hj' hy ht hdd
      refine wp_region_still_tail 26 (by kernel_rfl) (by kernel_rfl) ?_
      simp only [List.take_succ_cons, List.take_zero, List.drop_succ_cons, List.drop_zero]
      iterate 26 ((refine wpStill_step (fun K hK => ?_); go_simp; (try go_bits); refine hK _ ?_; clear hK K))
      refine wpStill_nil ?_
      go_wp2
      go_roundw
      case rel =>
        refine ⟨k + 1, by omega, by go_num, ?_, ?_, ?_, ?_, ?_, ?_⟩
        · rw [HSU.out]; exact congrArg (Value.int .i64) (by omega)
        · exact X1.out.far (by show w.heap.size ≠ gb; omega) _
        · have m2 := X2.out.store (j / 8) (.int .u8 ((y ||| d : Nat) : Int))
          rw [u8s_set] at m2
          rw [← HST.out]
          exact m2
        · intro q hq
          exact (World.cell?_setCell_other _ ⟨gb, j / 8, none⟩ ⟨gd, q, none⟩ _ (by intro e; have := congrArg Addr.block e; simp at this; omega)).trans (X3.out q hq)
        · exact HKI.out.kept ((X5.out.setCell (p := ⟨gb, j / 8, none⟩) (by show w.heap.size ≤ gb; omega) _).drew)
        · exact (X5.out.setCell (p := ⟨gb, j / 8, none⟩) (by show w.heap.size ≤ gb; omega) _).drew
      case measure => simp [intOf]; omega
    · obtain rfl : k = 32 := by omega
      rw [show ((32 : Nat) : Int) = 32 from rfl]
      rw [backN_last 8 (by decide) h HL.out] at x2
      obtain ⟨s, hs⟩ : ∃ s, sumN 8 h 32 = s := ⟨_, rfl⟩
      rw [hs] at hsu ⊢
      have s1 : (s : Int) ≤ 8160 := by simp at hsu; omega
      have HSS := Lib.hid hs; have HSL := Lib.hid hsu
      have X1 := Lib.hid x1; have X2 := Lib.hid x2; have X3 := Lib.hid x3; have X5 := Lib.hid x5
      clear x1 x2 x3 x4 x5 hs hsu hk hlt
      go_upto_region 17 with (fail)
      have hck : cksN 8 0 h < 65536 := by unfold cksN; rw [show 256 / 8 = 32 from rfl, HSS.out]; have := HSL.out; simp at this ⊢; omega
      have HCK := Lib.hid hck
      obtain ⟨C, hC⟩ : ∃ C, cksN 8 0 h = C := ⟨_, rfl⟩
      rw [hC] at HCK hck
      have HCC := Lib.hid hC
      clear hC
      go_loopw [12, 13] (fun s i wx => ∃ m j : Nat, j = 32 + m ∧ j ≤ 34 ∧ i = .int .i64 (j : Int) ∧ s = .int .i64 ((C / 2 ^ (16 - 8 * m) : Nat) : Int) ∧ wx = wr) (fun _ i _ => 34 - (intOf i).toNat)
      case atStart => exact ⟨0, 32, rfl, by omega, rfl, congrArg (Value.int .i64) (by simp; omega), by first | rfl | trivial⟩
      case round =>
        obtain ⟨m, j, hj, hj3, rfl, rfl, rfl⟩ := hrel
        by_cases hlt : j < 34
        · have j1 : (j : Int) < 34 := by omega
          have HJ := Lib.hid hj
          have hm2 : m < 34 - 32 := by omega
          have GS := Lib.hid (glue_step 8 C HCK.out h HL.out m (by simp at hm2 ⊢; omega))
          have cd := (X3.out j hlt).trans (by rw [show digN (kd 3).w (kd 3).ls h j = coefN 8 (h ++ [C / 256 % 256, C % 256]) (256 / 8 + m) from by rw [← HCC.out, show 256 / 8 + m = j from HJ.out.symm]; rfl])
          have hc := coefN_lt 8 (h ++ [C / 256 % 256, C % 256]) (256 / 8 + m)
          obtain ⟨c, hcc⟩ : ∃ c, coefN 8 (h ++ [C / 256 % 256, C % 256]) (256 / 8 + m) = c := ⟨_, rfl⟩
          have hg : C / 2 ^ (16 - 8 * m) ≤ 65535 := Nat.le_trans (Nat.div_le_self _ _) (by omega)
          obtain ⟨q, hq⟩ : ∃ q, C / 2 ^ (16 - 8 * m) = q := ⟨_, rfl⟩
          rw [hcc] at cd hc GS
          rw [hq] at hg GS ⊢
          have q1 : (q : Int) ≤ 65535 := by omega
          have eg : bits .or .i64 ((q : Int) * 256) (c : Int) = ((q * 2 ^ 8 + c : Nat) : Int) := by
            rw [show (q : Int) * 256 = ((q * 2 ^ 8 : Nat) : Int) from by rw [Int.natCast_mul]; rfl, or_i64 _ _ (by simp; omega) (by simp at hc; omega), or_glue q c 8 hc]
          clear hcc hq hg hj hm2 hck hc
          go_wp2
          go_roundw
          case rel =>
            refine ⟨m + 1, j + 1, by have := HJ.out; omega, by omega, by go_num, ?_, by first | rfl | trivial⟩
            exact congrArg (Value.int .i64) (by rw [GS.out]; simp)
          case measure => simp [intOf]; omega
        · obtain rfl : j = 34 := by omega
          obtain rfl : m = 34 - 32 := by omega
          have hcs : C / 2 ^ (16 - 8 * (34 - 32)) = s := by rw [← HCC.out]; unfold cksN; rw [show 256 / 8 = 32 from rfl, HSS.out]; simp
          rw [hcs]
          have he : ∀ W, (binOp .eql 23 (.agg (u8s h).toArray) (.agg (u8s h).toArray)).run Tryd.prog W = .ok (.bool true) W := fun W => eql_same h HL.out W
          clear hcs hj hj3 hlt hck
          have bx := (Below.refl wr.heap.size wr).alloc (Nat.le_refl _) (.cells #[.int .i64 7, .int .i64 6, .int .i64 4, .int .i64 0] 3)
          have X6 := Lib.hid (X5.out.trans (bx.mono X5.out.size)); have Y1 := Lib.hid (X1.out.below bx X1.out.lt); have Y2 := Lib.hid (X2.out.below bx X2.out.lt)
          clear bx
          go_wp2_with fail
          refine (told_t _ (HKI.out.kept X6.out)).mono ?_
          rintro e w6 ⟨rfl, b⟩
          have Y6 := Lib.hid (X6.out.trans (b.mono X6.out.size)); have Z1 := Lib.hid (Y1.out.below b Y1.out.lt); have Z2 := Lib.hid (Y2.out.below b Y2.out.lt)
          clear b
          go_wp2_with (first
            | ((with_reducible refine load_blk_g 23 (.tmp 10) gb 23 (u8s h) _ ?_ rfl ?_ Tryd.underlying23 ?_ ?_ ?_ ?_); kernel_rfl; exact Z2.out; exact rfl; exact size32 _ HL.out; exact rfl)
            | ((with_reducible refine load_blk_g 23 (.tmp 2) w.heap.size 23 (u8s h) _ ?_ rfl ?_ Tryd.underlying23 ?_ ?_ ?_ ?_); kernel_rfl; exact Z1.out; exact rfl; exact size32 _ HL.out; exact rfl))
          go_ret
          refine ⟨?_, Y6.out⟩
          simp
theorem sums_t (h : List Nat) (n : Int) (w : World) (hl : h.length = 32) (hb : Bytes h) (hki : KI w) :
    Calls Tryd.prog 6 #[.agg (u8s h).toArray, .int .i64 n] w fun e w' => e = .returned (.bool true) ∧ Below w.heap.size w w' := by
  obtain ⟨k, hk4, hke⟩ := mod_of 4 (by decide) (by decide) n
  rw [show ((4 : Nat) : Int) = 4 from rfl] at hke
  have : k = 0 ∨ k = 1 ∨ k = 2 ∨ k = 3 := by omega
  rcases this with rfl | rfl | rfl | rfl
  · exact sums_0 h n w hl hb hki hke
  · exact sums_1 h n w hl hb hki hke
  · exact sums_2 h n w hl hb hki hke
  · exact sums_3 h n w hl hb hki hke
end Go.Proofs.YtahghfjjpbjemaaDoor
