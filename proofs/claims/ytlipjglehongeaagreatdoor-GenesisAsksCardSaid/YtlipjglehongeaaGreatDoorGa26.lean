/-
  LAYER 10's laws
  Small things that the laws of layer 10 want (picked out of t
-/
import Derived.Test.YtlipjglehongeaaGreatDoorGa25
import Derived.Deep.CutBlock
namespace Go.Proofs.YtlipjglehongeaaGreatDoor
open Go Go.RowKit Sh

def fakeE (f : Nat) (rd wr : Int) : Ge := ⟨(f : Int), rd, wr, (List.range (3 * f + 1)).map fakeX, []⟩
theorem fakeE_ok (f : Nat) (rd wr : Int) (hf : f ≤ 2) (h1 : alB rd = true) (h2 : alB wr = true) : begQ (fakeE f rd wr) = true := by
  unfold begQ fakeE
  dsimp only
  rw [h1, h2]
  have hk : mayK (f : Int) ((List.range (3 * f + 1)).map fakeX) = true := by
    unfold mayK
    rw [List.length_map, List.length_range, decide_eq_true (by omega), Bool.true_and, List.all_eq_true]
    intro y hy
    obtain ⟨i, hi, rfl⟩ := List.mem_map.1 hy
    exact fakeX_form i (by have := List.mem_range.1 hi; omega)
  rw [hk]
  have hf2 : fltB (f : Int) = true := by unfold fltB; rw [decide_eq_true (by omega), decide_eq_true (by omega)]; rfl
  rw [hf2]
  rfl
theorem fakeE_len (f : Nat) (rd wr : Int) : (putE (fakeE f rd wr)).length = 7 + 56 * (3 * f + 1) := by
  unfold putE putG fakeE
  dsimp only
  have h : (((List.range (3 * f + 1)).map fakeX).flatten).length = 56 * (3 * f + 1) := by
    rw [flat56 (fun x hx => by obtain ⟨i, _, rfl⟩ := List.mem_map.1 hx; exact fakeX_len i), List.length_map, List.length_range]
  simp only [List.length_append, beN_length, h, txtN, List.length_nil]
  omega
theorem putE_bytes {e : Ge} (hk : ∀ x ∈ e.ks, Bytes x) (hs : Bytes e.st) : Bytes (putE e) := by
  have hf : ∀ l : List (List Nat), (∀ x ∈ l, Bytes x) → Bytes l.flatten := fun l => by
    induction l with
    | nil => intro _; exact nil_bytes
    | cons a l ih => intro h; rw [List.flatten_cons]; exact app_bytes (h a List.mem_cons_self) (ih fun y hy => h y (List.mem_cons_of_mem _ hy))
  exact app_bytes (beN_bytes _ _) (app_bytes (beN_bytes _ _) (app_bytes (beN_bytes _ _) (app_bytes (hf _ hk) (app_bytes (beN_bytes _ _) hs))))
theorem fakeE_bytes (f : Nat) (rd wr : Int) (hf : f ≤ 2) : Bytes (putE (fakeE f rd wr)) := putE_bytes (fun x hx => by
  obtain ⟨i, hi, rfl⟩ := List.mem_map.1 hx
  exact fakeX_bytes i (by have := List.mem_range.1 hi; omega)) nil_bytes
theorem zG_no : begB zGv = false := rfl
theorem erP_yes {x : Gv} (h : begQ x.ge = true) : erP x = 0 := if_pos h
theorem byP_yes {x : Gv} (h : begQ x.ge = true) : byP x = putE x.ge := if_pos h
theorem field_wr (z : Spv) (W : World) : (Instr.field 46 (.agg (sv z).toArray) 4).run Tryz.prog W = .ok (.int .i64 z.wr) W := by
  obtain ⟨now, its, ip, ic, wts, wp, wc, rd, wr, last⟩ := z
  kernel_rfl
set_option maxRecDepth 100000 in
set_option maxHeartbeats 4000000 in
theorem told10_t (w : World) (hk : KI w) : Calls Tryz.prog 10 #[] w fun e w' => e = .returned (.bool true) ∧ Below w.heap.size w w' := by
  have HK := Lib.hid hk
  clear hk
  go_enter Tryz.func10, Tryz.ntmps10
  go_wp2_with fail
  refine (fake_t 0 15 15 (by decide) w).mono ?_
  rintro e w1 ⟨x, hx, rfl, gx, b1⟩
  have hx : x.ge = fakeE 0 15 15 := hx
  have FX_x := Lib.hid (gv_size x); have FO_x := Lib.hid (gv_one x)
  have Z_x := Lib.hid (Blk.new w1 25 (gv zGv))
  have K_x := Lib.hid (Z_x.out.setRow (gv x))
  have B_x := Lib.hid (below_setRow ((Below.refl (w1).heap.size w1).alloc (Nat.le_refl _) (.cells (gv zGv).toArray 25)) (Nat.le_refl _) (gv x).toArray)
  go_upto_region 2 with ((with_reducible refine at_op (.store 25 (.tmp 1) (.tmp 8)) rfl ?_); go_must (refine store_blk 25 (.tmp 1) (.tmp 8) (w1).heap.size 25 (gv zGv) (gv x) rfl rfl Z_x.out rfl FX_x.out FO_x.out rfl rfl ?_))
  obtain ⟨V1, hV1⟩ : ∃ V, ((w1).alloc (.cells (gv zGv).toArray 25)).setRow (w1).heap.size (gv x).toArray = V := ⟨_, rfl⟩
  change Code.wp _ _ _ _ (((w1).alloc (.cells (gv zGv).toArray 25)).setRow (w1).heap.size (gv x).toArray)
  rw [hV1] at K_x B_x ⊢
  clear hV1 Z_x FO_x
  have GX := Lib.hid (gx.below B_x.out); have HX := Lib.hid hx
  have BW := Lib.hid (b1.trans (B_x.out.mono b1.size))
  obtain ⟨g1, hg1⟩ : ∃ g, w1.heap.size = g := ⟨_, rfl⟩
  rw [hg1] at K_x ⊢
  clear gx hx b1 B_x hg1
  have hq : begQ x.ge = true := by rw [HX.out]; exact fakeE_ok 0 15 15 (by decide) rfl rfl
  have PT := Lib.hid (gPut_t x V1 GX.out (HK.out.kept BW.out))
  rw [erP_yes hq, byP_yes hq, HX.out] at PT
  clear hq
  go_wp2_with ((with_reducible refine load_blk 25 (.tmp 1) g1 25 (gv x) _ rfl rfl ?_ Tryz.underlying25 ?_ ?_ ?_ ?_); exact K_x.out; exact rfl; exact FX_x.out; exact rfl)
  refine PT.out.mono ?_
  rintro e w3 ⟨u, rfl, fr⟩
  obtain ⟨xs, hxs⟩ : ∃ l, putE (fakeE 0 15 15) = l := ⟨_, rfl⟩
  rw [hxs] at fr
  have XL := Lib.hid (show xs.length = 63 from by rw [← hxs, fakeE_len 0 15 15])
  have XB := Lib.hid (show Bytes xs from by rw [← hxs]; exact fakeE_bytes 0 15 15 (by decide))
  have OKX := Lib.hid (show gotE xs = fakeE 0 15 15 ∧ okE xs = true from by rw [← hxs]; exact frontE_ok (fakeE_ok 0 15 15 (by decide) rfl rfl) (by decide))
  obtain ⟨A, c, hu, hc⟩ := own_form fr.1
  have S3 := Lib.hid (show Sr w3 A xs from by have h := fr.1; rw [hu] at h; exact Sr.of_own h)
  rw [XL.out] at hu
  subst hu
  have K3 := Lib.hid (K_x.out.below fr.2 K_x.out.lt); have GX3 := Lib.hid (GX.out.below fr.2)
  have B3 := Lib.hid (BW.out.trans (fr.2.mono BW.out.size))
  clear fr hxs hc PT K_x GX BW
  have GT := Lib.hid (gGet_t xs A 63 c w3 XL.out S3.out XB.out (by decide) (HK.out.kept B3.out))
  go_wp2_with fail
  refine GT.out.mono ?_
  rintro e w4 ⟨b4, hh⟩
  obtain ⟨y, hy, rfl, gy⟩ : ∃ y : Gv, y.ge = fakeE 0 15 15 ∧ e = .returned (.tuple #[.agg (gv y).toArray, .int .i64 0]) ∧ GvW w4 y := by
    rcases hh with ⟨h1, _⟩ | ⟨_, y, h1, h2, h3⟩
    · rw [OKX.out.2] at h1; cases h1
    · exact ⟨y, h1.trans OKX.out.1, h2, h3⟩
  have K4 := Lib.hid (K3.out.below b4 K3.out.lt); have GX4 := Lib.hid (GX3.out.below b4)
  have B4 := Lib.hid (B3.out.trans (b4.mono B3.out.size))
  clear hh GT K3 GX3 B3 b4 S3 OKX XB
  have FX_y := Lib.hid (gv_size y); have FO_y := Lib.hid (gv_one y)
  have Z_y := Lib.hid (Blk.new w4 25 (gv zGv))
  have K_y := Lib.hid (Z_y.out.setRow (gv y))
  have B_y := Lib.hid (below_setRow ((Below.refl (w4).heap.size w4).alloc (Nat.le_refl _) (.cells (gv zGv).toArray 25)) (Nat.le_refl _) (gv y).toArray)
  go_upto_region 4 with ((with_reducible refine at_op (.store 25 (.tmp 4) (.tmp 17)) rfl ?_); go_must (refine store_blk 25 (.tmp 4) (.tmp 17) (w4).heap.size 25 (gv zGv) (gv y) rfl rfl Z_y.out rfl FX_y.out FO_y.out rfl rfl ?_))
  obtain ⟨V4, hV4⟩ : ∃ V, ((w4).alloc (.cells (gv zGv).toArray 25)).setRow (w4).heap.size (gv y).toArray = V := ⟨_, rfl⟩
  change Code.wp _ _ _ _ (((w4).alloc (.cells (gv zGv).toArray 25)).setRow (w4).heap.size (gv y).toArray)
  rw [hV4] at K_y B_y ⊢
  clear hV4 Z_y FO_y
  have GY := Lib.hid (gy.below B_y.out); have HY := Lib.hid hy
  have K5 := Lib.hid (K4.out.below B_y.out K4.out.lt); have GX5 := Lib.hid (GX4.out.below B_y.out)
  have B5 := Lib.hid (B4.out.trans (B_y.out.mono B4.out.size))
  obtain ⟨g2, hg2⟩ : ∃ g, w4.heap.size = g := ⟨_, rfl⟩
  rw [hg2] at K_y ⊢
  clear gy hy B_y hg2 K4 GX4 B4
  have BZ := built_gz
  have PZ := Lib.hid (gPut_t zGv V4 (zGv_w V4) (HK.out.kept B5.out))
  rw [show erP zGv = 1 from if_neg (by rw [zG_no]; decide)] at PZ
  go_wp2_with fail
  refine PZ.out.mono ?_
  rintro e w5 ⟨u, rfl, fr⟩
  have b5 := fr.2
  have K6 := Lib.hid (K5.out.below b5 K5.out.lt); have KY6 := Lib.hid (K_y.out.below b5 K_y.out.lt); have GX6 := Lib.hid (GX5.out.below b5); have GY6 := Lib.hid (GY.out.below b5)
  have B6 := Lib.hid (B5.out.trans (b5.mono B5.out.size))
  clear fr b5 K5 K_y GX5 GY B5 PZ
  have SM := Lib.hid (gSame_t y x w5 GY6.out GX6.out)
  rw [HY.out, HX.out, sameE_iff.2 rfl] at SM
  go_wp2_with (first
    | ((with_reducible refine load_blk_gdO 36 25 (.tmp 4) g2 25 (gv y) _ ?_ ?_ rfl ?_ Tryz.underlying25 ?_ ?_ ?_ ?_); exact rfl; kernel_rfl; exact KY6.out; exact rfl; exact FX_y.out; exact rfl)
    | ((with_reducible refine load_blk_gdO 37 25 (.tmp 1) g1 25 (gv x) _ ?_ ?_ rfl ?_ Tryz.underlying25 ?_ ?_ ?_ ?_); exact rfl; kernel_rfl; exact K6.out; exact rfl; exact FX_x.out; exact rfl))
  refine SM.out.mono ?_
  rintro e w6 ⟨rfl, b6⟩
  have K7 := Lib.hid (K6.out.below b6 K6.out.lt); have GX7 := Lib.hid (GX6.out.below b6)
  have B7 := Lib.hid (B6.out.trans (b6.mono B6.out.size))
  clear b6 K6 KY6 GX6 GY6 B6 SM
  have MT := Lib.hid (gMay_t x w6 GX7.out (HK.out.kept B7.out))
  rw [begB_Q, HX.out, fakeE_ok 0 15 15 (by decide) rfl rfl] at MT
  go_wp2_with ((with_reducible refine load_blk_gdO 45 25 (.tmp 1) g1 25 (gv x) _ ?_ ?_ rfl ?_ Tryz.underlying25 ?_ ?_ ?_ ?_); exact rfl; kernel_rfl; exact K7.out; exact rfl; exact FX_x.out; exact rfl)
  refine MT.out.mono ?_
  rintro e w7 ⟨rfl, b7⟩
  have K8 := Lib.hid (K7.out.below b7 K7.out.lt); have GX8 := Lib.hid (GX7.out.below b7)
  have B8 := Lib.hid (B7.out.trans (b7.mono B7.out.size))
  clear b7 K7 GX7 B7 MT
  obtain ⟨S, hS⟩ : ∃ S, zH = S := ⟨_, rfl⟩
  have hSl : S.length = 32 := by rw [← hS]; rfl
  have eqh2 : ∀ w, (Op.equalIn 10000 36 (.agg (u8s S).toArray) (.agg #[Value.int IntKind.u8 0, Value.int IntKind.u8 0, Value.int IntKind.u8 0, Value.int IntKind.u8 0, Value.int IntKind.u8 0, Value.int IntKind.u8 0, Value.int IntKind.u8 0, Value.int IntKind.u8 0, Value.int IntKind.u8 0, Value.int IntKind.u8 0, Value.int IntKind.u8 0, Value.int IntKind.u8 0, Value.int IntKind.u8 0, Value.int IntKind.u8 0, Value.int IntKind.u8 0, Value.int IntKind.u8 0, Value.int IntKind.u8 0, Value.int IntKind.u8 0, Value.int IntKind.u8 0, Value.int IntKind.u8 0, Value.int IntKind.u8 0, Value.int IntKind.u8 0, Value.int IntKind.u8 0, Value.int IntKind.u8 0, Value.int IntKind.u8 0, Value.int IntKind.u8 0, Value.int IntKind.u8 0, Value.int IntKind.u8 0, Value.int IntKind.u8 0, Value.int IntKind.u8 0, Value.int IntKind.u8 0, Value.int IntKind.u8 0])).run Tryz.prog w = .ok true w := fun w => by
    rw [show (Value.agg #[Value.int IntKind.u8 0, Value.int IntKind.u8 0, Value.int IntKind.u8 0, Value.int IntKind.u8 0, Value.int IntKind.u8 0, Value.int IntKind.u8 0, Value.int IntKind.u8 0, Value.int IntKind.u8 0, Value.int IntKind.u8 0, Value.int IntKind.u8 0, Value.int IntKind.u8 0, Value.int IntKind.u8 0, Value.int IntKind.u8 0, Value.int IntKind.u8 0, Value.int IntKind.u8 0, Value.int IntKind.u8 0, Value.int IntKind.u8 0, Value.int IntKind.u8 0, Value.int IntKind.u8 0, Value.int IntKind.u8 0, Value.int IntKind.u8 0, Value.int IntKind.u8 0, Value.int IntKind.u8 0, Value.int IntKind.u8 0, Value.int IntKind.u8 0, Value.int IntKind.u8 0, Value.int IntKind.u8 0, Value.int IntKind.u8 0, Value.int IntKind.u8 0, Value.int IntKind.u8 0, Value.int IntKind.u8 0, Value.int IntKind.u8 0]) = .agg (u8s S).toArray from by rw [← hS]; rfl]
    exact eqIn_hash S hSl w
  have AN := Lib.hid (gAnchor_no zGv w7 (zGv_w w7) (HK.out.kept B8.out) zG_no)
  rw [hS] at AN
  have HS := Lib.hid hS
  clear hS hSl
  go_wp2_with fail
  refine AN.out.mono ?_
  rintro e w8 ⟨rfl, b8⟩
  have K9 := Lib.hid (K8.out.below b8 K8.out.lt); have GX9 := Lib.hid (GX8.out.below b8)
  have B9 := Lib.hid (B8.out.trans (b8.mono B8.out.size))
  clear b8 K8 GX8 B8 AN
  have LN := Lib.hid (gLink_no zGv w8 (zGv_w w8) (HK.out.kept B9.out) zG_no)
  rw [HS.out] at LN
  go_wp2_with fail
  refine LN.out.mono ?_
  rintro e w9 ⟨rfl, b9⟩
  have K10 := Lib.hid (K9.out.below b9 K9.out.lt); have GX10 := Lib.hid (GX9.out.below b9)
  have B10 := Lib.hid (B9.out.trans (b9.mono B9.out.size))
  clear b9 K9 GX9 B9 LN
  have FT := Lib.hid (gFirst_t x w9 GX10.out (HK.out.kept B10.out))
  have hfs : (begS x).wr = 15 := by
    have h1 : begB x = true := by rw [begB_Q, HX.out]; exact fakeE_ok 0 15 15 (by decide) rfl rfl
    have h2 : x.st = [] := by have h := congrArg (fun e => e.st) HX.out; exact h
    have h3 : x.rd = 15 := by have h := congrArg (fun e => e.rd) HX.out; exact h
    have h4 : x.wr = 15 := by have h := congrArg (fun e => e.wr) HX.out; exact h
    unfold begS
    rw [if_pos h1, if_pos (by rw [h2]; rfl), h3, h4]
    rfl
  have HFS := Lib.hid hfs
  clear hfs
  go_wp2_with ((with_reducible refine load_blk_gdO 61 25 (.tmp 1) g1 25 (gv x) _ ?_ ?_ rfl ?_ Tryz.underlying25 ?_ ?_ ?_ ?_); exact rfl; kernel_rfl; exact K10.out; exact rfl; exact FX_x.out; exact rfl)
  refine FT.out.mono ?_
  rintro e w10 ⟨z, rfl, hz, -, b10⟩
  have HZ := Lib.hid (show z.wr = 15 from by have h := congrArg (fun s => s.wr) hz; exact h.trans HFS.out)
  have B11 := Lib.hid (B10.out.trans (b10.mono B10.out.size))
  clear b10 hz FT K10 GX10 B10 HFS
  have hfl := field_wr z w10
  rw [HZ.out] at hfl
  go_wp2_with fail
  go_ret
  exact ⟨rfl, B11.out⟩
end Go.Proofs.YtlipjglehongeaaGreatDoor
namespace Go.Proofs.YtlipjglehongeaaGreatDoor
open Go Go.RowKit Sh

section
variable {P : Program} {ops : Array Oper} {Q : Exit → Act → World → Prop} {md : Region.Mode} {S : World → Prop} {last : Nat → Bool}
end
theorem same_textsTX (xs ys : List Nat) (A B : Option Addr) (n m c d : Nat) (w : World) (hn : xs.length = n) (hm : ys.length = m) (ha : Sr w A xs) (hb : Sr w B ys) (hx : Bytes xs) (hy : Bytes ys) :
    Calls Tryz.prog 14 #[.slice A n c, .slice B m d] w fun e w' => e = .returned (.bool (decide (xs = ys))) ∧ w = w' := by
  have e1 := ha.conv hn c
  have e2 := hb.conv hm d
  have e3 := str_beqT xs ys hx hy
  obtain ⟨b, hbb⟩ : ∃ b, decide (xs = ys) = b := ⟨_, rfl⟩
  rw [hbb] at e3 ⊢
  obtain ⟨s, hs⟩ : ∃ s, str xs = s := ⟨_, rfl⟩
  obtain ⟨t, ht⟩ : ∃ t, str ys = t := ⟨_, rfl⟩
  rw [hs] at e1 e3
  rw [ht] at e2 e3
  clear ha hb hx hy hbb hs ht hn hm
  go_enter Tryz.func14, Tryz.ntmps14
  go_wp2
  go_ret
  exact ⟨rfl, rfl⟩
theorem and15_natX (a : BitVec 64) : (a &&& 15#64).toNat ≤ 15 := by
  rw [BitVec.toNat_and]
  exact Nat.and_le_right
theorem and15X (x : Int) : bits .and .i64 x 15 = ((BitVec.ofInt 64 x &&& 15#64).toNat : Int) := by
  have h := and15_natX (BitVec.ofInt 64 x)
  show IntKind.i64.wrap ((BitVec.ofInt 64 x &&& 15#64).toNat : Int) = _
  exact IntWalk.i64_in _ (by omega)
theorem al15X (x : Int) : alB (bits .and .i64 x 15) = true := by
  have h := and15_natX (BitVec.ofInt 64 x)
  rw [and15X]
  unfold alB
  simp only [Bool.and_eq_true, decide_eq_true_eq]
  omega
end Go.Proofs.YtlipjglehongeaaGreatDoor
