/-
  PACKAGE oper: Get walked.
-/
import Derived.Test.YtigbnjgmdgkgjaaDoorOpG
namespace Go.Proofs.YtigbnjgmdgkgjaaDoor
open Go Go.RowKit Sh

/-- The reader's steps of Get. -/
structure Steps (xs : List Nat) (v1 : Nat) (y1 : List Nat) (d1 : Bool) (v2 : Nat) (y2 : List Nat) (d2 : Bool) (v3 : Nat) (y3 : List Nat) (d3 : Bool) (v4 : Nat) (y4 : List Nat) (d4 : Bool) (l5 y5 : List Nat) (d5 : Bool) (l6 y6 : List Nat) (d6 : Bool) : Prop where
  e1 : rNum xs false 1 = (v1, y1, d1)
  e2 : rNum y1 d1 4 = (v2, y2, d2)
  e3 : rNum y2 d2 1 = (v3, y3, d3)
  e4 : rNum y3 d3 8 = (v4, y4, d4)
  e5 : rTxt y4 d4 y4.length = (l5, y5, d5)
  e6 : rTxt y5 d5 y5.length = (l6, y6, d6)
  b1 : Bytes y1 ∧ y1.length ≤ xs.length ∧ v1 < 256
  b2 : Bytes y2 ∧ y2.length ≤ xs.length ∧ v2 < 4294967296
  b3 : Bytes y3 ∧ y3.length ≤ xs.length ∧ v3 < 256
  b4 : Bytes y4 ∧ y4.length ≤ xs.length ∧ v4 < 18446744073709551616
  b5 : Bytes y5 ∧ y5.length ≤ xs.length ∧ Bytes l5
  b6 : Bytes y6 ∧ y6.length ≤ xs.length ∧ Bytes l6
  got : gotR xs = ⟨(v1 : Int), (v2 : Int), (v3 : Int), IntKind.i64.wrap (v4 : Int), fN l5, gotN l5, fN l6, gotN l6⟩
  ok : okR xs = (fOK l5 && (fOK l6 && (decide (endN y6 d6 = 0) && mayR (gotR xs))))
theorem rTxt_text (xs : List Nat) (bad : Bool) (n : Nat) (h : Bytes xs) : Bytes (rTxt xs bad n).1 := by
  unfold rTxt
  split
  · exact bytes_take (bytes_drop h 4) _
  · exact nil_bytes
theorem steps_of (xs : List Nat) (hb : Bytes xs) : ∃ v1 y1 d1 v2 y2 d2 v3 y3 d3 v4 y4 d4 l5 y5 d5 l6 y6 d6, Steps xs v1 y1 d1 v2 y2 d2 v3 y3 d3 v4 y4 d4 l5 y5 d5 l6 y6 d6 := by
  obtain ⟨⟨v1, y1, d1⟩, E1⟩ : ∃ r, q1 xs = r := ⟨_, rfl⟩
  have F1 : rNum xs false 1 = (v1, y1, d1) := E1
  obtain ⟨⟨v2, y2, d2⟩, E2⟩ : ∃ r, q2 xs = r := ⟨_, rfl⟩
  have F2 : rNum y1 d1 4 = (v2, y2, d2) := by rw [← E2]; unfold q2; rw [E1]
  obtain ⟨⟨v3, y3, d3⟩, E3⟩ : ∃ r, q3 xs = r := ⟨_, rfl⟩
  have F3 : rNum y2 d2 1 = (v3, y3, d3) := by rw [← E3]; unfold q3; rw [E2]
  obtain ⟨⟨v4, y4, d4⟩, E4⟩ : ∃ r, q4 xs = r := ⟨_, rfl⟩
  have F4 : rNum y3 d3 8 = (v4, y4, d4) := by rw [← E4]; unfold q4; rw [E3]
  obtain ⟨⟨l5, y5, d5⟩, E5⟩ : ∃ r, q5 xs = r := ⟨_, rfl⟩
  have F5 : rTxt y4 d4 y4.length = (l5, y5, d5) := by rw [← E5]; unfold q5; rw [E4]
  obtain ⟨⟨l6, y6, d6⟩, E6⟩ : ∃ r, q6 xs = r := ⟨_, rfl⟩
  have F6 : rTxt y5 d5 y5.length = (l6, y6, d6) := by rw [← E6]; unfold q6; rw [E5]
  have b1 := rNum_bytes xs false 1 hb
  rw [F1] at b1
  have b2 := rNum_bytes y1 d1 4 b1.1
  rw [F2] at b2
  have b3 := rNum_bytes y2 d2 1 b2.1
  rw [F3] at b3
  have b4 := rNum_bytes y3 d3 8 b3.1
  rw [F4] at b4
  have b5 := rTxt_bytes y4 d4 y4.length b4.1
  have t5 := rTxt_text y4 d4 y4.length b4.1
  rw [F5] at b5 t5
  have b6 := rTxt_bytes y5 d5 y5.length b5.1
  have t6 := rTxt_text y5 d5 y5.length b5.1
  rw [F6] at b6 t6
  have l1 : y1.length ≤ xs.length := b1.2.1
  have l2 : y2.length ≤ xs.length := Nat.le_trans b2.2.1 l1
  have l3 : y3.length ≤ xs.length := Nat.le_trans b3.2.1 l2
  have l4 : y4.length ≤ xs.length := Nat.le_trans b4.2.1 l3
  have l5' : y5.length ≤ xs.length := Nat.le_trans b5.2.1 l4
  have l6' : y6.length ≤ xs.length := Nat.le_trans b6.2.1 l5'
  exact ⟨v1, y1, d1, v2, y2, d2, v3, y3, d3, v4, y4, d4, l5, y5, d5, l6, y6, d6, F1, F2, F3, F4, F5, F6, ⟨b1.1, l1, b1.2.2⟩, ⟨b2.1, l2, b2.2.2⟩, ⟨b3.1, l3, b3.2.2⟩, ⟨b4.1, l4, b4.2.2⟩, ⟨b5.1, l5', t5⟩, ⟨b6.1, l6', t6⟩,
    by unfold gotR; rw [E1, E2, E3, E4, E5, E6], by unfold okR; rw [E5, E6]⟩
set_option maxRecDepth 100000 in
set_option maxHeartbeats 1000000 in
theorem Get_r (xs : List Nat) (p : Option Addr) (m c : Nat) (w : World) (hx : xs.length = m) (hp : Sr w p xs) (hb : Bytes xs) (hl : m ≤ 1000000) (hu : UT w) :
    Calls Tryd.prog 14 #[.slice p m c] w fun e w' => Below w.heap.size w w' ∧ ((okR xs = false ∧ e = .returned (.tuple #[.agg (rv zRv).toArray, .int .i64 2])) ∨ (okR xs = true ∧ ∃ y : Rv, y.r = gotR xs ∧ e = .returned (.tuple #[.agg (rv y).toArray, .int .i64 0]) ∧ RvW w' y)) := by
  obtain ⟨v1, y1, d1, v2, y2, d2, v3, y3, d3, v4, y4, d4, l5, y5, d5, l6, y6, d6, st⟩ := steps_of xs hb
  have B0 := Lib.hid ((Below.refl w.heap.size w).alloc (Nat.le_refl _) (.cells (rv zRv).toArray 24))
  have R0 := Lib.hid (Blk.new w 24 (rv zRv))
  have NW := Lib.hid (rnew_t xs p m c _ hx (hp.below B0.out) (by omega))
  have U0 := Lib.hid hu
  have HB := Lib.hid hb
  have ST := Lib.hid st
  have hxl : xs.length ≤ 1000000 := by omega
  have L1 := st.b1.2.1; have L2 := st.b2.2.1; have L3 := st.b3.2.1; have L4 := st.b4.2.1; have L5 := st.b5.2.1
  have V1 := st.b1.2.2; have V2 := st.b2.2.2; have V3 := st.b3.2.2
  have w1e : IntKind.i64.wrap (v1 : Int) = (v1 : Int) := IntWalk.i64_in _ (by omega)
  have w2e : IntKind.i64.wrap (v2 : Int) = (v2 : Int) := IntWalk.i64_in _ (by omega)
  have w3e : IntKind.i64.wrap (v3 : Int) = (v3 : Int) := IntWalk.i64_in _ (by omega)
  obtain ⟨ok, hok⟩ : ∃ z, okR xs = z := ⟨_, rfl⟩
  have okd := st.ok
  rw [hok] at okd ⊢
  obtain ⟨le, hle⟩ : ∃ z, IntKind.i64.wrap (v4 : Int) = z := ⟨_, rfl⟩
  have hgot := st.got
  rw [hle] at hgot
  obtain ⟨gr0, hgr⟩ : ∃ z, gotR xs = z := ⟨_, rfl⟩
  rw [hgr] at hgot okd ⊢
  have GOT := Lib.hid hgot
  have OKD := Lib.hid okd
  have BF := built_rv (v1 : Int) (v2 : Int) (v3 : Int) le
  clear hx hp hb hu st hok okd hgot hgr
  go_enter Tryd.func14, Tryd.ntmps14
  go_wp2_with fail
  refine NW.out.mono ?_
  rintro e w1 ⟨g, rfl, hg, x1, b1⟩
  have X1 := Lib.hid x1; have R1 := Lib.hid (R0.out.below b1 R0.out.lt); have B1 := Lib.hid (B0.out.trans (b1.mono B0.out.size))
  have hgw : w.heap.size < g := by have := hg; simp at this; omega
  clear x1 b1 NW R0 B0 hg
  go_wp2_with fail
  refine (rnum_t g xs false 1 w1 X1.out HB.out (by decide) (by decide) (by omega)).mono ?_
  rw [ST.out.e1]
  rintro e w2 ⟨rfl, x2, k2⟩
  have X2 := Lib.hid x2; have R2 := Lib.hid (R1.out.kept k2 (by omega)); have B2 := Lib.hid (kept_below B1.out k2 (by omega))
  clear x2 k2 X1 R1 B1
  go_wp2_with fail
  refine (rnum_t g y1 d1 4 w2 X2.out ST.out.b1.1 (by decide) (by decide) (by omega)).mono ?_
  rw [ST.out.e2]
  rintro e w3 ⟨rfl, x3, k3⟩
  have X3 := Lib.hid x3; have R3 := Lib.hid (R2.out.kept k3 (by omega)); have B3 := Lib.hid (kept_below B2.out k3 (by omega))
  clear x3 k3 X2 R2 B2
  go_wp2_with fail
  refine (rnum_t g y2 d2 1 w3 X3.out ST.out.b2.1 (by decide) (by decide) (by omega)).mono ?_
  rw [ST.out.e3]
  rintro e w4 ⟨rfl, x4, k4⟩
  have X4 := Lib.hid x4; have R4 := Lib.hid (R3.out.kept k4 (by omega)); have B4 := Lib.hid (kept_below B3.out k4 (by omega))
  clear x4 k4 X3 R3 B3
  go_wp2_with fail
  refine (rnum_t g y3 d3 8 w4 X4.out ST.out.b3.1 (by decide) (by decide) (by omega)).mono ?_
  rw [ST.out.e4]
  rintro e w5 ⟨rfl, x5, k5⟩
  have G5 := Lib.hid (show GQ w (w5.alloc (.cells (rv (nRv v1 v2 v3 le)).toArray 24)) g w5.heap.size y4 d4 (nRv v1 v2 v3 le) from by
    have r5 := R4.out.kept k5 (by omega)
    have b5 := kept_below B4.out k5 (by omega)
    have bz : Below w5.heap.size w5 (w5.alloc (.cells (rv (nRv v1 v2 v3 le)).toArray 24)) := (Below.refl _ _).alloc (Nat.le_refl _) _
    exact ⟨x5.below bz, r5.below bz r5.lt, Blk.new w5 _ _, Rw.nil, Rw.nil, (fun a ha => by cases ha), (fun a ha => by cases ha), ⟨hgw, x5.lt⟩, b5.trans (bz.mono b5.size)⟩)
  clear x5 k5 X4 R4 B4
  go_upto_region 3 with (fail)
  refine world_at (fun Y => GQ w Y g w5.heap.size y4 d4 (nRv v1 v2 v3 le)) G5.out ?_
  rintro Y gy
  obtain ⟨gr, hgre⟩ : ∃ g, w5.heap.size = g := ⟨_, rfl⟩
  rw [hgre] at gy ⊢
  have GY := Lib.hid gy
  clear gy G5 hgre BF w1e w2e w3e hle
  go_wp2_with fail
  refine (readFields_t g y4 d4 Y GY.out.rd ST.out.b4.1 (by omega)).mono ?_
  rw [ST.out.e5]
  rintro e w6 ⟨⟨A, c6, rfl, r6, f6⟩, x6, k6⟩
  have G6 := Lib.hid (GY.out.read k6 x6)
  have F6 := Lib.hid (show ∀ a : Addr, A = some a → gr < a.block from fun a ha => Nat.lt_of_lt_of_le GY.out.box.lt (f6 a ha))
  have R6 := Lib.hid r6
  have fz := G6.out.box.frozen 3
  have ct := G6.out.box.cell 3
  have G7 := Lib.hid (G6.out.setP (c := c6) R6.out F6.out)
  clear x6 k6 r6 f6 GY
  go_upto_region 5 with (fail)
  clear fz ct
  refine world_at (fun Z => GQ w Z g gr y5 d5 ⟨⟨v1, v2, v3, le, fN l5, gotN l5, 0, zG⟩, A, c6, none, 0⟩) G7.out ?_
  rintro Z gz
  have GZ := Lib.hid gz
  clear gz G7 G6 R6 F6
  go_wp2_with fail
  refine (readFields_t g y5 d5 Z GZ.out.rd ST.out.b5.1 (by omega)).mono ?_
  rw [ST.out.e6]
  rintro e w7 ⟨⟨B, c7, rfl, r7, f7⟩, x7, k7⟩
  have G7 := Lib.hid (GZ.out.read k7 x7)
  have F7 := Lib.hid (show ∀ a : Addr, B = some a → gr < a.block from fun a ha => Nat.lt_of_lt_of_le GZ.out.box.lt (f7 a ha))
  have R7 := Lib.hid r7
  have fz := G7.out.box.frozen 4
  have ct := G7.out.box.cell 4
  have G8 := Lib.hid (G7.out.setT (e := c7) R7.out F7.out)
  clear x7 k7 r7 f7 GZ
  go_upto_region 6 with (fail)
  clear fz ct
  obtain ⟨x, hxe⟩ : ∃ x : Rv, (⟨⟨v1, v2, v3, le, fN l5, gotN l5, fN l6, gotN l6⟩, A, c6, B, c7⟩ : Rv) = x := ⟨_, rfl⟩
  have hxr : x.r = gr0 := by rw [← hxe]; exact GOT.out.symm
  have hxw : ∀ W, Rw W x.p x.r.n x.r.G → Rw W x.t x.r.m x.r.H → RvW W x := fun W h1 h2 => ⟨h1, h2, by rw [← hxe]; exact fN_le l5 ST.out.b5.2.2, by rw [← hxe]; exact fN_le l6 ST.out.b6.2.2⟩
  rw [hxe] at G8
  have HXW := Lib.hid hxw
  have HXR := Lib.hid hxr
  clear hxe hxr hxw GOT
  refine world_at (fun Z => GQ w Z g gr y6 d6 x) G8.out ?_
  rintro V gv
  have GV := Lib.hid gv
  clear gv G8 G7 R7 F7
  obtain ⟨o5, ho5⟩ : ∃ z, fOK l5 = z := ⟨_, rfl⟩
  obtain ⟨o6, ho6⟩ : ∃ z, fOK l6 = z := ⟨_, rfl⟩
  obtain ⟨en, hen⟩ : ∃ z, endN y6 d6 = z := ⟨_, rfl⟩
  have okd := OKD.out
  rw [ho5, ho6, hen] at okd
  rw [ho5, ho6]
  have ET := Lib.hid (end_t g y6 d6 V GV.out.rd)
  rw [hen] at ET
  have MR := Lib.hid (May_r x V (U0.out.below GV.out.bel) (HXW.out V GV.out.p GV.out.t))
  rw [HXR.out] at MR
  obtain ⟨mr, hmr⟩ : ∃ z, mayR gr0 = z := ⟨_, rfl⟩
  rw [hmr] at MR okd
  have OKD2 := Lib.hid okd
  clear okd OKD ho5 ho6 hen hmr
  cases o5 with
  | false =>
    have OK := Lib.hid (show ok = false from OKD2.out)
    clear OKD2 ET MR
    have FO := Lib.hid (rv_one zRv)
    have RR := Lib.hid (GV.out.res.setRow (rv zRv))
    have RB := Lib.hid (below_setRow GV.out.bel (Nat.le_refl _) (rv zRv).toArray)
    have BZ := built_rz
    go_wp2_with ((with_reducible refine store_blk 24 (.tmp 2) (.tmp 51) w.heap.size 24 (rv zRv) (rv zRv) rfl rfl ?_ ?_ ?_ ?_ ?_ ?_ ?_); exact GV.out.res; exact rfl; exact rv_size zRv; exact FO.out; exact rfl; exact rfl)
    exact ret_blkO (p := 2) (u := 3) (ty := 24) rfl rfl w.heap.size 24 _ _ rfl RR.out Tryd.underlying24 rfl (rv_size zRv) _ rfl ⟨RB.out, .inl ⟨OK.out, rfl⟩⟩
  | true =>
  cases o6 with
  | false =>
    have OK := Lib.hid (show ok = false from OKD2.out)
    clear OKD2 ET MR
    have FO := Lib.hid (rv_one zRv)
    have RR := Lib.hid (GV.out.res.setRow (rv zRv))
    have RB := Lib.hid (below_setRow GV.out.bel (Nat.le_refl _) (rv zRv).toArray)
    have BZ := built_rz
    go_wp2_with ((with_reducible refine store_blk 24 (.tmp 2) (.tmp 51) w.heap.size 24 (rv zRv) (rv zRv) rfl rfl ?_ ?_ ?_ ?_ ?_ ?_ ?_); exact GV.out.res; exact rfl; exact rv_size zRv; exact FO.out; exact rfl; exact rfl)
    exact ret_blkO (p := 2) (u := 3) (ty := 24) rfl rfl w.heap.size 24 _ _ rfl RR.out Tryd.underlying24 rfl (rv_size zRv) _ rfl ⟨RB.out, .inl ⟨OK.out, rfl⟩⟩
  | true =>
  by_cases h0 : en = 0
  · subst h0
    cases mr with
    | false =>
      have OK := Lib.hid (show ok = false from OKD2.out)
      clear OKD2
      go_wp2_with fail
      refine ET.out.mono ?_
      rintro e w8 ⟨rfl, rfl⟩
      have GVB := Lib.hid GV.out.box
      go_wp2_with ((with_reducible refine load_blk_gdO 47 24 (.tmp 5) gr 24 (rv x) _ ?_ ?_ rfl ?_ Tryd.underlying24 ?_ ?_ ?_ ?_); exact rfl; kernel_rfl; exact GVB.out; exact rfl; exact rv_size x; exact rfl)
      refine MR.out.mono ?_
      rintro e w9 ⟨rfl, b9⟩
      have G9 := Lib.hid (GV.out.below b9)
      clear b9 GV ET MR
      have FO := Lib.hid (rv_one zRv)
      have RR := Lib.hid (G9.out.res.setRow (rv zRv))
      have RB := Lib.hid (below_setRow G9.out.bel (Nat.le_refl _) (rv zRv).toArray)
      have BZ := built_rz
      go_wp2_with ((with_reducible refine store_blk 24 (.tmp 2) (.tmp 51) w.heap.size 24 (rv zRv) (rv zRv) rfl rfl ?_ ?_ ?_ ?_ ?_ ?_ ?_); exact G9.out.res; exact rfl; exact rv_size zRv; exact FO.out; exact rfl; exact rfl)
      exact ret_blkO (p := 2) (u := 3) (ty := 24) rfl rfl w.heap.size 24 _ _ rfl RR.out Tryd.underlying24 rfl (rv_size zRv) _ rfl ⟨RB.out, .inl ⟨OK.out, rfl⟩⟩
    | true =>
      have OK := Lib.hid (show ok = true from OKD2.out)
      clear OKD2
      go_wp2_with fail
      refine ET.out.mono ?_
      rintro e w8 ⟨rfl, rfl⟩
      have GVB := Lib.hid GV.out.box
      go_wp2_with ((with_reducible refine load_blk_gdO 47 24 (.tmp 5) gr 24 (rv x) _ ?_ ?_ rfl ?_ Tryd.underlying24 ?_ ?_ ?_ ?_); exact rfl; kernel_rfl; exact GVB.out; exact rfl; exact rv_size x; exact rfl)
      refine MR.out.mono ?_
      rintro e w9 ⟨rfl, b9⟩
      have G9 := Lib.hid (GV.out.below b9)
      clear b9 GV ET MR
      have G9B := Lib.hid G9.out.box
      have FO := Lib.hid (rv_one x)
      have KR := Lib.hid (show RvW (w9.setRow w.heap.size (rv x).toArray) x from by
        have hk : Kept (fun k => k = w.heap.size) w9 (w9.setRow w.heap.size (rv x).toArray) := Kept.setRowK (F := fun k => k = w.heap.size) (Kept.refl _ _) (.inl rfl) _
        exact HXW.out _ (G9.out.p.kept hk (fun a ha e => by have := G9.out.fp a ha; have := G9.out.ord; omega)) (G9.out.t.kept hk (fun a ha e => by have := G9.out.ft a ha; have := G9.out.ord; omega)))
      have RR := Lib.hid (G9.out.res.setRow (rv x))
      have RB := Lib.hid (below_setRow G9.out.bel (Nat.le_refl _) (rv x).toArray)
      go_wp2_with (first
        | ((with_reducible refine load_blk_gdO 52 24 (.tmp 5) gr 24 (rv x) _ ?_ ?_ rfl ?_ Tryd.underlying24 ?_ ?_ ?_ ?_); exact rfl; kernel_rfl; exact G9B.out; exact rfl; exact rv_size x; exact rfl)
        | ((with_reducible refine store_blk 24 (.tmp 2) (.tmp 52) w.heap.size 24 (rv zRv) (rv x) rfl rfl ?_ ?_ ?_ ?_ ?_ ?_ ?_); exact G9.out.res; exact rfl; exact rv_size x; exact FO.out; exact rfl; exact rfl))
      exact ret_blkO (p := 2) (u := 3) (ty := 24) rfl rfl w.heap.size 24 _ _ rfl RR.out Tryd.underlying24 rfl (rv_size x) _ rfl ⟨RB.out, .inr ⟨OK.out, x, HXR.out, rfl, KR.out⟩⟩
  · have e1 : ((en : Int) != 0) = true := by rw [bne_iff_ne]; omega
    have OK := Lib.hid (show ok = false from by have := OKD2.out; rw [decide_eq_false h0] at this; exact this)
    clear OKD2 MR
    go_wp2_with fail
    refine ET.out.mono ?_
    rintro e w8 ⟨rfl, rfl⟩
    have FO := Lib.hid (rv_one zRv)
    have RR := Lib.hid (GV.out.res.setRow (rv zRv))
    have RB := Lib.hid (below_setRow GV.out.bel (Nat.le_refl _) (rv zRv).toArray)
    have BZ := built_rz
    go_wp2_with ((with_reducible refine store_blk 24 (.tmp 2) (.tmp 51) w.heap.size 24 (rv zRv) (rv zRv) rfl rfl ?_ ?_ ?_ ?_ ?_ ?_ ?_); exact GV.out.res; exact rfl; exact rv_size zRv; exact FO.out; exact rfl; exact rfl)
    exact ret_blkO (p := 2) (u := 3) (ty := 24) rfl rfl w.heap.size 24 _ _ rfl RR.out Tryd.underlying24 rfl (rv_size zRv) _ rfl ⟨RB.out, .inl ⟨OK.out, rfl⟩⟩
end Go.Proofs.YtigbnjgmdgkgjaaDoor
