/-
  DiskMany walked.
-/
import Derived.Test.YtgaiheaibejloaaDkS
namespace Go.Proofs.Ytgaiheaibejloaa
open Go Go.RowKit Go.Maps Go.ChangeMaps Go.MapKept Sh

theorem gt_rep (q a j : Nat) (h : j < q) : gt (List.replicate q a) j = a := by rw [gt_of_lt (by simpa using h)]; simp
theorem mod_8 (n : Int) : ∃ k : Nat, k < 8 ∧ wrap64 ((IntKind.u64.wrap n).tmod 8) = (k : Int) := by
  have h0 : 0 ≤ IntKind.u64.wrap n := by simp [IntKind.wrap, IntKind.bits, IntKind.signed]; omega
  rw [Int.tmod_eq_emod_of_nonneg h0]
  generalize IntKind.u64.wrap n = x at *
  refine ⟨(x % 8).toNat, by omega, ?_⟩
  unfold wrap64
  omega
/-- What DiskMany knows at a round's beginning. -/
structure MN (w0 w : World) (g bs bm gi : Nat) (S : Nat → List Nat) (I : List Nat) : Prop where
  d : DW w0 w g bs bm 8 0 S (fun _ => none)
  bi : Blk w gi 46 (u8s I)
  li : I.length = 8
  by_ : Bytes I
  i0 : w0.heap.size ≤ gi
  eq : ∀ j, j < 8 → S j = List.replicate 64 (gt I j)
section
variable {w0 w w' : World} {g bs bm gi : Nat} {S : Nat → List Nat} {I : List Nat}
theorem MN.below (h : MN w0 w g bs bm gi S I) (hb : Below w.heap.size w w') : MN w0 w' g bs bm gi S I :=
  ⟨h.d.below hb, h.bi.below hb h.bi.lt, h.li, h.by_, h.i0, h.eq⟩
theorem MN.farSet {x : Nat} (h : MN w0 w g bs bm gi S I) (h1 : g ≠ x) (h2 : bs ≠ x) (h3 : bm ≠ x) (h4 : gi ≠ x) (h0 : w0.heap.size ≤ x) (i : Nat) (u : Value) : MN w0 (w.setCell ⟨x, i, none⟩ u) g bs bm gi S I :=
  ⟨h.d.farSet h1 h2 h3 h0 i u, h.bi.far (p := ⟨x, i, none⟩) h4 u, h.li, h.by_, h.i0, h.eq⟩
theorem cr_none (S : Nat → List Nat) (M : Nat → Option (List Nat)) (L : Nat → Int) : crS S M (keepB L 0) (-1) (clampN 0) = S := by
  unfold crS
  rw [kpS_zero]
  funext i
  unfold svS
  rw [if_neg (by omega)]
theorem cr_one (S : Nat → List Nat) (X : List Nat) (k : Nat) : crS S (upd (fun _ => none) k (some X)) (keepB (fun _ => (k : Int)) 1) (-1) (clampN 0) = upd S k X := by
  unfold crS
  funext i
  unfold svS
  rw [if_neg (by omega)]
  unfold kpS
  have : keepB (fun _ => (k : Int)) 1 i = decide (k = i) := by unfold keepB; simp [List.range_succ]; omega
  rw [this]
  by_cases e : i = k
  · subst e; rw [if_pos (by simp), upd_same]; unfold isS; rw [upd_same]; rfl
  · rw [if_neg (by simp; omega), upd_other _ _ e]
theorem MN.kept {S' : Nat → List Nat} {I' : List Nat} (h : MN w0 w g bs bm gi S I) (d : DW w0 w' g bs bm 8 0 S' (fun _ => none)) (bi : Blk w' gi 46 (u8s I')) (li : I'.length = 8) (hb : Bytes I') (eq : ∀ j, j < 8 → S' j = List.replicate 64 (gt I' j)) : MN w0 w' g bs bm gi S' I' :=
  ⟨d, bi, li, hb, h.i0, eq⟩
end
set_option maxRecDepth 100000 in
set_option maxHeartbeats 4000000 in
theorem many_t (A1 A2 A3 : Option Addr) (q1 c1 q2 c2 q3 c3 : Nat) (L : Nat → Int) (xs : List Nat) (B : Nat → Bool) (w : World)
    (hL : ∀ j, j < q1 → ∃ b o, A1 = some ⟨b, o, none⟩ ∧ b < w.heap.size ∧ w.cell? ⟨b, o + j, none⟩ = some (.int .i64 (L j)) ∧ -9223372036854775808 ≤ L j ∧ L j ≤ 9223372036854775807)
    (hx : xs.length = q2) (hs : Sr w A2 xs) (hb : Bytes xs)
    (hB : ∀ j, j < q3 → ∃ b o, A3 = some ⟨b, o, none⟩ ∧ b < w.heap.size ∧ w.cell? ⟨b, o + j, none⟩ = some (.bool (B j))) (hq1 : q1 ≤ maxLen) (hq2 : q2 ≤ maxLen) (hq3 : q3 ≤ maxLen) :
    Calls Try.prog 6 #[.slice A1 q1 c1, .slice A2 q2 c2, .slice A3 q3 c3] w fun e w' => e = .returned (.bool true) ∧ Below w.heap.size w w' := by
  have NW := Lib.hid (wNew 8 (by decide) (Below.refl w.heap.size w))
  rw [show (((8 : Nat) : Int)) = 8 from rfl] at NW
  have mk : ∀ W, (Instr.makeSlice 26 (.int .i64 64) (.int .i64 64)).run Try.prog W = .ok (.slice (some ⟨W.heap.size, 0, none⟩) 64 64) (W.alloc (.cells (u8s zeroL).toArray 5)) := fun W => make_bytes 64 (by decide) W
  have HL := Lib.hid hL; have HX := Lib.hid hx; have HS := Lib.hid hs; have HB := Lib.hid hb; have HBB := Lib.hid hB
  have z1 : (q1 : Int) ≤ 9223372036854775807 := by unfold maxLen at hq1; omega
  have z2 : (q2 : Int) ≤ 9223372036854775807 := by unfold maxLen at hq2; omega
  have z3 : (q3 : Int) ≤ 9223372036854775807 := by unfold maxLen at hq3; omega
  clear hL hx hs hb hB hq1 hq2 hq3
  go_enter Try.func6, Try.ntmps6
  go_upto_region 5 with (go_at_call 7; refine NW.out.mono ?_; rintro e w1 ⟨g, bs, bm, rfl, d1, _, _, _, _⟩)
  change Code.wp _ _ _ _ (w1.alloc (.cells (u8s (List.replicate 8 0)).toArray 46))
  obtain ⟨W, hW⟩ : ∃ z, w1.alloc (.cells (u8s (List.replicate 8 0)).toArray 46) = z := ⟨_, rfl⟩
  have M0 := Lib.hid (show MN w W g bs bm w1.heap.size (fun _ => zeroL) (List.replicate 8 0) from by
    rw [← hW]
    refine ⟨d1.below ((Below.refl _ _).alloc (Nat.le_refl _) _), Blk.new w1 _ _, rfl, rep_bytes (by decide) 8, d1.bel.size, fun j hj => ?_⟩
    rw [gt_rep 8 0 j hj]; rfl)
  rw [hW]
  obtain ⟨gi, hgi⟩ : ∃ z, w1.heap.size = z := ⟨_, rfl⟩
  rw [hgi] at M0 ⊢
  clear hW d1 NW hgi
  go_wp2_with fail
  go_loopw [10] (fun s10 wr => ∃ (i : Nat) (S : Nat → List Nat) (I : List Nat), i ≤ 20 ∧ s10 = .int .i64 (i : Int) ∧ MN w wr g bs bm gi S I) (fun s _ => 20 - (intOf s).toNat)
  case atStart => exact ⟨0, _, _, by omega, rfl, M0.out⟩
  case round =>
    obtain ⟨i, S, I, hi, rfl, hm⟩ := hrel
    have M1 := Lib.hid hm
    clear hm M0
    by_cases hall : i < q1 ∧ i < q2 ∧ i < q3 ∧ i < 20
    · obtain ⟨h1, h2, h3, h4⟩ := hall
      have i1 : (i : Int) < (q1 : Int) := by omega
      have i2 : (i : Int) < (q2 : Int) := by omega
      have i3 : (i : Int) < (q3 : Int) := by omega
      have i4 : (i : Int) < 20 := by omega
      obtain ⟨b1, o1, rfl, hb1, cv1, hv⟩ := HL.out i h1
      have cc1 := (M1.out.d.bel.cell (p := ⟨b1, o1 + i, none⟩) hb1).trans cv1
      obtain ⟨b2, o2, rfl, hb2, hby⟩ := HS.out (by rw [HX.out]; omega)
      have CX := Lib.hid (fun W (h : Below w.heap.size w W) => show W.cell? ⟨b2, o2 + i, none⟩ = some (.int .u8 ((gt xs i : Nat) : Int)) from (h.cell (p := ⟨b2, o2 + i, none⟩) hb2).trans (hby i (by rw [HX.out]; exact h2)))
      obtain ⟨b3, o3, rfl, hb3, cv3⟩ := HBB.out i h3
      have CB := Lib.hid (fun W (h : Below w.heap.size w W) => show W.cell? ⟨b3, o3 + i, none⟩ = some (.bool (B i)) from (h.cell (p := ⟨b3, o3 + i, none⟩) hb3).trans cv3)
      obtain ⟨r, hr, hre⟩ := mod_8 (L i)
      have ha := HB.out i
      obtain ⟨a, hae⟩ : ∃ z, gt xs i = z := ⟨_, rfl⟩
      rw [hae] at CX ha
      obtain ⟨kp, hkp⟩ : ∃ z, B i = z := ⟨_, rfl⟩
      rw [hkp] at CB
      clear cv1 hv hb1 hby cv3 hkp hae hb2 hb3
      go_upto_region 10 with (fail)
      rw [hre]
      clear hre cc1
      obtain ⟨W2, hW2⟩ : ∃ z, wr.alloc (.cells (u8s zeroL).toArray 5) = z := ⟨_, rfl⟩
      have M2 := Lib.hid (show MN w W2 g bs bm gi S I by rw [← hW2]; exact M1.out.below ((Below.refl _ _).alloc (Nat.le_refl _) _))
      have B2 := Lib.hid (show Blk W2 wr.heap.size 5 (u8s zeroL) by rw [← hW2]; exact Blk.new wr _ _)
      rw [hW2]
      have l1 := M1.out.d.dk.b.lt; have l2 := M1.out.d.dk.s.lt; have l3 := M1.out.d.dk.m.lt; have l4 := M1.out.bi.lt; have l5 := M1.out.d.bel.size
      obtain ⟨gb, hgb⟩ : ∃ z, wr.heap.size = z := ⟨_, rfl⟩
      rw [hgb] at B2 l1 l2 l3 l4 l5 ⊢
      have HA := Lib.hid ha; have HR := Lib.hid hr
      clear hW2 hgb M1 ha hr
      go_wp2_with fail
      go_loopw [13] (fun s13 wr2 => ∃ j : Nat, j ≤ 64 ∧ s13 = .int .i64 (j : Int) ∧ MN w wr2 g bs bm gi S I ∧ Blk wr2 gb 5 (u8s (fillL j a))) (fun s _ => 64 - (intOf s).toNat)
      case atStart => exact ⟨0, by omega, rfl, M2.out, B2.out⟩
      case round =>
        obtain ⟨j, hj, rfl, hm2, hb2⟩ := hrel
        have M3 := Lib.hid hm2; have B3 := Lib.hid hb2
        clear hm2 hb2 M2 B2
        by_cases hlt : j < 64
        · have j1 : (j : Int) < 64 := by omega
          have cx := CX.out _ M3.out.d.bel
          obtain ⟨vx, cg⟩ : ∃ v, wr.cell? ⟨gb, j, none⟩ = some v := by rw [B3.out.cell]; exact ⟨_, List.getElem?_eq_getElem (by rw [u8s_length, fillL_length a (by omega)]; exact hlt)⟩
          have fg := B3.out.frozen j
          have M4 := Lib.hid (M3.out.farSet (x := gb) (by omega) (by omega) (by omega) (by omega) (by omega) j (.int .u8 (a : Int)))
          have b4 := B3.out.store j (.int .u8 (a : Int))
          rw [u8s_set, fillL_set a hlt] at b4
          have B4 := Lib.hid b4
          clear b4 M3 B3
          go_wp2_with fail
          go_roundw
          case rel => exact ⟨j + 1, hlt, by go_num, M4.out, B4.out⟩
          case measure => simp [intOf]; omega
        · obtain rfl : j = 64 := by omega
          clear hlt
          rw [fillL_full] at B3
          obtain ⟨XC, hXC⟩ : ∃ z, List.replicate 64 a = z := ⟨_, rfl⟩
          rw [hXC] at B3
          have HXC := Lib.hid hXC
          have LC := Lib.hid (show XC.length = 64 by rw [← hXC]; simp)
          have WR := Lib.hid (wWrite r (some ⟨gb, 0, none⟩) 64 64 XC HR.out (by decide) LC.out B3.out.sr (by rw [← hXC]; exact rep_bytes HA.out 64) (by decide) M3.out.d)
          rw [pad_full LC.out] at WR
          clear hXC B3
          go_upto_region 17 with (go_at_call 8; refine WR.out.mono ?_; rintro e w4 ⟨rfl, d4, k4⟩)
          have D4 := Lib.hid d4
          have BI4 := Lib.hid (M3.out.d.dk.far M3.out.bi (by decide) k4)
          have cb := CB.out _ d4.bel
          clear d4 k4 WR
          cases kp with
          | false =>
            have CR := Lib.hid (wCrash none 0 0 (fun _ => 0) (-1) 0 (fun j hj => absurd hj (Nat.not_lt_zero _)) (by decide) ⟨by decide, by decide⟩ D4.out)
            rw [cr_none] at CR
            go_wp2_with (go_at_call 11; refine CR.out.mono ?_; rintro e w5 ⟨rfl, d5, k5⟩)
            have M5 := Lib.hid (M3.out.kept d5 (D4.out.dk.far BI4.out (by decide) k5) M3.out.li M3.out.by_ M3.out.eq)
            clear d5 k5 CR D4 BI4 M3
            go_wp2_with fail
            go_roundw
            case rel => exact ⟨i + 1, S, I, by omega, by go_num, M5.out⟩
            case measure => simp [intOf]; omega
          | true =>
            go_upto_region 19 with (fail)
            obtain ⟨W5, hW5⟩ : ∃ z, w4.alloc (.cells #[.int .i64 (r : Int)] 3) = z := ⟨_, rfl⟩
            have BL := Lib.hid (show Below w4.heap.size w4 W5 by rw [← hW5]; exact (Below.refl _ _).alloc (Nat.le_refl _) _)
            have BS5 := Lib.hid (show Blk W5 w4.heap.size 3 [.int .i64 (r : Int)] by rw [← hW5]; exact Blk.new w4 _ _)
            have D5 := Lib.hid (D4.out.below BL.out)
            have BI5 := Lib.hid (BI4.out.below BL.out BI4.out.lt)
            rw [hW5]
            have cx := CX.out _ D5.out.bel
            obtain ⟨vi, cg⟩ : ∃ v, W5.cell? ⟨gi, r, none⟩ = some v := by rw [BI5.out.cell]; exact ⟨_, List.getElem?_eq_getElem (by rw [u8s_length, M3.out.li]; exact HR.out)⟩
            have fg := BI5.out.frozen r
            have r1 : (r : Int) < 8 := by have := HR.out; omega
            have gn1 : bs ≠ gi := D5.out.dk.s.apart BI5.out (by decide)
            have gn2 : bm ≠ gi := D5.out.dk.m.apart BI5.out
            have gn3 : g ≠ gi := D5.out.dk.b.apart BI5.out (by decide)
            have gn4 : w4.heap.size ≠ gi := BS5.out.apart BI5.out (by decide)
            have gn5 : w4.heap.size ≠ bs := BS5.out.apart D5.out.dk.s (by decide)
            have D6 := Lib.hid (D5.out.farSet (x := gi) gn3 gn1 gn2 M3.out.i0 r (.int .u8 (a : Int)))
            have b6 := BI5.out.store r (.int .u8 (a : Int))
            rw [u8s_set] at b6
            have BI6 := Lib.hid b6
            have BS6 := Lib.hid (BS5.out.far (p := ⟨gi, r, none⟩) gn4 (.int .u8 (a : Int)))
            have hri : InI (r : Int) := ⟨by omega, by omega⟩
            have CR := Lib.hid (wCrash (some ⟨w4.heap.size, 0, none⟩) 1 1 (fun _ => (r : Int)) (-1) 0 (fun j hj => ⟨w4.heap.size, 0, rfl, BS6.out.lt, gn5, by
              obtain rfl : j = 0 := by omega
              exact BS6.out.cell 0, hri⟩) (by decide) ⟨by decide, by decide⟩ D6.out)
            rw [cr_one] at CR
            have HEQ := Lib.hid (show ∀ j, j < 8 → upd S r XC j = List.replicate 64 (gt (I.set r a) j) from fun j hj => by
              by_cases e : j = r
              · subst e
                rw [upd_same, gt_of_lt (by rw [List.length_set, M3.out.li]; exact hj), List.getElem_set_self]
                exact HXC.out.symm
              · rw [upd_other _ _ e, M3.out.eq j hj]
                have : gt (I.set r a) j = gt I j := by
                  rw [gt_of_lt (by rw [List.length_set, M3.out.li]; exact hj), gt_of_lt (by rw [M3.out.li]; exact hj), List.getElem_set_ne (by omega)]
                rw [this])
            have HBI := Lib.hid (show Bytes (I.set r a) from sl_bytes (fun x hx => by
              rcases List.mem_or_eq_of_mem_set hx with h | h
              · obtain ⟨i2, hi2, rfl⟩ := List.getElem_of_mem h
                have := M3.out.by_ i2
                rwa [gt_of_lt hi2] at this
              · rw [h]; exact HA.out))
            clear hW5 BL BS5 D5 BI5 b6 D4 BI4 cb gn1 gn2 gn3 gn4 gn5
            go_wp2_with (go_at_call 11; refine CR.out.mono ?_; rintro e w7 ⟨rfl, d7, k7⟩)
            have M7 := Lib.hid (M3.out.kept d7 (D6.out.dk.far BI6.out (by decide) k7) (by rw [List.length_set]; exact M3.out.li) HBI.out HEQ.out)
            clear d7 k7 CR D6 BI6 BS6 M3
            go_wp2_with fail
            go_roundw
            case rel => exact ⟨i + 1, _, _, by omega, by go_num, M7.out⟩
            case measure => simp [intOf]; omega
    · go_upto_region 6 with (fail)
      go_cut [49] (fun s49 wx => s49 = .bool false ∧ wx = wr)
      case first =>
        by_cases h1 : i < q1
        · have i1 : (i : Int) < (q1 : Int) := by omega
          by_cases h2 : i < q2
          · have i2 : (i : Int) < (q2 : Int) := by omega
            by_cases h3 : i < q3
            · have i3 : (i : Int) < (q3 : Int) := by omega
              obtain rfl : i = 20 := by omega
              clear hall
              go_wp2_with fail
              go_meet
              exact ⟨rfl, rfl⟩
            · have i3 : ¬ (i : Int) < (q3 : Int) := by omega
              clear hall
              go_wp2_with fail
              go_meet
              exact ⟨rfl, rfl⟩
          · have i2 : ¬ (i : Int) < (q2 : Int) := by omega
            clear hall
            go_wp2_with fail
            go_meet
            exact ⟨rfl, rfl⟩
        · have i1 : ¬ (i : Int) < (q1 : Int) := by omega
          clear hall
          go_wp2_with fail
          go_meet
          exact ⟨rfl, rfl⟩
      case rest =>
        obtain ⟨rfl, rfl⟩ := hcut
        clear hall HL HX HS HB HBB
        have M2 := Lib.hid (M1.out.below ((Below.refl _ _)))
        clear M1
        go_wp2_with fail
        go_loopw [15] (fun s15 wr => ∃ k : Nat, k ≤ 8 ∧ s15 = .int .i64 (k : Int) ∧ MN w wr g bs bm gi S I) (fun s _ => 8 - (intOf s).toNat)
        case atStart => exact ⟨0, by omega, rfl, M2.out⟩
        case round =>
          obtain ⟨k, hk, rfl, hm3⟩ := hrel
          have M3 := Lib.hid hm3
          clear hm3 M2
          by_cases hk8 : k < 8
          · have k1 : (k : Int) < 8 := by omega
            have RD := Lib.hid (dRead_t k hk8 M3.out.d.dk)
            have e3 : isS S (fun _ => none) k = List.replicate 64 (gt I k) := M3.out.eq k hk8
            obtain ⟨a, hae⟩ : ∃ z, gt I k = z := ⟨_, rfl⟩
            have HA := Lib.hid (show a < 256 by rw [← hae]; exact M3.out.by_ k)
            rw [hae] at e3
            rw [e3] at RD
            obtain ⟨XR, hXR⟩ : ∃ z, List.replicate 64 a = z := ⟨_, rfl⟩
            rw [hXR] at RD
            have HXR := Lib.hid hXR
            have CX := Lib.hid (fun (W : World) (h : Blk W gi 46 (u8s I)) => show W.cell? ⟨gi, k, none⟩ = some (.int .u8 (a : Int)) by rw [h.cell, u8s_get _ _ (by rw [M3.out.li]; exact hk8), hae])
            clear e3 hae hXR
            go_upto_region 25 with (go_at_call 12; refine RD.out.mono ?_; rintro e w4 ⟨rfl, bk4, hb4⟩)
            have M4 := Lib.hid (M3.out.below hb4)
            have BK4 := Lib.hid bk4
            have lz := M3.out.d.bel.size
            obtain ⟨gz, hgz⟩ : ∃ z, wr.heap.size = z := ⟨_, rfl⟩
            rw [hgz] at BK4 lz ⊢
            have m1 : g ≠ gz := M4.out.d.dk.b.apart BK4.out (by decide)
            clear bk4 hb4 RD M3 hgz
            go_upto_region 26 with (fail)
            obtain ⟨W5, hW5⟩ : ∃ z, w4.alloc (.cells (u8s zeroL).toArray 5) = z := ⟨_, rfl⟩
            have M5 := Lib.hid (show MN w W5 g bs bm gi S I by rw [← hW5]; exact M4.out.below ((Below.refl _ _).alloc (Nat.le_refl _) _))
            have B5 := Lib.hid (show Blk W5 w4.heap.size 5 (u8s zeroL) by rw [← hW5]; exact Blk.new w4 _ _)
            have K5 := Lib.hid (show Blk W5 gz 54 (u8s XR) by rw [← hW5]; exact BK4.out.alloc _)
            rw [hW5]
            have l1 := M4.out.d.dk.b.lt; have l2 := M4.out.d.dk.s.lt; have l3 := M4.out.d.dk.m.lt; have l4 := M4.out.bi.lt; have l5 := M4.out.d.bel.size; have l6 := BK4.out.lt
            obtain ⟨gb, hgb⟩ : ∃ z, w4.heap.size = z := ⟨_, rfl⟩
            rw [hgb] at B5 l1 l2 l3 l4 l5 l6 ⊢
            clear hW5 hgb M4 BK4
            go_wp2_with fail
            go_loopw [19] (fun s19 wr => ∃ j : Nat, j ≤ 64 ∧ s19 = .int .i64 (j : Int) ∧ MN w wr g bs bm gi S I ∧ Blk wr gb 5 (u8s (fillL j a)) ∧ Blk wr gz 54 (u8s XR)) (fun s _ => 64 - (intOf s).toNat)
            case atStart => exact ⟨0, by omega, rfl, M5.out, B5.out, K5.out⟩
            case round =>
              obtain ⟨j, hj, rfl, hm6, hb6, hk6⟩ := hrel
              have M6 := Lib.hid hm6; have B6 := Lib.hid hb6; have K6 := Lib.hid hk6
              clear hm6 hb6 hk6 M5 B5 K5
              by_cases hlt : j < 64
              · have j1 : (j : Int) < 64 := by omega
                have cx := CX.out _ M6.out.bi
                obtain ⟨vx, cg⟩ : ∃ v, wr.cell? ⟨gb, j, none⟩ = some v := by rw [B6.out.cell]; exact ⟨_, List.getElem?_eq_getElem (by rw [u8s_length, fillL_length a (by omega)]; exact hlt)⟩
                have fg := B6.out.frozen j
                have M7 := Lib.hid (M6.out.farSet (x := gb) (by omega) (by omega) (by omega) (by omega) (by omega) j (.int .u8 (a : Int)))
                have b7 := B6.out.store j (.int .u8 (a : Int))
                rw [u8s_set, fillL_set a hlt] at b7
                have B7 := Lib.hid b7
                have K7 := Lib.hid (K6.out.far (p := ⟨gb, j, none⟩) (by show gz ≠ gb; omega) (.int .u8 (a : Int)))
                clear b7 M6 B6 K6
                go_wp2_with fail
                go_roundw
                case rel => exact ⟨j + 1, hlt, by go_num, M7.out, B7.out, K7.out⟩
                case measure => simp [intOf]; omega
              · obtain rfl : j = 64 := by omega
                clear hlt
                rw [fillL_full, HXR.out] at B6
                have LX := Lib.hid (show XR.length = 64 by rw [← HXR.out]; simp)
                have BX := Lib.hid (show Bytes XR by rw [← HXR.out]; exact rep_bytes HA.out 64)
                have SM := Lib.hid (same_textsD XR XR (some ⟨gz, 0, none⟩) (some ⟨gb, 0, none⟩) 64 64 64 64 wr LX.out LX.out K6.out.sr B6.out.sr BX.out BX.out)
                rw [decide_eq_true (rfl : XR = XR)] at SM
                clear B6 K6
                go_wp2_with (go_at_call 19; refine SM.out.mono ?_; rintro e w8 ⟨rfl, rfl⟩)
                go_roundw
                case rel => exact ⟨k + 1, by omega, by go_num, M6.out⟩
                case measure => simp [intOf]; omega
          · obtain rfl : k = 8 := by omega
            have TD := Lib.hid (dtold_t wr)
            clear hk8
            go_wp2_with (first
              | (go_at_call 13; refine TD.out.mono ?_; rintro e w10 ⟨rfl, b10⟩; have DI := Lib.hid (wDirty0 (by decide) (M3.out.d.below b10)); clear b10)
              | (go_at_call 10; refine DI.out.mono ?_; rintro e w11 ⟨A11, c11, rfl, d11, _⟩; have BE := Lib.hid d11.bel; clear d11))
            go_ret
            exact ⟨rfl, BE.out⟩
end Go.Proofs.Ytgaiheaibejloaa
