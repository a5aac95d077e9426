/-
  THE REFERENCE OF CHAPTER 6: GetFields.
-/
import Derived.Test.YtigbnjgmdgkgjaaDoorTrD
namespace Go.Proofs.YtigbnjgmdgkgjaaDoor
open Go Go.RowKit Sh

theorem built_R (p : Option Addr) (m c : Nat) : Tryd.prog.built 64 [(0, .slice p m c)] = some #[.slice p m c, .bool false] := by kernel_rfl
theorem rFld_bad : rFld [] true = (⟨0, 0, eS⟩, [], true) := by
  have h : rNum [] true 1 = (0, [], true) := rfl
  unfold rFld
  rw [h]
  rfl
theorem stN_bad (xs : List Nat) (bad : Bool) (j : Nat) (h : stN xs bad j = ([], true)) : ∀ i, stN xs bad (j + i) = ([], true)
  | 0 => h
  | i + 1 => by
    show (rFld (stN xs bad (j + i)).1 (stN xs bad (j + i)).2).2 = _
    rw [stN_bad xs bad j h i, rFld_bad]
theorem rNum_fine (xs : List Nat) (n : Nat) (h : (rNum xs false n).1 ≠ 0) : (rNum xs false n).2.2 = false := by
  unfold rNum at h ⊢
  split
  · rename_i q
    rw [if_pos q] at h
    exact absurd rfl h
  · rfl
section
variable {w0 w w' : World} {g : Nat} {xs : List Nat} {bad : Bool}
theorem Rr.grow (x : Rr w0 w g xs bad) {base n : Nat} {v : Value} {l : List Value} (o : w.ownsRow base 40 3 v n l) (hl : w0.heap.size ≤ base) (hg : w.grownBy w' v.ownBlock) : Rr w0 w' g xs bad := by
  obtain ⟨A, c, h1, h2, h3⟩ := x.is
  have hne := own_apart o h1 (by decide)
  exact ⟨⟨A, c, (hg.block g h1.lt (fun e => hne e.symm)).trans h1, h2, h3⟩, x.none_, x.bel.grown hg x.bel.size (fun k e => Nat.le_trans hl (o.lt k e).1), x.low⟩
theorem own_rr {base n : Nat} {v : Value} {l : List Value} (o : w.ownsRow base 40 3 v n l) (x : Rr w0 w g xs bad) (hk : Kept (fun k => k = g) w w') : w'.ownsRow base 40 3 v n l := by
  obtain ⟨A, c, h1, h2, h3⟩ := x.is
  exact own_kept o hk (fun k h e => own_apart o h1 (by decide) (by rw [h, e]))
theorem Rr.off (x : Rr w0 w g xs bad) {g3 : Nat} (hk : Kept (fun k => k = g3) w w') (hne : g ≠ g3) (hl : w0.heap.size ≤ g3) : Rr w0 w' g xs bad := by
  obtain ⟨A, c, h1, h2, h3⟩ := x.is
  exact ⟨⟨A, c, h1.kept hk hne, h2, h3⟩, x.none_, kept_below x.bel hk hl, x.low⟩
end
/-- Where GetFields stands ahead of the j-th field: the row so far, the Reader. -/
structure GR (w0 W : World) (g : Nat) (v : Value) (j : Nat) (G : Nat → Fld) (zs : List Nat) (b : Bool) : Prop where
  own : W.ownsRow w0.heap.size 40 3 v j (rowC G j)
  rd : Rr w0 W g zs b
/-- And the field that is under way. -/
structure GF (w0 W : World) (g g3 : Nat) (v : Value) (j : Nat) (G : Nat → Fld) (zs : List Nat) (b : Bool) (f : Fld) : Prop where
  own : W.ownsRow w0.heap.size 40 3 v j (rowC G j)
  rd : Rr w0 W g zs b
  fld : Blk W g3 40 (fv f)
  ne : g ≠ g3
  low : w0.heap.size ≤ g3
  off : ∀ k, v.ownBlock = some k → k < g3
section
variable {w0 w w' : World} {g g3 : Nat} {v : Value} {j : Nat} {G : Nat → Fld} {zs ys : List Nat} {b b' : Bool} {f f' : Fld}
theorem GF.read (h : GF w0 w g g3 v j G zs b f) (hk : Kept (fun k => k = g) w w') (x : Rr w0 w' g ys b') : GF w0 w' g g3 v j G ys b' f :=
  ⟨own_rr h.own h.rd hk, x, h.fld.kept hk (fun e => h.ne e.symm), h.ne, h.low, h.off⟩
theorem GF.store (h : GF w0 w g g3 v j G zs b f) (hk : Kept (fun k => k = g3) w w') (hf : Blk w' g3 40 (fv f')) : GF w0 w' g g3 v j G zs b f' :=
  ⟨own_kept h.own hk (fun k e q => by have := h.off k e; omega), h.rd.off hk h.ne h.low, hf, h.ne, h.low, h.off⟩
theorem GF.more (h : GF w0 w g g3 v j G zs b f) (hf : G j = f) {v' : Value} (ow : (w.alloc (.cells (rowC (fun _ => f) 1).toArray 40)).ownsRow w0.heap.size 40 3 v j (rowC G j))
    (a1 : w'.ownsRow w0.heap.size 40 3 v' (j + 1) (rowC G j ++ rowC (fun _ => f) 1)) (a2 : (w.alloc (.cells (rowC (fun _ => f) 1).toArray 40)).grownBy w' v.ownBlock) : GR w0 w' g v' (j + 1) G zs b :=
  ⟨by rw [rowC, hf]; exact a1, (h.rd.below ((Below.refl _ _).alloc (Nat.le_refl _) _)).grow ow (Nat.le_refl _) a2⟩
theorem GR.open (h : GR w0 w g v j G zs b) {W1 : World} (hk : Kept (fun k => k = g) w W1) (x : Rr w0 W1 g ys b') (f : Fld) : GF w0 (W1.alloc (.cells (fv f).toArray 40)) g W1.heap.size v j G ys b' f :=
  ⟨own_below (own_rr h.own h.rd hk) ((Below.refl _ _).alloc (Nat.le_refl _) _), x.below ((Below.refl _ _).alloc (Nat.le_refl _) _), Blk.new W1 _ (fv f), by have := x.lt; omega, x.bel.size, fun k e => by have := (h.own.lt k e).2; have := hk.size; omega⟩
end
set_option maxRecDepth 100000 in
set_option maxHeartbeats 1000000 in
theorem refget_t (xs : List Nat) (p : Option Addr) (m c : Nat) (w : World) (hx : xs.length = m) (hc : m ≤ c) (hp : Sr w p xs) (hb : Bytes xs) (hl : m ≤ 70368744177664) :
    Calls Tryd.prog 59 #[.slice p m c] w fun e w' => Below w.heap.size w w' ∧ ((getOK xs = false ∧ e = .returned (.tuple #[.slice none 0 0, .int .i64 2])) ∨ (getOK xs = true ∧ ∃ A c', e = .returned (.tuple #[.slice A (cntN xs) c', .int .i64 0]) ∧ Rw w' A (cntN xs) (gotN xs))) := by
  subst hx
  have HP := Lib.hid hp
  have HC := Lib.hid hc
  have NM := Lib.hid (fun X g (h : Rr w X g xs false) => rrnum_t g xs false 1 w X h hb (by decide) (by decide))
  obtain ⟨hb1, hl1, hn1⟩ := rNum_bytes xs false 1 hb
  have hG : ∀ j, gotN xs j = fldN (rNum xs false 1).2.1 (rNum xs false 1).2.2 j := fun j => rfl
  have hE : endG xs = endN (stN (rNum xs false 1).2.1 (rNum xs false 1).2.2 (rNum xs false 1).1).1 (stN (rNum xs false 1).2.1 (rNum xs false 1).2.2 (rNum xs false 1).1).2 := rfl
  have hC : cntN xs = (rNum xs false 1).1 := rfl
  obtain ⟨⟨n, ys, bd⟩, hR⟩ : ∃ r, rNum xs false 1 = r := ⟨_, rfl⟩
  simp only [hR] at NM hb1 hl1 hn1 hG hE hC
  have hG2 : gotN xs = fldN ys bd := funext hG
  have OKE := Lib.hid (show getOK xs = (decide (endN (stN ys bd n).1 (stN ys bd n).2 = 0) && mayP n (fldN ys bd)) by unfold getOK; rw [hE, hC, hG2])
  rw [hC, hG2]
  have HB := Lib.hid hb1
  have hl2 : ys.length ≤ 70368744177664 := by omega
  have hn2 : n ≤ 255 := by omega
  have nw : IntKind.i64.wrap (n : Int) = (n : Int) := IntWalk.i64_in _ (by omega)
  obtain ⟨ok, hok⟩ : ∃ r, getOK xs = r := ⟨_, rfl⟩
  rw [hok] at OKE ⊢
  have BR := built_R p xs.length c
  clear hp hc hb hb1 hl1 hn1 hG hE hC hR hG2 hok
  go_enter Tryd.func59, Tryd.ntmps59
  go_upto_region 2 with (fail)
  refine world_at (fun Y => Rr w Y w.heap.size xs false) ⟨⟨p, c, Blk.new w _ [.slice p xs.length c, .bool false], HC.out, HP.out⟩, (fun e => by cases e), (Below.refl _ _).alloc (Nat.le_refl _) _, Nat.le_refl _⟩ ?_
  rintro Y xy
  have XY := Lib.hid xy
  clear xy HP HC BR
  go_wp2_with fail
  refine (NM.out Y _ XY.out).mono ?_
  rintro e w1 ⟨rfl, x1, k1⟩
  have X1 := Lib.hid x1
  clear x1 k1 NM XY
  go_upto_region 5 with (fail)
  go_loopw [6, 7] (fun v x wr => ∃ j : Nat, j ≤ n ∧ x = .int .i64 (j : Int) ∧ GR w wr w.heap.size v j (fldN ys bd) (stN ys bd j).1 (stN ys bd j).2) (fun _ x _ => n - (intOf x).toNat)
  case atStart => exact ⟨0, by omega, rfl, World.ownsRow_nil _ _ _ _, X1.out⟩
  case round =>
    clear X1
    obtain ⟨j, hj, rfl, gr⟩ := hrel
    obtain ⟨hzb, hzl⟩ := stN_bytes ys bd HB.out j
    obtain ⟨⟨zs, b⟩, hst⟩ : ∃ r, stN ys bd j = r := ⟨_, rfl⟩
    have hfj : fldN ys bd j = (rFld (stN ys bd j).1 (stN ys bd j).2).1 := rfl
    have hsj : stN ys bd (j + 1) = (rFld (stN ys bd j).1 (stN ys bd j).2).2 := rfl
    simp only [hst] at gr hzb hzl hfj hsj
    have HR := Lib.hid gr
    obtain ⟨A0, c0', q1, q2, q3⟩ := gr.rd.is
    have cb : wr.cell? ⟨w.heap.size, 1, none⟩ = some (.bool b) := q1.cell 1
    clear gr q1 q2 q3
    by_cases hlt : j < n
    · have j1 : (j : Int) < (n : Int) := by omega
      cases b with
      | true =>
        have he : endN (stN ys bd n).1 (stN ys bd n).2 = 2 := by
          have hz : zs = [] := HR.out.rd.none_ rfl
          subst hz
          have := stN_bad ys bd j hst (n - j)
          rw [show j + (n - j) = n by omega] at this
          rw [this]
          rfl
        have HO := OKE.out
        rw [he] at HO
        have HOK := Lib.hid (HO.trans (by rfl) : ok = false)
        have EB : endN zs true = 2 := if_pos (.inl rfl)
        clear HO he OKE hfj hsj hst hzb hzl
        go_wp2_with fail
        refine (rrend_t w.heap.size _ _ w wr HR.out.rd).mono ?_
        rintro e w5 ⟨rfl, rfl⟩
        rw [EB]
        go_wp2_with fail
        go_ret2
        exact ⟨HR.out.rd.bel, .inl ⟨HOK.out, rfl⟩⟩
      | false =>
        have N1 := Lib.hid (rrnum_t w.heap.size zs false 1 w wr HR.out.rd hzb (by decide) (by decide))
        obtain ⟨hy, hyl, hyn⟩ := rNum_bytes zs false 1 hzb
        have hfine := rNum_fine zs 1
        have hF : rFld zs false = if (rNum zs false 1).1 = 1 then (⟨1, IntKind.i64.wrap ((rNum (rNum zs false 1).2.1 (rNum zs false 1).2.2 8).1 : Int), eS⟩, (rNum (rNum zs false 1).2.1 (rNum zs false 1).2.2 8).2)
          else if (rNum zs false 1).1 = 2 then (⟨2, 0, str (rTxt (rNum zs false 1).2.1 (rNum zs false 1).2.2 40).1⟩, (rTxt (rNum zs false 1).2.1 (rNum zs false 1).2.2 40).2)
          else (⟨((rNum zs false 1).1 : Int), 0, eS⟩, (rNum zs false 1).2) := rfl
        rw [hF] at hfj hsj
        obtain ⟨⟨k, y1, b1⟩, hR1⟩ : ∃ r, rNum zs false 1 = r := ⟨_, rfl⟩
        simp only [hR1] at N1 hy hyl hyn hfine hfj hsj
        have HY := Lib.hid hy
        have HFI := Lib.hid hfine
        have kw : IntKind.i64.wrap (k : Int) = (k : Int) := IntWalk.i64_in _ (by omega)
        have BF := built_fld (k : Int)
        have hyl2 : y1.length ≤ 70368744177664 := by omega
        have FJ := Lib.hid hfj; have SJ := Lib.hid hsj
        clear hF hR1 hy hfine hfj hsj hst hzb hzl hyl OKE
        go_wp2_with fail
        refine N1.out.mono ?_
        rintro e w2 ⟨rfl, x2, k2⟩
        have GO := Lib.hid (HR.out.open k2 x2 ⟨k, 0, eS⟩)
        clear x2 k2 N1 HR cb
        go_upto_region 8 with (fail)
        refine world_at (fun Z => GF w Z w.heap.size w2.heap.size u6 j (fldN ys bd) y1 b1 ⟨k, 0, eS⟩) GO.out ?_
        rintro Z gz
        obtain ⟨g3, hg3⟩ : ∃ x, w2.heap.size = x := ⟨_, rfl⟩
        rw [hg3] at gz ⊢
        have GZ := Lib.hid gz
        obtain ⟨c0, c1, c2⟩ := fv_cells gz.fld
        clear gz GO hg3 BF
        by_cases h1 : k = 1
        · subst h1
          have hr := FJ.out; have hs := SJ.out
          rw [if_pos rfl] at hr hs
          have NM := Lib.hid (rrnum_t w.heap.size y1 b1 8 w Z GZ.out.rd HY.out (by decide) (by decide))
          obtain ⟨_, _, hv8⟩ := rNum_bytes y1 b1 8 HY.out
          obtain ⟨⟨v, zs', b2⟩, hR⟩ : ∃ r, rNum y1 b1 8 = r := ⟨_, rfl⟩
          simp only [hR] at NM hv8 hr hs
          obtain ⟨nn, hn⟩ : ∃ n, IntKind.i64.wrap (v : Int) = n := ⟨_, rfl⟩
          rw [hn] at hr
          have HF := Lib.hid hr
          have HS := Lib.hid hs
          clear hR hr hs FJ SJ HY HFI
          go_wp2_with fail
          refine NM.out.mono ?_
          rintro e w3 ⟨rfl, x3, k3⟩
          have g4 := GZ.out.read k3 x3
          have fz := g4.fld.frozen 1
          have ct := g4.fld.cell 1
          have kz : Kept (fun k => k = g3) w3 (w3.setCell ⟨g3, 1, none⟩ (.int .i64 nn)) := Kept.setCell (F := fun k => k = g3) (Kept.refl _ _) (p := ⟨g3, 1, none⟩) (.inl rfl) _
          have G5 := Lib.hid (g4.store kz (fv_set1 g4.fld nn))
          clear x3 k3 g4 kz GZ NM c0 c1 c2
          go_upto_region 13 with (fail)
          clear fz ct
          refine world_at (fun Z => GF w Z w.heap.size g3 u6 j (fldN ys bd) zs' b2 ⟨1, nn, eS⟩) G5.out ?_
          rintro V gz
          have GZ := Lib.hid gz
          clear gz G5
          have FV := Lib.hid (fv_size ⟨1, nn, eS⟩); have FO := Lib.hid (fv_one ⟨1, nn, eS⟩)
          have BN := Lib.hid ((Below.refl (V).heap.size V).alloc (Nat.le_refl _) (.cells (rowC (fun _ => ⟨1, nn, eS⟩) 1).toArray 40))
          have RW := Lib.hid (rw_of_blk (n := 1) (rest := []) (fun _ => ⟨1, nn, eS⟩) (by rw [List.append_nil]; exact Blk.new V 40 (rowC (fun _ => ⟨1, nn, eS⟩) 1)))
          have OA := Lib.hid (own_below GZ.out.own BN.out)
          have L3 : (fv ⟨1, nn, eS⟩).length = 3 := rfl
          have HB := Lib.hid (show w.heap.size ≤ ((V).alloc (.cells (rowC (fun _ => ⟨1, nn, eS⟩) 1).toArray 40)).heap.size from Nat.le_trans GZ.out.rd.bel.size BN.out.size)
          go_wp2_with (first
            | ((with_reducible refine load_blk 40 (.tmp 8) g3 40 (fv ⟨1, nn, eS⟩) _ rfl rfl ?_ Tryd.underlying40 ?_ ?_ ?_ ?_); exact GZ.out.fld; exact rfl; exact FV.out; exact rfl)
            | ((with_reducible refine at_op (.call { callee := .builtin .append, args := #[.tmp 45, .tmp 47], argTypes := #[22, 22] }) rfl ?_); go_must (refine append_flds (.tmp 45) (.tmp 47) rfl rfl w.heap.size u6 j (rowC (fldN ys bd) j) rfl OA.out (some ⟨(V).heap.size, 0, none⟩) 1 1 rfl (fun _ => ⟨1, nn, eS⟩) (by decide) RW.out (by omega) HB.out ?_); intro v1 w5 a1 a2 a3))
          exact ⟨⟨j + 1, hlt, by go_num, (by rw [HS.out]; exact GZ.out.more HF.out OA.out a1.out a2.out)⟩, by simp [intOf]; omega⟩
        · have hr := FJ.out; have hs := SJ.out
          rw [if_neg h1] at hr hs
          have e1 : ((k : Int) == 1) = false := by rw [beq_eq_false_iff_ne]; omega
          by_cases h2 : k = 2
          · subst h2
            have hb1 := HFI.out (by decide)
            subst hb1
            rw [if_pos rfl] at hr hs
            have NM := Lib.hid (rrtxt_t w.heap.size y1 false 40 w Z GZ.out.rd HY.out (by decide) (by omega))
            rw [rTxtM_eq] at NM
            obtain ⟨⟨v, zs', b2⟩, hR⟩ : ∃ r, rTxt y1 false 40 = r := ⟨_, rfl⟩
            simp only [hR] at NM hr hs
            have HF := Lib.hid hr
            have HS := Lib.hid hs
            clear hR hr hs FJ SJ HY HFI h1
            go_wp2_with fail
            refine NM.out.mono ?_
            rintro e w3 ⟨⟨A2, cc, rfl, _, s3⟩, x3, k3⟩
            have hcv := s3.conv rfl cc
            have g4 := GZ.out.read k3 x3
            have fz := g4.fld.frozen 2
            have ct := g4.fld.cell 2
            have kz : Kept (fun k => k = g3) w3 (w3.setCell ⟨g3, 2, none⟩ (.string (str v))) := Kept.setCell (F := fun k => k = g3) (Kept.refl _ _) (p := ⟨g3, 2, none⟩) (.inl rfl) _
            have G5 := Lib.hid (g4.store kz (fv_set2 g4.fld (str v)))
            clear x3 k3 g4 kz GZ NM c0 c1 c2 s3
            go_upto_region 13 with (fail)
            clear fz ct hcv
            refine world_at (fun Z => GF w Z w.heap.size g3 u6 j (fldN ys bd) zs' b2 ⟨2, 0, str v⟩) G5.out ?_
            rintro V gz
            have GZ := Lib.hid gz
            clear gz G5
            have FV := Lib.hid (fv_size ⟨2, 0, str v⟩); have FO := Lib.hid (fv_one ⟨2, 0, str v⟩)
            have BN := Lib.hid ((Below.refl (V).heap.size V).alloc (Nat.le_refl _) (.cells (rowC (fun _ => ⟨2, 0, str v⟩) 1).toArray 40))
            have RW := Lib.hid (rw_of_blk (n := 1) (rest := []) (fun _ => ⟨2, 0, str v⟩) (by rw [List.append_nil]; exact Blk.new V 40 (rowC (fun _ => ⟨2, 0, str v⟩) 1)))
            have OA := Lib.hid (own_below GZ.out.own BN.out)
            have L3 : (fv ⟨2, 0, str v⟩).length = 3 := rfl
            have HB := Lib.hid (show w.heap.size ≤ ((V).alloc (.cells (rowC (fun _ => ⟨2, 0, str v⟩) 1).toArray 40)).heap.size from Nat.le_trans GZ.out.rd.bel.size BN.out.size)
            go_wp2_with (first
              | ((with_reducible refine load_blk 40 (.tmp 8) g3 40 (fv ⟨2, 0, str v⟩) _ rfl rfl ?_ Tryd.underlying40 ?_ ?_ ?_ ?_); exact GZ.out.fld; exact rfl; exact FV.out; exact rfl)
              | ((with_reducible refine at_op (.call { callee := .builtin .append, args := #[.tmp 45, .tmp 47], argTypes := #[22, 22] }) rfl ?_); go_must (refine append_flds (.tmp 45) (.tmp 47) rfl rfl w.heap.size u6 j (rowC (fldN ys bd) j) rfl OA.out (some ⟨(V).heap.size, 0, none⟩) 1 1 rfl (fun _ => ⟨2, 0, str v⟩) (by decide) RW.out (by omega) HB.out ?_); intro v1 w5 a1 a2 a3))
            exact ⟨⟨j + 1, hlt, by go_num, (by rw [HS.out]; exact GZ.out.more HF.out OA.out a1.out a2.out)⟩, by simp [intOf]; omega⟩
          · rw [if_neg h2] at hr hs
            have HF := Lib.hid hr
            have HS := Lib.hid hs
            have e2 : ((k : Int) == 2) = false := by rw [beq_eq_false_iff_ne]; omega
            clear h1 h2 hr hs FJ SJ HY HFI c1 c2
            go_upto_region 13 with (fail)
            clear c0 e1 e2
            have FV := Lib.hid (fv_size ⟨(k : Int), 0, eS⟩); have FO := Lib.hid (fv_one ⟨(k : Int), 0, eS⟩)
            have BN := Lib.hid ((Below.refl (Z).heap.size Z).alloc (Nat.le_refl _) (.cells (rowC (fun _ => ⟨(k : Int), 0, eS⟩) 1).toArray 40))
            have RW := Lib.hid (rw_of_blk (n := 1) (rest := []) (fun _ => ⟨(k : Int), 0, eS⟩) (by rw [List.append_nil]; exact Blk.new Z 40 (rowC (fun _ => ⟨(k : Int), 0, eS⟩) 1)))
            have OA := Lib.hid (own_below GZ.out.own BN.out)
            have L3 : (fv ⟨(k : Int), 0, eS⟩).length = 3 := rfl
            have HB := Lib.hid (show w.heap.size ≤ ((Z).alloc (.cells (rowC (fun _ => ⟨(k : Int), 0, eS⟩) 1).toArray 40)).heap.size from Nat.le_trans GZ.out.rd.bel.size BN.out.size)
            go_wp2_with (first
              | ((with_reducible refine load_blk 40 (.tmp 8) g3 40 (fv ⟨(k : Int), 0, eS⟩) _ rfl rfl ?_ Tryd.underlying40 ?_ ?_ ?_ ?_); exact GZ.out.fld; exact rfl; exact FV.out; exact rfl)
              | ((with_reducible refine at_op (.call { callee := .builtin .append, args := #[.tmp 45, .tmp 47], argTypes := #[22, 22] }) rfl ?_); go_must (refine append_flds (.tmp 45) (.tmp 47) rfl rfl w.heap.size u6 j (rowC (fldN ys bd) j) rfl OA.out (some ⟨(Z).heap.size, 0, none⟩) 1 1 rfl (fun _ => ⟨(k : Int), 0, eS⟩) (by decide) RW.out (by omega) HB.out ?_); intro v1 w5 a1 a2 a3))
            exact ⟨⟨j + 1, hlt, by go_num, (by rw [HS.out]; exact GZ.out.more HF.out OA.out a1.out a2.out)⟩, by simp [intOf]; omega⟩
    · obtain rfl : j = n := by omega
      have HO := OKE.out
      rw [hst] at HO
      have HOK := Lib.hid HO
      obtain ⟨A, cA, rfl, _⟩ := own_form HR.out.own
      have RT := Lib.hid (rw_of_own HR.out.own)
      have MT := Lib.hid (refmayP_t j cA A (fldN ys bd) wr (by omega) RT.out)
      clear HO OKE hst hfj hsj hzb hzl hlt hj
      obtain ⟨mp, hmp⟩ : ∃ x, mayP j (fldN ys bd) = x := ⟨_, rfl⟩
      rw [hmp] at MT HOK
      obtain ⟨en, hen⟩ : ∃ x, endN zs b = x := ⟨_, rfl⟩
      have hen2 : endN (zs, b).1 (zs, b).2 = en := hen
      rw [hen2] at HOK
      clear hmp hen2
      go_wp2_with fail
      refine (rrend_t w.heap.size _ _ w wr HR.out.rd).mono ?_
      rintro e w5 ⟨rfl, rfl⟩
      rw [hen]
      clear hen cb
      by_cases h0 : en = 0
      · subst h0
        go_wp2_with fail
        refine MT.out.mono ?_
        rintro e w6 ⟨rfl, b6⟩
        have B6 := Lib.hid (HR.out.rd.bel.trans (b6.mono HR.out.rd.bel.size)); have R6 := Lib.hid (RT.out.below b6)
        clear b6 MT
        cases mp with
        | false =>
          go_wp2_with fail
          go_ret2
          exact ⟨B6.out, .inl ⟨HOK.out, rfl⟩⟩
        | true =>
          go_wp2_with fail
          go_ret2
          exact ⟨B6.out, .inr ⟨HOK.out, A, cA, rfl, R6.out⟩⟩
      · have e1 : ((en : Int) != 0) = true := by rw [bne_iff_ne]; omega
        have HO2 := HOK.out
        rw [decide_eq_false h0] at HO2
        have HO3 := Lib.hid (HO2 : ok = false)
        clear HOK HO2 MT h0
        go_wp2_with fail
        go_ret2
        exact ⟨HR.out.rd.bel, .inl ⟨HO3.out, rfl⟩⟩
end Go.Proofs.YtigbnjgmdgkgjaaDoor
