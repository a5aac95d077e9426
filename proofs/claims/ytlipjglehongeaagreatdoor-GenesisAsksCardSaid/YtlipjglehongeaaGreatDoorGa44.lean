/-
  THE REFERENCE OF CHAPTER 10
-/
import Derived.Test.YtlipjglehongeaaGreatDoorGa43
namespace Go.Proofs.YtlipjglehongeaaGreatDoor
open Go Go.RowKit Sh

theorem HG9.write {w0 W W' : World} {x : Gv} {l : List Nat} {g : Nat} (h : HG9 w0 W x l) (h0 : GvW w0 x) (hk : Kept (fun k => k = g) W W') (hg : w0.heap.size + 1 < g) : HG9 w0 W' x l := by
  have b := kept_below h.gb.bel hk (by omega)
  exact ⟨⟨h.gb.a.kept hk (by omega), h0.below b, b⟩, h.res.kept hk (by omega)⟩
set_option maxRecDepth 100000 in
set_option maxHeartbeats 2000000 in
theorem gLinkR_yes (x : Gv) (w : World) (h : GvW w x) (hc : GvC x) (hm : begB x = true) (hs : x.st.length ≤ 900000) :
    Calls Tryz.prog 23 #[.agg (gv x).toArray] w fun e w' => e = .returned (.agg (u8s (liE x)).toArray) ∧ Below w.heap.size w w' := by
  have S0 := Lib.hid (HG9.new h)
  have HC := Lib.hid hc; have FG := Lib.hid (gv_size x); have HM := Lib.hid hm; have HS := Lib.hid hs; have SM := Lib.hid (spMay_beg hm)
  have BT0 := Lib.hid (show Bytes (anE x) from sum_bytes _ (app_bytes (bs_bytes _) (pg_bytes h.kb h.sb)))
  have HX0 := Lib.hid h
  clear h hc hm hs
  obtain ⟨S, hS⟩ : ∃ S, liE x = S := ⟨_, rfl⟩
  obtain ⟨T, hT⟩ : ∃ T, anE x = T := ⟨_, rfl⟩
  obtain ⟨U, hU⟩ : ∃ U, sum (stM ++ putS (begS x)) = U := ⟨_, rfl⟩
  have HSL := Lib.hid (show S.length = 32 from by rw [← hS]; rfl)
  have HTL := Lib.hid (show T.length = 32 from by rw [← hT]; rfl)
  have HUL := Lib.hid (show U.length = 32 from by rw [← hU]; rfl)
  have HTT := Lib.hid hT; have HUU := Lib.hid hU
  have BT_ := Lib.hid (show Bytes T from by rw [← hT]; exact BT0.out)
  have BU_ := Lib.hid (show Bytes U from by rw [← hU]; exact sum_bytes _ (app_bytes stM_bytes (putS_bytes _)))
  have HSS := Lib.hid (show sum (liL ++ (T ++ U)) = S from by rw [← hT, ← hU, ← liL_eq]; exact hS)
  rw [hS]
  clear hS hT hU BT0
  go_enter Tryz.func23, Tryz.ntmps23
  go_upto_region 1 with (fail)
  refine world_at (fun Y => HG9 w Y x zH) S0.out ?_
  rintro V s1
  have S1 := Lib.hid s1
  clear s1 S0
  have MT := Lib.hid (gMayR_t x V S1.out.gb.rx HC.out)
  rw [HM.out] at MT
  have GA := Lib.hid S1.out.gb.a
  go_wp2_with ((with_reducible refine load_blk 25 (.tmp 1) w.heap.size 25 (gv x) _ rfl rfl ?_ Tryz.underlying25 ?_ ?_ ?_ ?_); exact GA.out; exact rfl; exact FG.out; exact rfl)
  refine MT.out.mono ?_
  rintro e w1 ⟨rfl, b1⟩
  have S2 := Lib.hid (S1.out.below b1)
  clear S1 MT b1 GA
  go_upto_region 3 with (fail)
  have AF := Lib.hid (fun (W : World) (h : HG9 w W x zH) => show Calls Tryz.prog 21 #[.agg (gv x).toArray] W fun e w' => e = .returned (.agg (u8s T).toArray) ∧ Below W.heap.size W w' from by have q := gAnchorR_yes x W h.gb.rx HC.out HM.out HS.out; rw [HTT.out] at q; exact q)
  have FF := Lib.hid (fun (W : World) (h : HG9 w W x zH) => gFirstR_t x W h.gb.rx HC.out)
  have DF := Lib.hid (fun (W : World) (y : Spv) (hy : y.sp = begS x) (h : SpW W y) => show Calls Tryz.prog 70 #[.agg (sv y).toArray] W fun e w' => e = .returned (.agg (u8s U).toArray) ∧ Below W.heap.size W w' from by have q := refDigS_t y W h (by rw [hy]; exact SM.out); rw [hy, HUU.out] at q; exact q)
  have HTZ := Lib.hid (show (u8s zH).length = (u8s T).length by rw [u8s_length, u8s_length, HTL.out]; rfl)
  have HUZ := Lib.hid (show (u8s zH).length = (u8s U).length by rw [u8s_length, u8s_length, HUL.out]; rfl)
  go_cut [3, 4] (fun s3 s4 wx => ∃ g5 g6 : Nat, s3 = .pointer (some ⟨g5, 0, none⟩) ∧ s4 = .pointer (some ⟨g6, 0, none⟩) ∧ HG9 w wx x zH ∧ Blk wx g5 36 (u8s T) ∧ Blk wx g6 36 (u8s U))
  case first =>
    obtain ⟨W4, hW4⟩ : ∃ Z, w1.drew = Z := ⟨_, rfl⟩
    have SS := Lib.hid (S2.out.below (show Below w1.heap.size w1 W4 from by rw [← hW4]; exact (Below.refl _ _).drew))
    clear S2
    refine wp_region_held (S := fun Y => Blk Y w.heap.size 25 (gv x)) (by kernel_rfl) ?_
    change wpAnyH _ _ _ _ _ _ _ _ w1.drew
    rw [hW4]
    clear hW4
    have r0 := SS.out.gb.a
    refine wpAnyH_take (i := 0) (v := .agg ((gv x)).toArray) rfl (by kernel_rfl) (by kernel_rfl) (by kernel_rfl) (fun _ _ _ h => h) (yieldsIf_load_mid (by kernel_rfl) 25 (.tmp 1) rfl w.heap.size 0 (by go_simp) ((gv x)) _ (fun _ h => rows_of_blk h) Tryz.underlying25 rfl (FG.out)) r0 ?_
    refine wpAnyH_take (i := 2) (v := .agg ((gv x)).toArray) rfl (by kernel_rfl) (by kernel_rfl) (by kernel_rfl) (fun _ _ _ h => h) (yieldsIf_load_mid (by kernel_rfl) 25 (.tmp 1) rfl w.heap.size 0 (by go_simp) ((gv x)) _ (fun _ h => rows_of_blk h) Tryz.underlying25 rfl (FG.out)) r0 ?_
    clear r0
    refine wpAnyH_ready (rs := [1, 5, 6]) (by kernel_rfl) (by simp) ?_
    refine AllReadyH.cons rfl (fun K hK => ?_) (AllReadyH.cons rfl (fun K hK => ?_) (AllReadyH.cons rfl (fun K hK => ?_) AllReadyH.nil))
    · rw [if_pos (by kernel_rfl)]
      go_simp
      refine (AF.out _ SS.out).mono ?_
      rintro e W5 ⟨rfl, bb⟩
      have SS := Lib.hid (SS.out.below bb)
      refine hK.out _ _ SS.out.gb.a (fun hz => ?_)
      clear hK K hz bb
      refine wpAnyH_ready (rs := [3, 5, 6]) (by kernel_rfl) (by simp) ?_
      refine AllReadyH.cons rfl (fun K hK => ?_) (AllReadyH.cons rfl (fun K hK => ?_) (AllReadyH.cons rfl (fun K hK => ?_) AllReadyH.nil))
      · rw [if_pos (by kernel_rfl)]
        go_simp
        refine (FF.out _ SS.out).mono ?_
        rintro e W6 ⟨y, rfl, hy, yy, bb⟩
        have HYY := Lib.hid hy; have WY := Lib.hid yy.w
        have SS := Lib.hid (SS.out.below bb)
        refine hK.out _ _ SS.out.gb.a (fun hz => ?_)
        clear hK K hz bb hy yy
        refine wpAnyH_ready (rs := [4, 5, 6]) (by kernel_rfl) (by simp) ?_
        refine AllReadyH.cons rfl (fun K hK => ?_) (AllReadyH.cons rfl (fun K hK => ?_) (AllReadyH.cons rfl (fun K hK => ?_) AllReadyH.nil))
        · rw [if_pos (by kernel_rfl)]
          go_simp
          refine (DF.out _ y HYY.out WY.out).mono ?_
          rintro e W7 ⟨rfl, bb⟩
          have SS := Lib.hid (SS.out.below bb)
          refine hK.out _ _ SS.out.gb.a (fun hz => ?_)
          clear hK K hz bb
          refine wpAnyH_ready (rs := [5, 6]) (by kernel_rfl) (by simp) ?_
          refine AllReadyH.cons rfl (fun K hK => ?_) (AllReadyH.cons rfl (fun K hK => ?_) AllReadyH.nil)
          · rw [if_pos (by kernel_rfl)]
            have bb := (Below.refl W7.heap.size W7).alloc (Nat.le_refl _) (.cells (u8s zH).toArray 36)
            have SS2 := Lib.hid (SS.out.below bb); have A5 := Lib.hid (Blk.new W7 36 (u8s zH)); have L5 := Lib.hid SS.out.res.lt
            go_simp
            refine hK.out _ _ SS2.out.gb.a (fun hz => ?_)
            clear hK K hz bb SS
            obtain ⟨W8, hW8⟩ : ∃ V, W7.alloc (.cells (u8s zH).toArray 36) = V := ⟨_, rfl⟩
            change wpAnyH _ _ _ _ _ _ _ _ (W7.alloc (.cells (u8s zH).toArray 36))
            rw [hW8] at SS2 A5 ⊢
            obtain ⟨g5, hg5⟩ : ∃ V, W7.heap.size = V := ⟨_, rfl⟩
            rw [hg5] at A5 L5 ⊢
            clear hW8 hg5
            have SS := Lib.hid SS2.out
            clear SS2
            refine wpAnyH_ready (rs := [6]) (by kernel_rfl) (by simp) ?_
            refine AllReadyH.cons rfl (fun K hK => ?_) AllReadyH.nil
            rw [if_pos (by kernel_rfl)]
            have bb := (Below.refl W8.heap.size W8).alloc (Nat.le_refl _) (.cells (u8s zH).toArray 36)
            have SS2 := Lib.hid (SS.out.below bb); have B6 := Lib.hid (Blk.new W8 36 (u8s zH)); have L6 := Lib.hid SS.out.res.lt
            have NE := Lib.hid (show g5 ≠ W8.heap.size from by have h := A5.out.lt; omega)
            have A5 := Lib.hid (A5.out.below bb A5.out.lt)
            go_simp
            refine hK.out _ _ SS2.out.gb.a (fun hz => ?_)
            clear hK K hz bb SS
            obtain ⟨W9, hW9⟩ : ∃ V, W8.alloc (.cells (u8s zH).toArray 36) = V := ⟨_, rfl⟩
            change wpAnyH _ _ _ _ _ _ _ _ (W8.alloc (.cells (u8s zH).toArray 36))
            rw [hW9] at SS2 B6 A5 ⊢
            obtain ⟨g6, hg6⟩ : ∃ V, W8.heap.size = V := ⟨_, rfl⟩
            rw [hg6] at B6 L6 NE ⊢
            clear hW9 hg6
            have SS := Lib.hid SS2.out
            clear SS2
            refine wpAnyH_ready (rs := [7]) (by kernel_rfl) (by simp) ?_
            refine AllReadyH.cons rfl (fun K hK => ?_) AllReadyH.nil
            rw [if_pos (by kernel_rfl)]
            refine wstore_part 36 (.tmp 3) (.tmp 10) g5 0 36 [] (u8s zH) [] (u8s T) rfl (by simpa using A5.out) rfl HTZ.out (hash_size _ HTL.out) (u8s_oneD _) rfl rfl ?_
            intro w6 a1 a2 _
            have k5 := a2.out.keptOne rfl
            have A5 := Lib.hid (show Blk w6 g5 36 (u8s T) from by simpa using a1.out)
            have B6 := Lib.hid (B6.out.kept k5 (fun e => NE.out e.symm))
            have SS := Lib.hid (SS.out.write HX0.out k5 L5.out)
            refine hK.out _ _ SS.out.gb.a (fun hz => ?_)
            clear hK K hz a1 a2 k5
            refine wpAnyH_ready (rs := [8]) (by kernel_rfl) (by simp) ?_
            refine AllReadyH.cons rfl (fun K hK => ?_) AllReadyH.nil
            rw [if_pos (by kernel_rfl)]
            refine wstore_part 36 (.tmp 4) (.tmp 13) g6 0 36 [] (u8s zH) [] (u8s U) rfl (by simpa using B6.out) rfl HUZ.out (hash_size _ HUL.out) (u8s_oneD _) rfl rfl ?_
            intro w7 a1 a2 _
            have k6 := a2.out.keptOne rfl
            have B6 := Lib.hid (show Blk w7 g6 36 (u8s U) from by simpa using a1.out)
            have A5 := Lib.hid (A5.out.kept k6 NE.out)
            have SS := Lib.hid (SS.out.write HX0.out k6 L6.out)
            refine hK.out _ _ SS.out.gb.a (fun hz => ?_)
            clear hK K hz a1 a2 k6
            refine wpAnyH_done (by kernel_rfl) ?_ _
            go_simp
            go_wp2_with fail
            go_meet
            exact ⟨g5, g6, rfl, rfl, SS.out, A5.out, B6.out⟩
          · rw [if_pos (by kernel_rfl)]
            have bb := (Below.refl W7.heap.size W7).alloc (Nat.le_refl _) (.cells (u8s zH).toArray 36)
            have SS2 := Lib.hid (SS.out.below bb); have B6 := Lib.hid (Blk.new W7 36 (u8s zH)); have L6 := Lib.hid SS.out.res.lt
            go_simp
            refine hK.out _ _ SS2.out.gb.a (fun hz => ?_)
            clear hK K hz bb SS
            obtain ⟨W8, hW8⟩ : ∃ V, W7.alloc (.cells (u8s zH).toArray 36) = V := ⟨_, rfl⟩
            change wpAnyH _ _ _ _ _ _ _ _ (W7.alloc (.cells (u8s zH).toArray 36))
            rw [hW8] at SS2 B6 ⊢
            obtain ⟨g6, hg6⟩ : ∃ V, W7.heap.size = V := ⟨_, rfl⟩
            rw [hg6] at B6 L6 ⊢
            clear hW8 hg6
            have SS := Lib.hid SS2.out
            clear SS2
            refine wpAnyH_ready (rs := [5]) (by kernel_rfl) (by simp) ?_
            refine AllReadyH.cons rfl (fun K hK => ?_) AllReadyH.nil
            rw [if_pos (by kernel_rfl)]
            have bb := (Below.refl W8.heap.size W8).alloc (Nat.le_refl _) (.cells (u8s zH).toArray 36)
            have SS2 := Lib.hid (SS.out.below bb); have A5 := Lib.hid (Blk.new W8 36 (u8s zH)); have L5 := Lib.hid SS.out.res.lt
            have NE := Lib.hid (show W8.heap.size ≠ g6 from by have h := B6.out.lt; omega)
            have B6 := Lib.hid (B6.out.below bb B6.out.lt)
            go_simp
            refine hK.out _ _ SS2.out.gb.a (fun hz => ?_)
            clear hK K hz bb SS
            obtain ⟨W9, hW9⟩ : ∃ V, W8.alloc (.cells (u8s zH).toArray 36) = V := ⟨_, rfl⟩
            change wpAnyH _ _ _ _ _ _ _ _ (W8.alloc (.cells (u8s zH).toArray 36))
            rw [hW9] at SS2 A5 B6 ⊢
            obtain ⟨g5, hg5⟩ : ∃ V, W8.heap.size = V := ⟨_, rfl⟩
            rw [hg5] at A5 L5 NE ⊢
            clear hW9 hg5
            have SS := Lib.hid SS2.out
            clear SS2
            refine wpAnyH_ready (rs := [7]) (by kernel_rfl) (by simp) ?_
            refine AllReadyH.cons rfl (fun K hK => ?_) AllReadyH.nil
            rw [if_pos (by kernel_rfl)]
            refine wstore_part 36 (.tmp 3) (.tmp 10) g5 0 36 [] (u8s zH) [] (u8s T) rfl (by simpa using A5.out) rfl HTZ.out (hash_size _ HTL.out) (u8s_oneD _) rfl rfl ?_
            intro w6 a1 a2 _
            have k5 := a2.out.keptOne rfl
            have A5 := Lib.hid (show Blk w6 g5 36 (u8s T) from by simpa using a1.out)
            have B6 := Lib.hid (B6.out.kept k5 (fun e => NE.out e.symm))
            have SS := Lib.hid (SS.out.write HX0.out k5 L5.out)
            refine hK.out _ _ SS.out.gb.a (fun hz => ?_)
            clear hK K hz a1 a2 k5
            refine wpAnyH_ready (rs := [8]) (by kernel_rfl) (by simp) ?_
            refine AllReadyH.cons rfl (fun K hK => ?_) AllReadyH.nil
            rw [if_pos (by kernel_rfl)]
            refine wstore_part 36 (.tmp 4) (.tmp 13) g6 0 36 [] (u8s zH) [] (u8s U) rfl (by simpa using B6.out) rfl HUZ.out (hash_size _ HUL.out) (u8s_oneD _) rfl rfl ?_
            intro w7 a1 a2 _
            have k6 := a2.out.keptOne rfl
            have B6 := Lib.hid (show Blk w7 g6 36 (u8s U) from by simpa using a1.out)
            have A5 := Lib.hid (A5.out.kept k6 NE.out)
            have SS := Lib.hid (SS.out.write HX0.out k6 L6.out)
            refine hK.out _ _ SS.out.gb.a (fun hz => ?_)
            clear hK K hz a1 a2 k6
            refine wpAnyH_done (by kernel_rfl) ?_ _
            go_simp
            go_wp2_with fail
            go_meet
            exact ⟨g5, g6, rfl, rfl, SS.out, A5.out, B6.out⟩
        · rw [if_pos (by kernel_rfl)]
          have bb := (Below.refl W6.heap.size W6).alloc (Nat.le_refl _) (.cells (u8s zH).toArray 36)
          have SS2 := Lib.hid (SS.out.below bb); have A5 := Lib.hid (Blk.new W6 36 (u8s zH)); have L5 := Lib.hid SS.out.res.lt
          have WY := Lib.hid (WY.out.below bb)
          go_simp
          refine hK.out _ _ SS2.out.gb.a (fun hz => ?_)
          clear hK K hz bb SS
          obtain ⟨W7, hW7⟩ : ∃ V, W6.alloc (.cells (u8s zH).toArray 36) = V := ⟨_, rfl⟩
          change wpAnyH _ _ _ _ _ _ _ _ (W6.alloc (.cells (u8s zH).toArray 36))
          rw [hW7] at SS2 A5 WY ⊢
          obtain ⟨g5, hg5⟩ : ∃ V, W6.heap.size = V := ⟨_, rfl⟩
          rw [hg5] at A5 L5 ⊢
          clear hW7 hg5
          have SS := Lib.hid SS2.out
          clear SS2
          refine wpAnyH_ready (rs := [4, 6]) (by kernel_rfl) (by simp) ?_
          refine AllReadyH.cons rfl (fun K hK => ?_) (AllReadyH.cons rfl (fun K hK => ?_) AllReadyH.nil)
          · rw [if_pos (by kernel_rfl)]
            go_simp
            refine (DF.out _ y HYY.out WY.out).mono ?_
            rintro e W8 ⟨rfl, bb⟩
            have SS := Lib.hid (SS.out.below bb)
            have A5 := Lib.hid (A5.out.below bb A5.out.lt)
            refine hK.out _ _ SS.out.gb.a (fun hz => ?_)
            clear hK K hz bb
            refine wpAnyH_ready (rs := [6]) (by kernel_rfl) (by simp) ?_
            refine AllReadyH.cons rfl (fun K hK => ?_) AllReadyH.nil
            rw [if_pos (by kernel_rfl)]
            have bb := (Below.refl W8.heap.size W8).alloc (Nat.le_refl _) (.cells (u8s zH).toArray 36)
            have SS2 := Lib.hid (SS.out.below bb); have B6 := Lib.hid (Blk.new W8 36 (u8s zH)); have L6 := Lib.hid SS.out.res.lt
            have NE := Lib.hid (show g5 ≠ W8.heap.size from by have h := A5.out.lt; omega)
            have A5 := Lib.hid (A5.out.below bb A5.out.lt)
            go_simp
            refine hK.out _ _ SS2.out.gb.a (fun hz => ?_)
            clear hK K hz bb SS
            obtain ⟨W9, hW9⟩ : ∃ V, W8.alloc (.cells (u8s zH).toArray 36) = V := ⟨_, rfl⟩
            change wpAnyH _ _ _ _ _ _ _ _ (W8.alloc (.cells (u8s zH).toArray 36))
            rw [hW9] at SS2 B6 A5 ⊢
            obtain ⟨g6, hg6⟩ : ∃ V, W8.heap.size = V := ⟨_, rfl⟩
            rw [hg6] at B6 L6 NE ⊢
            clear hW9 hg6
            have SS := Lib.hid SS2.out
            clear SS2
            refine wpAnyH_ready (rs := [7]) (by kernel_rfl) (by simp) ?_
            refine AllReadyH.cons rfl (fun K hK => ?_) AllReadyH.nil
            rw [if_pos (by kernel_rfl)]
            refine wstore_part 36 (.tmp 3) (.tmp 10) g5 0 36 [] (u8s zH) [] (u8s T) rfl (by simpa using A5.out) rfl HTZ.out (hash_size _ HTL.out) (u8s_oneD _) rfl rfl ?_
            intro w6 a1 a2 _
            have k5 := a2.out.keptOne rfl
            have A5 := Lib.hid (show Blk w6 g5 36 (u8s T) from by simpa using a1.out)
            have B6 := Lib.hid (B6.out.kept k5 (fun e => NE.out e.symm))
            have SS := Lib.hid (SS.out.write HX0.out k5 L5.out)
            refine hK.out _ _ SS.out.gb.a (fun hz => ?_)
            clear hK K hz a1 a2 k5
            refine wpAnyH_ready (rs := [8]) (by kernel_rfl) (by simp) ?_
            refine AllReadyH.cons rfl (fun K hK => ?_) AllReadyH.nil
            rw [if_pos (by kernel_rfl)]
            refine wstore_part 36 (.tmp 4) (.tmp 13) g6 0 36 [] (u8s zH) [] (u8s U) rfl (by simpa using B6.out) rfl HUZ.out (hash_size _ HUL.out) (u8s_oneD _) rfl rfl ?_
            intro w7 a1 a2 _
            have k6 := a2.out.keptOne rfl
            have B6 := Lib.hid (show Blk w7 g6 36 (u8s U) from by simpa using a1.out)
            have A5 := Lib.hid (A5.out.kept k6 NE.out)
            have SS := Lib.hid (SS.out.write HX0.out k6 L6.out)
            refine hK.out _ _ SS.out.gb.a (fun hz => ?_)
            clear hK K hz a1 a2 k6
            refine wpAnyH_done (by kernel_rfl) ?_ _
            go_simp
            go_wp2_with fail
            go_meet
            exact ⟨g5, g6, rfl, rfl, SS.out, A5.out, B6.out⟩
          · rw [if_pos (by kernel_rfl)]
            have bb := (Below.refl W7.heap.size W7).alloc (Nat.le_refl _) (.cells (u8s zH).toArray 36)
            have SS2 := Lib.hid (SS.out.below bb); have B6 := Lib.hid (Blk.new W7 36 (u8s zH)); have L6 := Lib.hid SS.out.res.lt
            have NE := Lib.hid (show g5 ≠ W7.heap.size from by have h := A5.out.lt; omega)
            have A5 := Lib.hid (A5.out.below bb A5.out.lt)
            have WY := Lib.hid (WY.out.below bb)
            go_simp
            refine hK.out _ _ SS2.out.gb.a (fun hz => ?_)
            clear hK K hz bb SS
            obtain ⟨W8, hW8⟩ : ∃ V, W7.alloc (.cells (u8s zH).toArray 36) = V := ⟨_, rfl⟩
            change wpAnyH _ _ _ _ _ _ _ _ (W7.alloc (.cells (u8s zH).toArray 36))
            rw [hW8] at SS2 B6 A5 WY ⊢
            obtain ⟨g6, hg6⟩ : ∃ V, W7.heap.size = V := ⟨_, rfl⟩
            rw [hg6] at B6 L6 NE ⊢
            clear hW8 hg6
            have SS := Lib.hid SS2.out
            clear SS2
            refine wpAnyH_ready (rs := [4]) (by kernel_rfl) (by simp) ?_
            refine AllReadyH.cons rfl (fun K hK => ?_) AllReadyH.nil
            rw [if_pos (by kernel_rfl)]
            go_simp
            refine (DF.out _ y HYY.out WY.out).mono ?_
            rintro e W9 ⟨rfl, bb⟩
            have SS := Lib.hid (SS.out.below bb)
            have A5 := Lib.hid (A5.out.below bb A5.out.lt)
            have B6 := Lib.hid (B6.out.below bb B6.out.lt)
            refine hK.out _ _ SS.out.gb.a (fun hz => ?_)
            clear hK K hz bb
            refine wpAnyH_ready (rs := [7]) (by kernel_rfl) (by simp) ?_
            refine AllReadyH.cons rfl (fun K hK => ?_) AllReadyH.nil
            rw [if_pos (by kernel_rfl)]
            refine wstore_part 36 (.tmp 3) (.tmp 10) g5 0 36 [] (u8s zH) [] (u8s T) rfl (by simpa using A5.out) rfl HTZ.out (hash_size _ HTL.out) (u8s_oneD _) rfl rfl ?_
            intro w6 a1 a2 _
            have k5 := a2.out.keptOne rfl
            have A5 := Lib.hid (show Blk w6 g5 36 (u8s T) from by simpa using a1.out)
            have B6 := Lib.hid (B6.out.kept k5 (fun e => NE.out e.symm))
            have SS := Lib.hid (SS.out.write HX0.out k5 L5.out)
            refine hK.out _ _ SS.out.gb.a (fun hz => ?_)
            clear hK K hz a1 a2 k5
            refine wpAnyH_ready (rs := [8]) (by kernel_rfl) (by simp) ?_
            refine AllReadyH.cons rfl (fun K hK => ?_) AllReadyH.nil
            rw [if_pos (by kernel_rfl)]
            refine wstore_part 36 (.tmp 4) (.tmp 13) g6 0 36 [] (u8s zH) [] (u8s U) rfl (by simpa using B6.out) rfl HUZ.out (hash_size _ HUL.out) (u8s_oneD _) rfl rfl ?_
            intro w7 a1 a2 _
            have k6 := a2.out.keptOne rfl
            have B6 := Lib.hid (show Blk w7 g6 36 (u8s U) from by simpa using a1.out)
            have A5 := Lib.hid (A5.out.kept k6 NE.out)
            have SS := Lib.hid (SS.out.write HX0.out k6 L6.out)
            refine hK.out _ _ SS.out.gb.a (fun hz => ?_)
            clear hK K hz a1 a2 k6
            refine wpAnyH_done (by kernel_rfl) ?_ _
            go_simp
            go_wp2_with fail
            go_meet
            exact ⟨g5, g6, rfl, rfl, SS.out, A5.out, B6.out⟩
        · rw [if_pos (by kernel_rfl)]
          have bb := (Below.refl W6.heap.size W6).alloc (Nat.le_refl _) (.cells (u8s zH).toArray 36)
          have SS2 := Lib.hid (SS.out.below bb); have B6 := Lib.hid (Blk.new W6 36 (u8s zH)); have L6 := Lib.hid SS.out.res.lt
          have WY := Lib.hid (WY.out.below bb)
          go_simp
          refine hK.out _ _ SS2.out.gb.a (fun hz => ?_)
          clear hK K hz bb SS
          obtain ⟨W7, hW7⟩ : ∃ V, W6.alloc (.cells (u8s zH).toArray 36) = V := ⟨_, rfl⟩
          change wpAnyH _ _ _ _ _ _ _ _ (W6.alloc (.cells (u8s zH).toArray 36))
          rw [hW7] at SS2 B6 WY ⊢
          obtain ⟨g6, hg6⟩ : ∃ V, W6.heap.size = V := ⟨_, rfl⟩
          rw [hg6] at B6 L6 ⊢
          clear hW7 hg6
          have SS := Lib.hid SS2.out
          clear SS2
          refine wpAnyH_ready (rs := [4, 5]) (by kernel_rfl) (by simp) ?_
          refine AllReadyH.cons rfl (fun K hK => ?_) (AllReadyH.cons rfl (fun K hK => ?_) AllReadyH.nil)
          · rw [if_pos (by kernel_rfl)]
            go_simp
            refine (DF.out _ y HYY.out WY.out).mono ?_
            rintro e W8 ⟨rfl, bb⟩
            have SS := Lib.hid (SS.out.below bb)
            have B6 := Lib.hid (B6.out.below bb B6.out.lt)
            refine hK.out _ _ SS.out.gb.a (fun hz => ?_)
            clear hK K hz bb
            refine wpAnyH_ready (rs := [5]) (by kernel_rfl) (by simp) ?_
            refine AllReadyH.cons rfl (fun K hK => ?_) AllReadyH.nil
            rw [if_pos (by kernel_rfl)]
            have bb := (Below.refl W8.heap.size W8).alloc (Nat.le_refl _) (.cells (u8s zH).toArray 36)
            have SS2 := Lib.hid (SS.out.below bb); have A5 := Lib.hid (Blk.new W8 36 (u8s zH)); have L5 := Lib.hid SS.out.res.lt
            have NE := Lib.hid (show W8.heap.size ≠ g6 from by have h := B6.out.lt; omega)
            have B6 := Lib.hid (B6.out.below bb B6.out.lt)
            go_simp
            refine hK.out _ _ SS2.out.gb.a (fun hz => ?_)
            clear hK K hz bb SS
            obtain ⟨W9, hW9⟩ : ∃ V, W8.alloc (.cells (u8s zH).toArray 36) = V := ⟨_, rfl⟩
            change wpAnyH _ _ _ _ _ _ _ _ (W8.alloc (.cells (u8s zH).toArray 36))
            rw [hW9] at SS2 A5 B6 ⊢
            obtain ⟨g5, hg5⟩ : ∃ V, W8.heap.size = V := ⟨_, rfl⟩
            rw [hg5] at A5 L5 NE ⊢
            clear hW9 hg5
            have SS := Lib.hid SS2.out
            clear SS2
            refine wpAnyH_ready (rs := [7]) (by kernel_rfl) (by simp) ?_
            refine AllReadyH.cons rfl (fun K hK => ?_) AllReadyH.nil
            rw [if_pos (by kernel_rfl)]
            refine wstore_part 36 (.tmp 3) (.tmp 10) g5 0 36 [] (u8s zH) [] (u8s T) rfl (by simpa using A5.out) rfl HTZ.out (hash_size _ HTL.out) (u8s_oneD _) rfl rfl ?_
            intro w6 a1 a2 _
            have k5 := a2.out.keptOne rfl
            have A5 := Lib.hid (show Blk w6 g5 36 (u8s T) from by simpa using a1.out)
            have B6 := Lib.hid (B6.out.kept k5 (fun e => NE.out e.symm))
            have SS := Lib.hid (SS.out.write HX0.out k5 L5.out)
            refine hK.out _ _ SS.out.gb.a (fun hz => ?_)
            clear hK K hz a1 a2 k5
            refine wpAnyH_ready (rs := [8]) (by kernel_rfl) (by simp) ?_
            refine AllReadyH.cons rfl (fun K hK => ?_) AllReadyH.nil
            rw [if_pos (by kernel_rfl)]
            refine wstore_part 36 (.tmp 4) (.tmp 13) g6 0 36 [] (u8s zH) [] (u8s U) rfl (by simpa using B6.out) rfl HUZ.out (hash_size _ HUL.out) (u8s_oneD _) rfl rfl ?_
            intro w7 a1 a2 _
            have k6 := a2.out.keptOne rfl
            have B6 := Lib.hid (show Blk w7 g6 36 (u8s U) from by simpa using a1.out)
            have A5 := Lib.hid (A5.out.kept k6 NE.out)
            have SS := Lib.hid (SS.out.write HX0.out k6 L6.out)
            refine hK.out _ _ SS.out.gb.a (fun hz => ?_)
            clear hK K hz a1 a2 k6
            refine wpAnyH_done (by kernel_rfl) ?_ _
            go_simp
            go_wp2_with fail
            go_meet
            exact ⟨g5, g6, rfl, rfl, SS.out, A5.out, B6.out⟩
          · rw [if_pos (by kernel_rfl)]
            have bb := (Below.refl W7.heap.size W7).alloc (Nat.le_refl _) (.cells (u8s zH).toArray 36)
            have SS2 := Lib.hid (SS.out.below bb); have A5 := Lib.hid (Blk.new W7 36 (u8s zH)); have L5 := Lib.hid SS.out.res.lt
            have NE := Lib.hid (show W7.heap.size ≠ g6 from by have h := B6.out.lt; omega)
            have B6 := Lib.hid (B6.out.below bb B6.out.lt)
            have WY := Lib.hid (WY.out.below bb)
            go_simp
            refine hK.out _ _ SS2.out.gb.a (fun hz => ?_)
            clear hK K hz bb SS
            obtain ⟨W8, hW8⟩ : ∃ V, W7.alloc (.cells (u8s zH).toArray 36) = V := ⟨_, rfl⟩
            change wpAnyH _ _ _ _ _ _ _ _ (W7.alloc (.cells (u8s zH).toArray 36))
            rw [hW8] at SS2 A5 B6 WY ⊢
            obtain ⟨g5, hg5⟩ : ∃ V, W7.heap.size = V := ⟨_, rfl⟩
            rw [hg5] at A5 L5 NE ⊢
            clear hW8 hg5
            have SS := Lib.hid SS2.out
            clear SS2
            refine wpAnyH_ready (rs := [4]) (by kernel_rfl) (by simp) ?_
            refine AllReadyH.cons rfl (fun K hK => ?_) AllReadyH.nil
            rw [if_pos (by kernel_rfl)]
            go_simp
            refine (DF.out _ y HYY.out WY.out).mono ?_
            rintro e W9 ⟨rfl, bb⟩
            have SS := Lib.hid (SS.out.below bb)
            have A5 := Lib.hid (A5.out.below bb A5.out.lt)
            have B6 := Lib.hid (B6.out.below bb B6.out.lt)
            refine hK.out _ _ SS.out.gb.a (fun hz => ?_)
            clear hK K hz bb
            refine wpAnyH_ready (rs := [7]) (by kernel_rfl) (by simp) ?_
            refine AllReadyH.cons rfl (fun K hK => ?_) AllReadyH.nil
            rw [if_pos (by kernel_rfl)]
            refine wstore_part 36 (.tmp 3) (.tmp 10) g5 0 36 [] (u8s zH) [] (u8s T) rfl (by simpa using A5.out) rfl HTZ.out (hash_size _ HTL.out) (u8s_oneD _) rfl rfl ?_
            intro w6 a1 a2 _
            have k5 := a2.out.keptOne rfl
            have A5 := Lib.hid (show Blk w6 g5 36 (u8s T) from by simpa using a1.out)
            have B6 := Lib.hid (B6.out.kept k5 (fun e => NE.out e.symm))
            have SS := Lib.hid (SS.out.write HX0.out k5 L5.out)
            refine hK.out _ _ SS.out.gb.a (fun hz => ?_)
            clear hK K hz a1 a2 k5
            refine wpAnyH_ready (rs := [8]) (by kernel_rfl) (by simp) ?_
            refine AllReadyH.cons rfl (fun K hK => ?_) AllReadyH.nil
            rw [if_pos (by kernel_rfl)]
            refine wstore_part 36 (.tmp 4) (.tmp 13) g6 0 36 [] (u8s zH) [] (u8s U) rfl (by simpa using B6.out) rfl HUZ.out (hash_size _ HUL.out) (u8s_oneD _) rfl rfl ?_
            intro w7 a1 a2 _
            have k6 := a2.out.keptOne rfl
            have B6 := Lib.hid (show Blk w7 g6 36 (u8s U) from by simpa using a1.out)
            have A5 := Lib.hid (A5.out.kept k6 NE.out)
            have SS := Lib.hid (SS.out.write HX0.out k6 L6.out)
            refine hK.out _ _ SS.out.gb.a (fun hz => ?_)
            clear hK K hz a1 a2 k6
            refine wpAnyH_done (by kernel_rfl) ?_ _
            go_simp
            go_wp2_with fail
            go_meet
            exact ⟨g5, g6, rfl, rfl, SS.out, A5.out, B6.out⟩
      · rw [if_pos (by kernel_rfl)]
        have bb := (Below.refl W5.heap.size W5).alloc (Nat.le_refl _) (.cells (u8s zH).toArray 36)
        have SS2 := Lib.hid (SS.out.below bb); have A5 := Lib.hid (Blk.new W5 36 (u8s zH)); have L5 := Lib.hid SS.out.res.lt
        go_simp
        refine hK.out _ _ SS2.out.gb.a (fun hz => ?_)
        clear hK K hz bb SS
        obtain ⟨W6, hW6⟩ : ∃ V, W5.alloc (.cells (u8s zH).toArray 36) = V := ⟨_, rfl⟩
        change wpAnyH _ _ _ _ _ _ _ _ (W5.alloc (.cells (u8s zH).toArray 36))
        rw [hW6] at SS2 A5 ⊢
        obtain ⟨g5, hg5⟩ : ∃ V, W5.heap.size = V := ⟨_, rfl⟩
        rw [hg5] at A5 L5 ⊢
        clear hW6 hg5
        have SS := Lib.hid SS2.out
        clear SS2
        refine wpAnyH_ready (rs := [3, 6]) (by kernel_rfl) (by simp) ?_
        refine AllReadyH.cons rfl (fun K hK => ?_) (AllReadyH.cons rfl (fun K hK => ?_) AllReadyH.nil)
        · rw [if_pos (by kernel_rfl)]
          go_simp
          refine (FF.out _ SS.out).mono ?_
          rintro e W7 ⟨y, rfl, hy, yy, bb⟩
          have HYY := Lib.hid hy; have WY := Lib.hid yy.w
          have SS := Lib.hid (SS.out.below bb)
          have A5 := Lib.hid (A5.out.below bb A5.out.lt)
          refine hK.out _ _ SS.out.gb.a (fun hz => ?_)
          clear hK K hz bb hy yy
          refine wpAnyH_ready (rs := [4, 6]) (by kernel_rfl) (by simp) ?_
          refine AllReadyH.cons rfl (fun K hK => ?_) (AllReadyH.cons rfl (fun K hK => ?_) AllReadyH.nil)
          · rw [if_pos (by kernel_rfl)]
            go_simp
            refine (DF.out _ y HYY.out WY.out).mono ?_
            rintro e W8 ⟨rfl, bb⟩
            have SS := Lib.hid (SS.out.below bb)
            have A5 := Lib.hid (A5.out.below bb A5.out.lt)
            refine hK.out _ _ SS.out.gb.a (fun hz => ?_)
            clear hK K hz bb
            refine wpAnyH_ready (rs := [6]) (by kernel_rfl) (by simp) ?_
            refine AllReadyH.cons rfl (fun K hK => ?_) AllReadyH.nil
            rw [if_pos (by kernel_rfl)]
            have bb := (Below.refl W8.heap.size W8).alloc (Nat.le_refl _) (.cells (u8s zH).toArray 36)
            have SS2 := Lib.hid (SS.out.below bb); have B6 := Lib.hid (Blk.new W8 36 (u8s zH)); have L6 := Lib.hid SS.out.res.lt
            have NE := Lib.hid (show g5 ≠ W8.heap.size from by have h := A5.out.lt; omega)
            have A5 := Lib.hid (A5.out.below bb A5.out.lt)
            go_simp
            refine hK.out _ _ SS2.out.gb.a (fun hz => ?_)
            clear hK K hz bb SS
            obtain ⟨W9, hW9⟩ : ∃ V, W8.alloc (.cells (u8s zH).toArray 36) = V := ⟨_, rfl⟩
            change wpAnyH _ _ _ _ _ _ _ _ (W8.alloc (.cells (u8s zH).toArray 36))
            rw [hW9] at SS2 B6 A5 ⊢
            obtain ⟨g6, hg6⟩ : ∃ V, W8.heap.size = V := ⟨_, rfl⟩
            rw [hg6] at B6 L6 NE ⊢
            clear hW9 hg6
            have SS := Lib.hid SS2.out
            clear SS2
            refine wpAnyH_ready (rs := [7]) (by kernel_rfl) (by simp) ?_
            refine AllReadyH.cons rfl (fun K hK => ?_) AllReadyH.nil
            rw [if_pos (by kernel_rfl)]
            refine wstore_part 36 (.tmp 3) (.tmp 10) g5 0 36 [] (u8s zH) [] (u8s T) rfl (by simpa using A5.out) rfl HTZ.out (hash_size _ HTL.out) (u8s_oneD _) rfl rfl ?_
            intro w6 a1 a2 _
            have k5 := a2.out.keptOne rfl
            have A5 := Lib.hid (show Blk w6 g5 36 (u8s T) from by simpa using a1.out)
            have B6 := Lib.hid (B6.out.kept k5 (fun e => NE.out e.symm))
            have SS := Lib.hid (SS.out.write HX0.out k5 L5.out)
            refine hK.out _ _ SS.out.gb.a (fun hz => ?_)
            clear hK K hz a1 a2 k5
            refine wpAnyH_ready (rs := [8]) (by kernel_rfl) (by simp) ?_
            refine AllReadyH.cons rfl (fun K hK => ?_) AllReadyH.nil
            rw [if_pos (by kernel_rfl)]
            refine wstore_part 36 (.tmp 4) (.tmp 13) g6 0 36 [] (u8s zH) [] (u8s U) rfl (by simpa using B6.out) rfl HUZ.out (hash_size _ HUL.out) (u8s_oneD _) rfl rfl ?_
            intro w7 a1 a2 _
            have k6 := a2.out.keptOne rfl
            have B6 := Lib.hid (show Blk w7 g6 36 (u8s U) from by simpa using a1.out)
            have A5 := Lib.hid (A5.out.kept k6 NE.out)
            have SS := Lib.hid (SS.out.write HX0.out k6 L6.out)
            refine hK.out _ _ SS.out.gb.a (fun hz => ?_)
            clear hK K hz a1 a2 k6
            refine wpAnyH_done (by kernel_rfl) ?_ _
            go_simp
            go_wp2_with fail
            go_meet
            exact ⟨g5, g6, rfl, rfl, SS.out, A5.out, B6.out⟩
          · rw [if_pos (by kernel_rfl)]
            have bb := (Below.refl W7.heap.size W7).alloc (Nat.le_refl _) (.cells (u8s zH).toArray 36)
            have SS2 := Lib.hid (SS.out.below bb); have B6 := Lib.hid (Blk.new W7 36 (u8s zH)); have L6 := Lib.hid SS.out.res.lt
            have NE := Lib.hid (show g5 ≠ W7.heap.size from by have h := A5.out.lt; omega)
            have A5 := Lib.hid (A5.out.below bb A5.out.lt)
            have WY := Lib.hid (WY.out.below bb)
            go_simp
            refine hK.out _ _ SS2.out.gb.a (fun hz => ?_)
            clear hK K hz bb SS
            obtain ⟨W8, hW8⟩ : ∃ V, W7.alloc (.cells (u8s zH).toArray 36) = V := ⟨_, rfl⟩
            change wpAnyH _ _ _ _ _ _ _ _ (W7.alloc (.cells (u8s zH).toArray 36))
            rw [hW8] at SS2 B6 A5 WY ⊢
            obtain ⟨g6, hg6⟩ : ∃ V, W7.heap.size = V := ⟨_, rfl⟩
            rw [hg6] at B6 L6 NE ⊢
            clear hW8 hg6
            have SS := Lib.hid SS2.out
            clear SS2
            refine wpAnyH_ready (rs := [4]) (by kernel_rfl) (by simp) ?_
            refine AllReadyH.cons rfl (fun K hK => ?_) AllReadyH.nil
            rw [if_pos (by kernel_rfl)]
            go_simp
            refine (DF.out _ y HYY.out WY.out).mono ?_
            rintro e W9 ⟨rfl, bb⟩
            have SS := Lib.hid (SS.out.below bb)
            have A5 := Lib.hid (A5.out.below bb A5.out.lt)
            have B6 := Lib.hid (B6.out.below bb B6.out.lt)
            refine hK.out _ _ SS.out.gb.a (fun hz => ?_)
            clear hK K hz bb
            refine wpAnyH_ready (rs := [7]) (by kernel_rfl) (by simp) ?_
            refine AllReadyH.cons rfl (fun K hK => ?_) AllReadyH.nil
            rw [if_pos (by kernel_rfl)]
            refine wstore_part 36 (.tmp 3) (.tmp 10) g5 0 36 [] (u8s zH) [] (u8s T) rfl (by simpa using A5.out) rfl HTZ.out (hash_size _ HTL.out) (u8s_oneD _) rfl rfl ?_
            intro w6 a1 a2 _
            have k5 := a2.out.keptOne rfl
            have A5 := Lib.hid (show Blk w6 g5 36 (u8s T) from by simpa using a1.out)
            have B6 := Lib.hid (B6.out.kept k5 (fun e => NE.out e.symm))
            have SS := Lib.hid (SS.out.write HX0.out k5 L5.out)
            refine hK.out _ _ SS.out.gb.a (fun hz => ?_)
            clear hK K hz a1 a2 k5
            refine wpAnyH_ready (rs := [8]) (by kernel_rfl) (by simp) ?_
            refine AllReadyH.cons rfl (fun K hK => ?_) AllReadyH.nil
            rw [if_pos (by kernel_rfl)]
            refine wstore_part 36 (.tmp 4) (.tmp 13) g6 0 36 [] (u8s zH) [] (u8s U) rfl (by simpa using B6.out) rfl HUZ.out (hash_size _ HUL.out) (u8s_oneD _) rfl rfl ?_
            intro w7 a1 a2 _
            have k6 := a2.out.keptOne rfl
            have B6 := Lib.hid (show Blk w7 g6 36 (u8s U) from by simpa using a1.out)
            have A5 := Lib.hid (A5.out.kept k6 NE.out)
            have SS := Lib.hid (SS.out.write HX0.out k6 L6.out)
            refine hK.out _ _ SS.out.gb.a (fun hz => ?_)
            clear hK K hz a1 a2 k6
            refine wpAnyH_done (by kernel_rfl) ?_ _
            go_simp
            go_wp2_with fail
            go_meet
            exact ⟨g5, g6, rfl, rfl, SS.out, A5.out, B6.out⟩
        · rw [if_pos (by kernel_rfl)]
          have bb := (Below.refl W6.heap.size W6).alloc (Nat.le_refl _) (.cells (u8s zH).toArray 36)
          have SS2 := Lib.hid (SS.out.below bb); have B6 := Lib.hid (Blk.new W6 36 (u8s zH)); have L6 := Lib.hid SS.out.res.lt
          have NE := Lib.hid (show g5 ≠ W6.heap.size from by have h := A5.out.lt; omega)
          have A5 := Lib.hid (A5.out.below bb A5.out.lt)
          go_simp
          refine hK.out _ _ SS2.out.gb.a (fun hz => ?_)
          clear hK K hz bb SS
          obtain ⟨W7, hW7⟩ : ∃ V, W6.alloc (.cells (u8s zH).toArray 36) = V := ⟨_, rfl⟩
          change wpAnyH _ _ _ _ _ _ _ _ (W6.alloc (.cells (u8s zH).toArray 36))
          rw [hW7] at SS2 B6 A5 ⊢
          obtain ⟨g6, hg6⟩ : ∃ V, W6.heap.size = V := ⟨_, rfl⟩
          rw [hg6] at B6 L6 NE ⊢
          clear hW7 hg6
          have SS := Lib.hid SS2.out
          clear SS2
          refine wpAnyH_ready (rs := [3]) (by kernel_rfl) (by simp) ?_
          refine AllReadyH.cons rfl (fun K hK => ?_) AllReadyH.nil
          rw [if_pos (by kernel_rfl)]
          go_simp
          refine (FF.out _ SS.out).mono ?_
          rintro e W8 ⟨y, rfl, hy, yy, bb⟩
          have HYY := Lib.hid hy; have WY := Lib.hid yy.w
          have SS := Lib.hid (SS.out.below bb)
          have A5 := Lib.hid (A5.out.below bb A5.out.lt)
          have B6 := Lib.hid (B6.out.below bb B6.out.lt)
          refine hK.out _ _ SS.out.gb.a (fun hz => ?_)
          clear hK K hz bb hy yy
          refine wpAnyH_ready (rs := [4]) (by kernel_rfl) (by simp) ?_
          refine AllReadyH.cons rfl (fun K hK => ?_) AllReadyH.nil
          rw [if_pos (by kernel_rfl)]
          go_simp
          refine (DF.out _ y HYY.out WY.out).mono ?_
          rintro e W9 ⟨rfl, bb⟩
          have SS := Lib.hid (SS.out.below bb)
          have A5 := Lib.hid (A5.out.below bb A5.out.lt)
          have B6 := Lib.hid (B6.out.below bb B6.out.lt)
          refine hK.out _ _ SS.out.gb.a (fun hz => ?_)
          clear hK K hz bb
          refine wpAnyH_ready (rs := [7]) (by kernel_rfl) (by simp) ?_
          refine AllReadyH.cons rfl (fun K hK => ?_) AllReadyH.nil
          rw [if_pos (by kernel_rfl)]
          refine wstore_part 36 (.tmp 3) (.tmp 10) g5 0 36 [] (u8s zH) [] (u8s T) rfl (by simpa using A5.out) rfl HTZ.out (hash_size _ HTL.out) (u8s_oneD _) rfl rfl ?_
          intro w6 a1 a2 _
          have k5 := a2.out.keptOne rfl
          have A5 := Lib.hid (show Blk w6 g5 36 (u8s T) from by simpa using a1.out)
          have B6 := Lib.hid (B6.out.kept k5 (fun e => NE.out e.symm))
          have SS := Lib.hid (SS.out.write HX0.out k5 L5.out)
          refine hK.out _ _ SS.out.gb.a (fun hz => ?_)
          clear hK K hz a1 a2 k5
          refine wpAnyH_ready (rs := [8]) (by kernel_rfl) (by simp) ?_
          refine AllReadyH.cons rfl (fun K hK => ?_) AllReadyH.nil
          rw [if_pos (by kernel_rfl)]
          refine wstore_part 36 (.tmp 4) (.tmp 13) g6 0 36 [] (u8s zH) [] (u8s U) rfl (by simpa using B6.out) rfl HUZ.out (hash_size _ HUL.out) (u8s_oneD _) rfl rfl ?_
          intro w7 a1 a2 _
          have k6 := a2.out.keptOne rfl
          have B6 := Lib.hid (show Blk w7 g6 36 (u8s U) from by simpa using a1.out)
          have A5 := Lib.hid (A5.out.kept k6 NE.out)
          have SS := Lib.hid (SS.out.write HX0.out k6 L6.out)
          refine hK.out _ _ SS.out.gb.a (fun hz => ?_)
          clear hK K hz a1 a2 k6
          refine wpAnyH_done (by kernel_rfl) ?_ _
          go_simp
          go_wp2_with fail
          go_meet
          exact ⟨g5, g6, rfl, rfl, SS.out, A5.out, B6.out⟩
      · rw [if_pos (by kernel_rfl)]
        have bb := (Below.refl W5.heap.size W5).alloc (Nat.le_refl _) (.cells (u8s zH).toArray 36)
        have SS2 := Lib.hid (SS.out.below bb); have B6 := Lib.hid (Blk.new W5 36 (u8s zH)); have L6 := Lib.hid SS.out.res.lt
        go_simp
        refine hK.out _ _ SS2.out.gb.a (fun hz => ?_)
        clear hK K hz bb SS
        obtain ⟨W6, hW6⟩ : ∃ V, W5.alloc (.cells (u8s zH).toArray 36) = V := ⟨_, rfl⟩
        change wpAnyH _ _ _ _ _ _ _ _ (W5.alloc (.cells (u8s zH).toArray 36))
        rw [hW6] at SS2 B6 ⊢
        obtain ⟨g6, hg6⟩ : ∃ V, W5.heap.size = V := ⟨_, rfl⟩
        rw [hg6] at B6 L6 ⊢
        clear hW6 hg6
        have SS := Lib.hid SS2.out
        clear SS2
        refine wpAnyH_ready (rs := [3, 5]) (by kernel_rfl) (by simp) ?_
        refine AllReadyH.cons rfl (fun K hK => ?_) (AllReadyH.cons rfl (fun K hK => ?_) AllReadyH.nil)
        · rw [if_pos (by kernel_rfl)]
          go_simp
          refine (FF.out _ SS.out).mono ?_
          rintro e W7 ⟨y, rfl, hy, yy, bb⟩
          have HYY := Lib.hid hy; have WY := Lib.hid yy.w
          have SS := Lib.hid (SS.out.below bb)
          have B6 := Lib.hid (B6.out.below bb B6.out.lt)
          refine hK.out _ _ SS.out.gb.a (fun hz => ?_)
          clear hK K hz bb hy yy
          refine wpAnyH_ready (rs := [4, 5]) (by kernel_rfl) (by simp) ?_
          refine AllReadyH.cons rfl (fun K hK => ?_) (AllReadyH.cons rfl (fun K hK => ?_) AllReadyH.nil)
          · rw [if_pos (by kernel_rfl)]
            go_simp
            refine (DF.out _ y HYY.out WY.out).mono ?_
            rintro e W8 ⟨rfl, bb⟩
            have SS := Lib.hid (SS.out.below bb)
            have B6 := Lib.hid (B6.out.below bb B6.out.lt)
            refine hK.out _ _ SS.out.gb.a (fun hz => ?_)
            clear hK K hz bb
            refine wpAnyH_ready (rs := [5]) (by kernel_rfl) (by simp) ?_
            refine AllReadyH.cons rfl (fun K hK => ?_) AllReadyH.nil
            rw [if_pos (by kernel_rfl)]
            have bb := (Below.refl W8.heap.size W8).alloc (Nat.le_refl _) (.cells (u8s zH).toArray 36)
            have SS2 := Lib.hid (SS.out.below bb); have A5 := Lib.hid (Blk.new W8 36 (u8s zH)); have L5 := Lib.hid SS.out.res.lt
            have NE := Lib.hid (show W8.heap.size ≠ g6 from by have h := B6.out.lt; omega)
            have B6 := Lib.hid (B6.out.below bb B6.out.lt)
            go_simp
            refine hK.out _ _ SS2.out.gb.a (fun hz => ?_)
            clear hK K hz bb SS
            obtain ⟨W9, hW9⟩ : ∃ V, W8.alloc (.cells (u8s zH).toArray 36) = V := ⟨_, rfl⟩
            change wpAnyH _ _ _ _ _ _ _ _ (W8.alloc (.cells (u8s zH).toArray 36))
            rw [hW9] at SS2 A5 B6 ⊢
            obtain ⟨g5, hg5⟩ : ∃ V, W8.heap.size = V := ⟨_, rfl⟩
            rw [hg5] at A5 L5 NE ⊢
            clear hW9 hg5
            have SS := Lib.hid SS2.out
            clear SS2
            refine wpAnyH_ready (rs := [7]) (by kernel_rfl) (by simp) ?_
            refine AllReadyH.cons rfl (fun K hK => ?_) AllReadyH.nil
            rw [if_pos (by kernel_rfl)]
            refine wstore_part 36 (.tmp 3) (.tmp 10) g5 0 36 [] (u8s zH) [] (u8s T) rfl (by simpa using A5.out) rfl HTZ.out (hash_size _ HTL.out) (u8s_oneD _) rfl rfl ?_
            intro w6 a1 a2 _
            have k5 := a2.out.keptOne rfl
            have A5 := Lib.hid (show Blk w6 g5 36 (u8s T) from by simpa using a1.out)
            have B6 := Lib.hid (B6.out.kept k5 (fun e => NE.out e.symm))
            have SS := Lib.hid (SS.out.write HX0.out k5 L5.out)
            refine hK.out _ _ SS.out.gb.a (fun hz => ?_)
            clear hK K hz a1 a2 k5
            refine wpAnyH_ready (rs := [8]) (by kernel_rfl) (by simp) ?_
            refine AllReadyH.cons rfl (fun K hK => ?_) AllReadyH.nil
            rw [if_pos (by kernel_rfl)]
            refine wstore_part 36 (.tmp 4) (.tmp 13) g6 0 36 [] (u8s zH) [] (u8s U) rfl (by simpa using B6.out) rfl HUZ.out (hash_size _ HUL.out) (u8s_oneD _) rfl rfl ?_
            intro w7 a1 a2 _
            have k6 := a2.out.keptOne rfl
            have B6 := Lib.hid (show Blk w7 g6 36 (u8s U) from by simpa using a1.out)
            have A5 := Lib.hid (A5.out.kept k6 NE.out)
            have SS := Lib.hid (SS.out.write HX0.out k6 L6.out)
            refine hK.out _ _ SS.out.gb.a (fun hz => ?_)
            clear hK K hz a1 a2 k6
            refine wpAnyH_done (by kernel_rfl) ?_ _
            go_simp
            go_wp2_with fail
            go_meet
            exact ⟨g5, g6, rfl, rfl, SS.out, A5.out, B6.out⟩
          · rw [if_pos (by kernel_rfl)]
            have bb := (Below.refl W7.heap.size W7).alloc (Nat.le_refl _) (.cells (u8s zH).toArray 36)
            have SS2 := Lib.hid (SS.out.below bb); have A5 := Lib.hid (Blk.new W7 36 (u8s zH)); have L5 := Lib.hid SS.out.res.lt
            have NE := Lib.hid (show W7.heap.size ≠ g6 from by have h := B6.out.lt; omega)
            have B6 := Lib.hid (B6.out.below bb B6.out.lt)
            have WY := Lib.hid (WY.out.below bb)
            go_simp
            refine hK.out _ _ SS2.out.gb.a (fun hz => ?_)
            clear hK K hz bb SS
            obtain ⟨W8, hW8⟩ : ∃ V, W7.alloc (.cells (u8s zH).toArray 36) = V := ⟨_, rfl⟩
            change wpAnyH _ _ _ _ _ _ _ _ (W7.alloc (.cells (u8s zH).toArray 36))
            rw [hW8] at SS2 A5 B6 WY ⊢
            obtain ⟨g5, hg5⟩ : ∃ V, W7.heap.size = V := ⟨_, rfl⟩
            rw [hg5] at A5 L5 NE ⊢
            clear hW8 hg5
            have SS := Lib.hid SS2.out
            clear SS2
            refine wpAnyH_ready (rs := [4]) (by kernel_rfl) (by simp) ?_
            refine AllReadyH.cons rfl (fun K hK => ?_) AllReadyH.nil
            rw [if_pos (by kernel_rfl)]
            go_simp
            refine (DF.out _ y HYY.out WY.out).mono ?_
            rintro e W9 ⟨rfl, bb⟩
            have SS := Lib.hid (SS.out.below bb)
            have A5 := Lib.hid (A5.out.below bb A5.out.lt)
            have B6 := Lib.hid (B6.out.below bb B6.out.lt)
            refine hK.out _ _ SS.out.gb.a (fun hz => ?_)
            clear hK K hz bb
            refine wpAnyH_ready (rs := [7]) (by kernel_rfl) (by simp) ?_
            refine AllReadyH.cons rfl (fun K hK => ?_) AllReadyH.nil
            rw [if_pos (by kernel_rfl)]
            refine wstore_part 36 (.tmp 3) (.tmp 10) g5 0 36 [] (u8s zH) [] (u8s T) rfl (by simpa using A5.out) rfl HTZ.out (hash_size _ HTL.out) (u8s_oneD _) rfl rfl ?_
            intro w6 a1 a2 _
            have k5 := a2.out.keptOne rfl
            have A5 := Lib.hid (show Blk w6 g5 36 (u8s T) from by simpa using a1.out)
            have B6 := Lib.hid (B6.out.kept k5 (fun e => NE.out e.symm))
            have SS := Lib.hid (SS.out.write HX0.out k5 L5.out)
            refine hK.out _ _ SS.out.gb.a (fun hz => ?_)
            clear hK K hz a1 a2 k5
            refine wpAnyH_ready (rs := [8]) (by kernel_rfl) (by simp) ?_
            refine AllReadyH.cons rfl (fun K hK => ?_) AllReadyH.nil
            rw [if_pos (by kernel_rfl)]
            refine wstore_part 36 (.tmp 4) (.tmp 13) g6 0 36 [] (u8s zH) [] (u8s U) rfl (by simpa using B6.out) rfl HUZ.out (hash_size _ HUL.out) (u8s_oneD _) rfl rfl ?_
            intro w7 a1 a2 _
            have k6 := a2.out.keptOne rfl
            have B6 := Lib.hid (show Blk w7 g6 36 (u8s U) from by simpa using a1.out)
            have A5 := Lib.hid (A5.out.kept k6 NE.out)
            have SS := Lib.hid (SS.out.write HX0.out k6 L6.out)
            refine hK.out _ _ SS.out.gb.a (fun hz => ?_)
            clear hK K hz a1 a2 k6
            refine wpAnyH_done (by kernel_rfl) ?_ _
            go_simp
            go_wp2_with fail
            go_meet
            exact ⟨g5, g6, rfl, rfl, SS.out, A5.out, B6.out⟩
        · rw [if_pos (by kernel_rfl)]
          have bb := (Below.refl W6.heap.size W6).alloc (Nat.le_refl _) (.cells (u8s zH).toArray 36)
          have SS2 := Lib.hid (SS.out.below bb); have A5 := Lib.hid (Blk.new W6 36 (u8s zH)); have L5 := Lib.hid SS.out.res.lt
          have NE := Lib.hid (show W6.heap.size ≠ g6 from by have h := B6.out.lt; omega)
          have B6 := Lib.hid (B6.out.below bb B6.out.lt)
          go_simp
          refine hK.out _ _ SS2.out.gb.a (fun hz => ?_)
          clear hK K hz bb SS
          obtain ⟨W7, hW7⟩ : ∃ V, W6.alloc (.cells (u8s zH).toArray 36) = V := ⟨_, rfl⟩
          change wpAnyH _ _ _ _ _ _ _ _ (W6.alloc (.cells (u8s zH).toArray 36))
          rw [hW7] at SS2 A5 B6 ⊢
          obtain ⟨g5, hg5⟩ : ∃ V, W6.heap.size = V := ⟨_, rfl⟩
          rw [hg5] at A5 L5 NE ⊢
          clear hW7 hg5
          have SS := Lib.hid SS2.out
          clear SS2
          refine wpAnyH_ready (rs := [3]) (by kernel_rfl) (by simp) ?_
          refine AllReadyH.cons rfl (fun K hK => ?_) AllReadyH.nil
          rw [if_pos (by kernel_rfl)]
          go_simp
          refine (FF.out _ SS.out).mono ?_
          rintro e W8 ⟨y, rfl, hy, yy, bb⟩
          have HYY := Lib.hid hy; have WY := Lib.hid yy.w
          have SS := Lib.hid (SS.out.below bb)
          have A5 := Lib.hid (A5.out.below bb A5.out.lt)
          have B6 := Lib.hid (B6.out.below bb B6.out.lt)
          refine hK.out _ _ SS.out.gb.a (fun hz => ?_)
          clear hK K hz bb hy yy
          refine wpAnyH_ready (rs := [4]) (by kernel_rfl) (by simp) ?_
          refine AllReadyH.cons rfl (fun K hK => ?_) AllReadyH.nil
          rw [if_pos (by kernel_rfl)]
          go_simp
          refine (DF.out _ y HYY.out WY.out).mono ?_
          rintro e W9 ⟨rfl, bb⟩
          have SS := Lib.hid (SS.out.below bb)
          have A5 := Lib.hid (A5.out.below bb A5.out.lt)
          have B6 := Lib.hid (B6.out.below bb B6.out.lt)
          refine hK.out _ _ SS.out.gb.a (fun hz => ?_)
          clear hK K hz bb
          refine wpAnyH_ready (rs := [7]) (by kernel_rfl) (by simp) ?_
          refine AllReadyH.cons rfl (fun K hK => ?_) AllReadyH.nil
          rw [if_pos (by kernel_rfl)]
          refine wstore_part 36 (.tmp 3) (.tmp 10) g5 0 36 [] (u8s zH) [] (u8s T) rfl (by simpa using A5.out) rfl HTZ.out (hash_size _ HTL.out) (u8s_oneD _) rfl rfl ?_
          intro w6 a1 a2 _
          have k5 := a2.out.keptOne rfl
          have A5 := Lib.hid (show Blk w6 g5 36 (u8s T) from by simpa using a1.out)
          have B6 := Lib.hid (B6.out.kept k5 (fun e => NE.out e.symm))
          have SS := Lib.hid (SS.out.write HX0.out k5 L5.out)
          refine hK.out _ _ SS.out.gb.a (fun hz => ?_)
          clear hK K hz a1 a2 k5
          refine wpAnyH_ready (rs := [8]) (by kernel_rfl) (by simp) ?_
          refine AllReadyH.cons rfl (fun K hK => ?_) AllReadyH.nil
          rw [if_pos (by kernel_rfl)]
          refine wstore_part 36 (.tmp 4) (.tmp 13) g6 0 36 [] (u8s zH) [] (u8s U) rfl (by simpa using B6.out) rfl HUZ.out (hash_size _ HUL.out) (u8s_oneD _) rfl rfl ?_
          intro w7 a1 a2 _
          have k6 := a2.out.keptOne rfl
          have B6 := Lib.hid (show Blk w7 g6 36 (u8s U) from by simpa using a1.out)
          have A5 := Lib.hid (A5.out.kept k6 NE.out)
          have SS := Lib.hid (SS.out.write HX0.out k6 L6.out)
          refine hK.out _ _ SS.out.gb.a (fun hz => ?_)
          clear hK K hz a1 a2 k6
          refine wpAnyH_done (by kernel_rfl) ?_ _
          go_simp
          go_wp2_with fail
          go_meet
          exact ⟨g5, g6, rfl, rfl, SS.out, A5.out, B6.out⟩
    · rw [if_pos (by kernel_rfl)]
      have bb := (Below.refl W4.heap.size W4).alloc (Nat.le_refl _) (.cells (u8s zH).toArray 36)
      have SS2 := Lib.hid (SS.out.below bb); have A5 := Lib.hid (Blk.new W4 36 (u8s zH)); have L5 := Lib.hid SS.out.res.lt
      go_simp
      refine hK.out _ _ SS2.out.gb.a (fun hz => ?_)
      clear hK K hz bb SS
      obtain ⟨W5, hW5⟩ : ∃ V, W4.alloc (.cells (u8s zH).toArray 36) = V := ⟨_, rfl⟩
      change wpAnyH _ _ _ _ _ _ _ _ (W4.alloc (.cells (u8s zH).toArray 36))
      rw [hW5] at SS2 A5 ⊢
      obtain ⟨g5, hg5⟩ : ∃ V, W4.heap.size = V := ⟨_, rfl⟩
      rw [hg5] at A5 L5 ⊢
      clear hW5 hg5
      have SS := Lib.hid SS2.out
      clear SS2
      refine wpAnyH_ready (rs := [1, 6]) (by kernel_rfl) (by simp) ?_
      refine AllReadyH.cons rfl (fun K hK => ?_) (AllReadyH.cons rfl (fun K hK => ?_) AllReadyH.nil)
      · rw [if_pos (by kernel_rfl)]
        go_simp
        refine (AF.out _ SS.out).mono ?_
        rintro e W6 ⟨rfl, bb⟩
        have SS := Lib.hid (SS.out.below bb)
        have A5 := Lib.hid (A5.out.below bb A5.out.lt)
        refine hK.out _ _ SS.out.gb.a (fun hz => ?_)
        clear hK K hz bb
        refine wpAnyH_ready (rs := [3, 6]) (by kernel_rfl) (by simp) ?_
        refine AllReadyH.cons rfl (fun K hK => ?_) (AllReadyH.cons rfl (fun K hK => ?_) AllReadyH.nil)
        · rw [if_pos (by kernel_rfl)]
          go_simp
          refine (FF.out _ SS.out).mono ?_
          rintro e W7 ⟨y, rfl, hy, yy, bb⟩
          have HYY := Lib.hid hy; have WY := Lib.hid yy.w
          have SS := Lib.hid (SS.out.below bb)
          have A5 := Lib.hid (A5.out.below bb A5.out.lt)
          refine hK.out _ _ SS.out.gb.a (fun hz => ?_)
          clear hK K hz bb hy yy
          refine wpAnyH_ready (rs := [4, 6]) (by kernel_rfl) (by simp) ?_
          refine AllReadyH.cons rfl (fun K hK => ?_) (AllReadyH.cons rfl (fun K hK => ?_) AllReadyH.nil)
          · rw [if_pos (by kernel_rfl)]
            go_simp
            refine (DF.out _ y HYY.out WY.out).mono ?_
            rintro e W8 ⟨rfl, bb⟩
            have SS := Lib.hid (SS.out.below bb)
            have A5 := Lib.hid (A5.out.below bb A5.out.lt)
            refine hK.out _ _ SS.out.gb.a (fun hz => ?_)
            clear hK K hz bb
            refine wpAnyH_ready (rs := [6]) (by kernel_rfl) (by simp) ?_
            refine AllReadyH.cons rfl (fun K hK => ?_) AllReadyH.nil
            rw [if_pos (by kernel_rfl)]
            have bb := (Below.refl W8.heap.size W8).alloc (Nat.le_refl _) (.cells (u8s zH).toArray 36)
            have SS2 := Lib.hid (SS.out.below bb); have B6 := Lib.hid (Blk.new W8 36 (u8s zH)); have L6 := Lib.hid SS.out.res.lt
            have NE := Lib.hid (show g5 ≠ W8.heap.size from by have h := A5.out.lt; omega)
            have A5 := Lib.hid (A5.out.below bb A5.out.lt)
            go_simp
            refine hK.out _ _ SS2.out.gb.a (fun hz => ?_)
            clear hK K hz bb SS
            obtain ⟨W9, hW9⟩ : ∃ V, W8.alloc (.cells (u8s zH).toArray 36) = V := ⟨_, rfl⟩
            change wpAnyH _ _ _ _ _ _ _ _ (W8.alloc (.cells (u8s zH).toArray 36))
            rw [hW9] at SS2 B6 A5 ⊢
            obtain ⟨g6, hg6⟩ : ∃ V, W8.heap.size = V := ⟨_, rfl⟩
            rw [hg6] at B6 L6 NE ⊢
            clear hW9 hg6
            have SS := Lib.hid SS2.out
            clear SS2
            refine wpAnyH_ready (rs := [7]) (by kernel_rfl) (by simp) ?_
            refine AllReadyH.cons rfl (fun K hK => ?_) AllReadyH.nil
            rw [if_pos (by kernel_rfl)]
            refine wstore_part 36 (.tmp 3) (.tmp 10) g5 0 36 [] (u8s zH) [] (u8s T) rfl (by simpa using A5.out) rfl HTZ.out (hash_size _ HTL.out) (u8s_oneD _) rfl rfl ?_
            intro w6 a1 a2 _
            have k5 := a2.out.keptOne rfl
            have A5 := Lib.hid (show Blk w6 g5 36 (u8s T) from by simpa using a1.out)
            have B6 := Lib.hid (B6.out.kept k5 (fun e => NE.out e.symm))
            have SS := Lib.hid (SS.out.write HX0.out k5 L5.out)
            refine hK.out _ _ SS.out.gb.a (fun hz => ?_)
            clear hK K hz a1 a2 k5
            refine wpAnyH_ready (rs := [8]) (by kernel_rfl) (by simp) ?_
            refine AllReadyH.cons rfl (fun K hK => ?_) AllReadyH.nil
            rw [if_pos (by kernel_rfl)]
            refine wstore_part 36 (.tmp 4) (.tmp 13) g6 0 36 [] (u8s zH) [] (u8s U) rfl (by simpa using B6.out) rfl HUZ.out (hash_size _ HUL.out) (u8s_oneD _) rfl rfl ?_
            intro w7 a1 a2 _
            have k6 := a2.out.keptOne rfl
            have B6 := Lib.hid (show Blk w7 g6 36 (u8s U) from by simpa using a1.out)
            have A5 := Lib.hid (A5.out.kept k6 NE.out)
            have SS := Lib.hid (SS.out.write HX0.out k6 L6.out)
            refine hK.out _ _ SS.out.gb.a (fun hz => ?_)
            clear hK K hz a1 a2 k6
            refine wpAnyH_done (by kernel_rfl) ?_ _
            go_simp
            go_wp2_with fail
            go_meet
            exact ⟨g5, g6, rfl, rfl, SS.out, A5.out, B6.out⟩
          · rw [if_pos (by kernel_rfl)]
            have bb := (Below.refl W7.heap.size W7).alloc (Nat.le_refl _) (.cells (u8s zH).toArray 36)
            have SS2 := Lib.hid (SS.out.below bb); have B6 := Lib.hid (Blk.new W7 36 (u8s zH)); have L6 := Lib.hid SS.out.res.lt
            have NE := Lib.hid (show g5 ≠ W7.heap.size from by have h := A5.out.lt; omega)
            have A5 := Lib.hid (A5.out.below bb A5.out.lt)
            have WY := Lib.hid (WY.out.below bb)
            go_simp
            refine hK.out _ _ SS2.out.gb.a (fun hz => ?_)
            clear hK K hz bb SS
            obtain ⟨W8, hW8⟩ : ∃ V, W7.alloc (.cells (u8s zH).toArray 36) = V := ⟨_, rfl⟩
            change wpAnyH _ _ _ _ _ _ _ _ (W7.alloc (.cells (u8s zH).toArray 36))
            rw [hW8] at SS2 B6 A5 WY ⊢
            obtain ⟨g6, hg6⟩ : ∃ V, W7.heap.size = V := ⟨_, rfl⟩
            rw [hg6] at B6 L6 NE ⊢
            clear hW8 hg6
            have SS := Lib.hid SS2.out
            clear SS2
            refine wpAnyH_ready (rs := [4]) (by kernel_rfl) (by simp) ?_
            refine AllReadyH.cons rfl (fun K hK => ?_) AllReadyH.nil
            rw [if_pos (by kernel_rfl)]
            go_simp
            refine (DF.out _ y HYY.out WY.out).mono ?_
            rintro e W9 ⟨rfl, bb⟩
            have SS := Lib.hid (SS.out.below bb)
            have A5 := Lib.hid (A5.out.below bb A5.out.lt)
            have B6 := Lib.hid (B6.out.below bb B6.out.lt)
            refine hK.out _ _ SS.out.gb.a (fun hz => ?_)
            clear hK K hz bb
            refine wpAnyH_ready (rs := [7]) (by kernel_rfl) (by simp) ?_
            refine AllReadyH.cons rfl (fun K hK => ?_) AllReadyH.nil
            rw [if_pos (by kernel_rfl)]
            refine wstore_part 36 (.tmp 3) (.tmp 10) g5 0 36 [] (u8s zH) [] (u8s T) rfl (by simpa using A5.out) rfl HTZ.out (hash_size _ HTL.out) (u8s_oneD _) rfl rfl ?_
            intro w6 a1 a2 _
            have k5 := a2.out.keptOne rfl
            have A5 := Lib.hid (show Blk w6 g5 36 (u8s T) from by simpa using a1.out)
            have B6 := Lib.hid (B6.out.kept k5 (fun e => NE.out e.symm))
            have SS := Lib.hid (SS.out.write HX0.out k5 L5.out)
            refine hK.out _ _ SS.out.gb.a (fun hz => ?_)
            clear hK K hz a1 a2 k5
            refine wpAnyH_ready (rs := [8]) (by kernel_rfl) (by simp) ?_
            refine AllReadyH.cons rfl (fun K hK => ?_) AllReadyH.nil
            rw [if_pos (by kernel_rfl)]
            refine wstore_part 36 (.tmp 4) (.tmp 13) g6 0 36 [] (u8s zH) [] (u8s U) rfl (by simpa using B6.out) rfl HUZ.out (hash_size _ HUL.out) (u8s_oneD _) rfl rfl ?_
            intro w7 a1 a2 _
            have k6 := a2.out.keptOne rfl
            have B6 := Lib.hid (show Blk w7 g6 36 (u8s U) from by simpa using a1.out)
            have A5 := Lib.hid (A5.out.kept k6 NE.out)
            have SS := Lib.hid (SS.out.write HX0.out k6 L6.out)
            refine hK.out _ _ SS.out.gb.a (fun hz => ?_)
            clear hK K hz a1 a2 k6
            refine wpAnyH_done (by kernel_rfl) ?_ _
            go_simp
            go_wp2_with fail
            go_meet
            exact ⟨g5, g6, rfl, rfl, SS.out, A5.out, B6.out⟩
        · rw [if_pos (by kernel_rfl)]
          have bb := (Below.refl W6.heap.size W6).alloc (Nat.le_refl _) (.cells (u8s zH).toArray 36)
          have SS2 := Lib.hid (SS.out.below bb); have B6 := Lib.hid (Blk.new W6 36 (u8s zH)); have L6 := Lib.hid SS.out.res.lt
          have NE := Lib.hid (show g5 ≠ W6.heap.size from by have h := A5.out.lt; omega)
          have A5 := Lib.hid (A5.out.below bb A5.out.lt)
          go_simp
          refine hK.out _ _ SS2.out.gb.a (fun hz => ?_)
          clear hK K hz bb SS
          obtain ⟨W7, hW7⟩ : ∃ V, W6.alloc (.cells (u8s zH).toArray 36) = V := ⟨_, rfl⟩
          change wpAnyH _ _ _ _ _ _ _ _ (W6.alloc (.cells (u8s zH).toArray 36))
          rw [hW7] at SS2 B6 A5 ⊢
          obtain ⟨g6, hg6⟩ : ∃ V, W6.heap.size = V := ⟨_, rfl⟩
          rw [hg6] at B6 L6 NE ⊢
          clear hW7 hg6
          have SS := Lib.hid SS2.out
          clear SS2
          refine wpAnyH_ready (rs := [3]) (by kernel_rfl) (by simp) ?_
          refine AllReadyH.cons rfl (fun K hK => ?_) AllReadyH.nil
          rw [if_pos (by kernel_rfl)]
          go_simp
          refine (FF.out _ SS.out).mono ?_
          rintro e W8 ⟨y, rfl, hy, yy, bb⟩
          have HYY := Lib.hid hy; have WY := Lib.hid yy.w
          have SS := Lib.hid (SS.out.below bb)
          have A5 := Lib.hid (A5.out.below bb A5.out.lt)
          have B6 := Lib.hid (B6.out.below bb B6.out.lt)
          refine hK.out _ _ SS.out.gb.a (fun hz => ?_)
          clear hK K hz bb hy yy
          refine wpAnyH_ready (rs := [4]) (by kernel_rfl) (by simp) ?_
          refine AllReadyH.cons rfl (fun K hK => ?_) AllReadyH.nil
          rw [if_pos (by kernel_rfl)]
          go_simp
          refine (DF.out _ y HYY.out WY.out).mono ?_
          rintro e W9 ⟨rfl, bb⟩
          have SS := Lib.hid (SS.out.below bb)
          have A5 := Lib.hid (A5.out.below bb A5.out.lt)
          have B6 := Lib.hid (B6.out.below bb B6.out.lt)
          refine hK.out _ _ SS.out.gb.a (fun hz => ?_)
          clear hK K hz bb
          refine wpAnyH_ready (rs := [7]) (by kernel_rfl) (by simp) ?_
          refine AllReadyH.cons rfl (fun K hK => ?_) AllReadyH.nil
          rw [if_pos (by kernel_rfl)]
          refine wstore_part 36 (.tmp 3) (.tmp 10) g5 0 36 [] (u8s zH) [] (u8s T) rfl (by simpa using A5.out) rfl HTZ.out (hash_size _ HTL.out) (u8s_oneD _) rfl rfl ?_
          intro w6 a1 a2 _
          have k5 := a2.out.keptOne rfl
          have A5 := Lib.hid (show Blk w6 g5 36 (u8s T) from by simpa using a1.out)
          have B6 := Lib.hid (B6.out.kept k5 (fun e => NE.out e.symm))
          have SS := Lib.hid (SS.out.write HX0.out k5 L5.out)
          refine hK.out _ _ SS.out.gb.a (fun hz => ?_)
          clear hK K hz a1 a2 k5
          refine wpAnyH_ready (rs := [8]) (by kernel_rfl) (by simp) ?_
          refine AllReadyH.cons rfl (fun K hK => ?_) AllReadyH.nil
          rw [if_pos (by kernel_rfl)]
          refine wstore_part 36 (.tmp 4) (.tmp 13) g6 0 36 [] (u8s zH) [] (u8s U) rfl (by simpa using B6.out) rfl HUZ.out (hash_size _ HUL.out) (u8s_oneD _) rfl rfl ?_
          intro w7 a1 a2 _
          have k6 := a2.out.keptOne rfl
          have B6 := Lib.hid (show Blk w7 g6 36 (u8s U) from by simpa using a1.out)
          have A5 := Lib.hid (A5.out.kept k6 NE.out)
          have SS := Lib.hid (SS.out.write HX0.out k6 L6.out)
          refine hK.out _ _ SS.out.gb.a (fun hz => ?_)
          clear hK K hz a1 a2 k6
          refine wpAnyH_done (by kernel_rfl) ?_ _
          go_simp
          go_wp2_with fail
          go_meet
          exact ⟨g5, g6, rfl, rfl, SS.out, A5.out, B6.out⟩
      · rw [if_pos (by kernel_rfl)]
        have bb := (Below.refl W5.heap.size W5).alloc (Nat.le_refl _) (.cells (u8s zH).toArray 36)
        have SS2 := Lib.hid (SS.out.below bb); have B6 := Lib.hid (Blk.new W5 36 (u8s zH)); have L6 := Lib.hid SS.out.res.lt
        have NE := Lib.hid (show g5 ≠ W5.heap.size from by have h := A5.out.lt; omega)
        have A5 := Lib.hid (A5.out.below bb A5.out.lt)
        go_simp
        refine hK.out _ _ SS2.out.gb.a (fun hz => ?_)
        clear hK K hz bb SS
        obtain ⟨W6, hW6⟩ : ∃ V, W5.alloc (.cells (u8s zH).toArray 36) = V := ⟨_, rfl⟩
        change wpAnyH _ _ _ _ _ _ _ _ (W5.alloc (.cells (u8s zH).toArray 36))
        rw [hW6] at SS2 B6 A5 ⊢
        obtain ⟨g6, hg6⟩ : ∃ V, W5.heap.size = V := ⟨_, rfl⟩
        rw [hg6] at B6 L6 NE ⊢
        clear hW6 hg6
        have SS := Lib.hid SS2.out
        clear SS2
        refine wpAnyH_ready (rs := [1]) (by kernel_rfl) (by simp) ?_
        refine AllReadyH.cons rfl (fun K hK => ?_) AllReadyH.nil
        rw [if_pos (by kernel_rfl)]
        go_simp
        refine (AF.out _ SS.out).mono ?_
        rintro e W7 ⟨rfl, bb⟩
        have SS := Lib.hid (SS.out.below bb)
        have A5 := Lib.hid (A5.out.below bb A5.out.lt)
        have B6 := Lib.hid (B6.out.below bb B6.out.lt)
        refine hK.out _ _ SS.out.gb.a (fun hz => ?_)
        clear hK K hz bb
        refine wpAnyH_ready (rs := [3]) (by kernel_rfl) (by simp) ?_
        refine AllReadyH.cons rfl (fun K hK => ?_) AllReadyH.nil
        rw [if_pos (by kernel_rfl)]
        go_simp
        refine (FF.out _ SS.out).mono ?_
        rintro e W8 ⟨y, rfl, hy, yy, bb⟩
        have HYY := Lib.hid hy; have WY := Lib.hid yy.w
        have SS := Lib.hid (SS.out.below bb)
        have A5 := Lib.hid (A5.out.below bb A5.out.lt)
        have B6 := Lib.hid (B6.out.below bb B6.out.lt)
        refine hK.out _ _ SS.out.gb.a (fun hz => ?_)
        clear hK K hz bb hy yy
        refine wpAnyH_ready (rs := [4]) (by kernel_rfl) (by simp) ?_
        refine AllReadyH.cons rfl (fun K hK => ?_) AllReadyH.nil
        rw [if_pos (by kernel_rfl)]
        go_simp
        refine (DF.out _ y HYY.out WY.out).mono ?_
        rintro e W9 ⟨rfl, bb⟩
        have SS := Lib.hid (SS.out.below bb)
        have A5 := Lib.hid (A5.out.below bb A5.out.lt)
        have B6 := Lib.hid (B6.out.below bb B6.out.lt)
        refine hK.out _ _ SS.out.gb.a (fun hz => ?_)
        clear hK K hz bb
        refine wpAnyH_ready (rs := [7]) (by kernel_rfl) (by simp) ?_
        refine AllReadyH.cons rfl (fun K hK => ?_) AllReadyH.nil
        rw [if_pos (by kernel_rfl)]
        refine wstore_part 36 (.tmp 3) (.tmp 10) g5 0 36 [] (u8s zH) [] (u8s T) rfl (by simpa using A5.out) rfl HTZ.out (hash_size _ HTL.out) (u8s_oneD _) rfl rfl ?_
        intro w6 a1 a2 _
        have k5 := a2.out.keptOne rfl
        have A5 := Lib.hid (show Blk w6 g5 36 (u8s T) from by simpa using a1.out)
        have B6 := Lib.hid (B6.out.kept k5 (fun e => NE.out e.symm))
        have SS := Lib.hid (SS.out.write HX0.out k5 L5.out)
        refine hK.out _ _ SS.out.gb.a (fun hz => ?_)
        clear hK K hz a1 a2 k5
        refine wpAnyH_ready (rs := [8]) (by kernel_rfl) (by simp) ?_
        refine AllReadyH.cons rfl (fun K hK => ?_) AllReadyH.nil
        rw [if_pos (by kernel_rfl)]
        refine wstore_part 36 (.tmp 4) (.tmp 13) g6 0 36 [] (u8s zH) [] (u8s U) rfl (by simpa using B6.out) rfl HUZ.out (hash_size _ HUL.out) (u8s_oneD _) rfl rfl ?_
        intro w7 a1 a2 _
        have k6 := a2.out.keptOne rfl
        have B6 := Lib.hid (show Blk w7 g6 36 (u8s U) from by simpa using a1.out)
        have A5 := Lib.hid (A5.out.kept k6 NE.out)
        have SS := Lib.hid (SS.out.write HX0.out k6 L6.out)
        refine hK.out _ _ SS.out.gb.a (fun hz => ?_)
        clear hK K hz a1 a2 k6
        refine wpAnyH_done (by kernel_rfl) ?_ _
        go_simp
        go_wp2_with fail
        go_meet
        exact ⟨g5, g6, rfl, rfl, SS.out, A5.out, B6.out⟩
    · rw [if_pos (by kernel_rfl)]
      have bb := (Below.refl W4.heap.size W4).alloc (Nat.le_refl _) (.cells (u8s zH).toArray 36)
      have SS2 := Lib.hid (SS.out.below bb); have B6 := Lib.hid (Blk.new W4 36 (u8s zH)); have L6 := Lib.hid SS.out.res.lt
      go_simp
      refine hK.out _ _ SS2.out.gb.a (fun hz => ?_)
      clear hK K hz bb SS
      obtain ⟨W5, hW5⟩ : ∃ V, W4.alloc (.cells (u8s zH).toArray 36) = V := ⟨_, rfl⟩
      change wpAnyH _ _ _ _ _ _ _ _ (W4.alloc (.cells (u8s zH).toArray 36))
      rw [hW5] at SS2 B6 ⊢
      obtain ⟨g6, hg6⟩ : ∃ V, W4.heap.size = V := ⟨_, rfl⟩
      rw [hg6] at B6 L6 ⊢
      clear hW5 hg6
      have SS := Lib.hid SS2.out
      clear SS2
      refine wpAnyH_ready (rs := [1, 5]) (by kernel_rfl) (by simp) ?_
      refine AllReadyH.cons rfl (fun K hK => ?_) (AllReadyH.cons rfl (fun K hK => ?_) AllReadyH.nil)
      · rw [if_pos (by kernel_rfl)]
        go_simp
        refine (AF.out _ SS.out).mono ?_
        rintro e W6 ⟨rfl, bb⟩
        have SS := Lib.hid (SS.out.below bb)
        have B6 := Lib.hid (B6.out.below bb B6.out.lt)
        refine hK.out _ _ SS.out.gb.a (fun hz => ?_)
        clear hK K hz bb
        refine wpAnyH_ready (rs := [3, 5]) (by kernel_rfl) (by simp) ?_
        refine AllReadyH.cons rfl (fun K hK => ?_) (AllReadyH.cons rfl (fun K hK => ?_) AllReadyH.nil)
        · rw [if_pos (by kernel_rfl)]
          go_simp
          refine (FF.out _ SS.out).mono ?_
          rintro e W7 ⟨y, rfl, hy, yy, bb⟩
          have HYY := Lib.hid hy; have WY := Lib.hid yy.w
          have SS := Lib.hid (SS.out.below bb)
          have B6 := Lib.hid (B6.out.below bb B6.out.lt)
          refine hK.out _ _ SS.out.gb.a (fun hz => ?_)
          clear hK K hz bb hy yy
          refine wpAnyH_ready (rs := [4, 5]) (by kernel_rfl) (by simp) ?_
          refine AllReadyH.cons rfl (fun K hK => ?_) (AllReadyH.cons rfl (fun K hK => ?_) AllReadyH.nil)
          · rw [if_pos (by kernel_rfl)]
            go_simp
            refine (DF.out _ y HYY.out WY.out).mono ?_
            rintro e W8 ⟨rfl, bb⟩
            have SS := Lib.hid (SS.out.below bb)
            have B6 := Lib.hid (B6.out.below bb B6.out.lt)
            refine hK.out _ _ SS.out.gb.a (fun hz => ?_)
            clear hK K hz bb
            refine wpAnyH_ready (rs := [5]) (by kernel_rfl) (by simp) ?_
            refine AllReadyH.cons rfl (fun K hK => ?_) AllReadyH.nil
            rw [if_pos (by kernel_rfl)]
            have bb := (Below.refl W8.heap.size W8).alloc (Nat.le_refl _) (.cells (u8s zH).toArray 36)
            have SS2 := Lib.hid (SS.out.below bb); have A5 := Lib.hid (Blk.new W8 36 (u8s zH)); have L5 := Lib.hid SS.out.res.lt
            have NE := Lib.hid (show W8.heap.size ≠ g6 from by have h := B6.out.lt; omega)
            have B6 := Lib.hid (B6.out.below bb B6.out.lt)
            go_simp
            refine hK.out _ _ SS2.out.gb.a (fun hz => ?_)
            clear hK K hz bb SS
            obtain ⟨W9, hW9⟩ : ∃ V, W8.alloc (.cells (u8s zH).toArray 36) = V := ⟨_, rfl⟩
            change wpAnyH _ _ _ _ _ _ _ _ (W8.alloc (.cells (u8s zH).toArray 36))
            rw [hW9] at SS2 A5 B6 ⊢
            obtain ⟨g5, hg5⟩ : ∃ V, W8.heap.size = V := ⟨_, rfl⟩
            rw [hg5] at A5 L5 NE ⊢
            clear hW9 hg5
            have SS := Lib.hid SS2.out
            clear SS2
            refine wpAnyH_ready (rs := [7]) (by kernel_rfl) (by simp) ?_
            refine AllReadyH.cons rfl (fun K hK => ?_) AllReadyH.nil
            rw [if_pos (by kernel_rfl)]
            refine wstore_part 36 (.tmp 3) (.tmp 10) g5 0 36 [] (u8s zH) [] (u8s T) rfl (by simpa using A5.out) rfl HTZ.out (hash_size _ HTL.out) (u8s_oneD _) rfl rfl ?_
            intro w6 a1 a2 _
            have k5 := a2.out.keptOne rfl
            have A5 := Lib.hid (show Blk w6 g5 36 (u8s T) from by simpa using a1.out)
            have B6 := Lib.hid (B6.out.kept k5 (fun e => NE.out e.symm))
            have SS := Lib.hid (SS.out.write HX0.out k5 L5.out)
            refine hK.out _ _ SS.out.gb.a (fun hz => ?_)
            clear hK K hz a1 a2 k5
            refine wpAnyH_ready (rs := [8]) (by kernel_rfl) (by simp) ?_
            refine AllReadyH.cons rfl (fun K hK => ?_) AllReadyH.nil
            rw [if_pos (by kernel_rfl)]
            refine wstore_part 36 (.tmp 4) (.tmp 13) g6 0 36 [] (u8s zH) [] (u8s U) rfl (by simpa using B6.out) rfl HUZ.out (hash_size _ HUL.out) (u8s_oneD _) rfl rfl ?_
            intro w7 a1 a2 _
            have k6 := a2.out.keptOne rfl
            have B6 := Lib.hid (show Blk w7 g6 36 (u8s U) from by simpa using a1.out)
            have A5 := Lib.hid (A5.out.kept k6 NE.out)
            have SS := Lib.hid (SS.out.write HX0.out k6 L6.out)
            refine hK.out _ _ SS.out.gb.a (fun hz => ?_)
            clear hK K hz a1 a2 k6
            refine wpAnyH_done (by kernel_rfl) ?_ _
            go_simp
            go_wp2_with fail
            go_meet
            exact ⟨g5, g6, rfl, rfl, SS.out, A5.out, B6.out⟩
          · rw [if_pos (by kernel_rfl)]
            have bb := (Below.refl W7.heap.size W7).alloc (Nat.le_refl _) (.cells (u8s zH).toArray 36)
            have SS2 := Lib.hid (SS.out.below bb); have A5 := Lib.hid (Blk.new W7 36 (u8s zH)); have L5 := Lib.hid SS.out.res.lt
            have NE := Lib.hid (show W7.heap.size ≠ g6 from by have h := B6.out.lt; omega)
            have B6 := Lib.hid (B6.out.below bb B6.out.lt)
            have WY := Lib.hid (WY.out.below bb)
            go_simp
            refine hK.out _ _ SS2.out.gb.a (fun hz => ?_)
            clear hK K hz bb SS
            obtain ⟨W8, hW8⟩ : ∃ V, W7.alloc (.cells (u8s zH).toArray 36) = V := ⟨_, rfl⟩
            change wpAnyH _ _ _ _ _ _ _ _ (W7.alloc (.cells (u8s zH).toArray 36))
            rw [hW8] at SS2 A5 B6 WY ⊢
            obtain ⟨g5, hg5⟩ : ∃ V, W7.heap.size = V := ⟨_, rfl⟩
            rw [hg5] at A5 L5 NE ⊢
            clear hW8 hg5
            have SS := Lib.hid SS2.out
            clear SS2
            refine wpAnyH_ready (rs := [4]) (by kernel_rfl) (by simp) ?_
            refine AllReadyH.cons rfl (fun K hK => ?_) AllReadyH.nil
            rw [if_pos (by kernel_rfl)]
            go_simp
            refine (DF.out _ y HYY.out WY.out).mono ?_
            rintro e W9 ⟨rfl, bb⟩
            have SS := Lib.hid (SS.out.below bb)
            have A5 := Lib.hid (A5.out.below bb A5.out.lt)
            have B6 := Lib.hid (B6.out.below bb B6.out.lt)
            refine hK.out _ _ SS.out.gb.a (fun hz => ?_)
            clear hK K hz bb
            refine wpAnyH_ready (rs := [7]) (by kernel_rfl) (by simp) ?_
            refine AllReadyH.cons rfl (fun K hK => ?_) AllReadyH.nil
            rw [if_pos (by kernel_rfl)]
            refine wstore_part 36 (.tmp 3) (.tmp 10) g5 0 36 [] (u8s zH) [] (u8s T) rfl (by simpa using A5.out) rfl HTZ.out (hash_size _ HTL.out) (u8s_oneD _) rfl rfl ?_
            intro w6 a1 a2 _
            have k5 := a2.out.keptOne rfl
            have A5 := Lib.hid (show Blk w6 g5 36 (u8s T) from by simpa using a1.out)
            have B6 := Lib.hid (B6.out.kept k5 (fun e => NE.out e.symm))
            have SS := Lib.hid (SS.out.write HX0.out k5 L5.out)
            refine hK.out _ _ SS.out.gb.a (fun hz => ?_)
            clear hK K hz a1 a2 k5
            refine wpAnyH_ready (rs := [8]) (by kernel_rfl) (by simp) ?_
            refine AllReadyH.cons rfl (fun K hK => ?_) AllReadyH.nil
            rw [if_pos (by kernel_rfl)]
            refine wstore_part 36 (.tmp 4) (.tmp 13) g6 0 36 [] (u8s zH) [] (u8s U) rfl (by simpa using B6.out) rfl HUZ.out (hash_size _ HUL.out) (u8s_oneD _) rfl rfl ?_
            intro w7 a1 a2 _
            have k6 := a2.out.keptOne rfl
            have B6 := Lib.hid (show Blk w7 g6 36 (u8s U) from by simpa using a1.out)
            have A5 := Lib.hid (A5.out.kept k6 NE.out)
            have SS := Lib.hid (SS.out.write HX0.out k6 L6.out)
            refine hK.out _ _ SS.out.gb.a (fun hz => ?_)
            clear hK K hz a1 a2 k6
            refine wpAnyH_done (by kernel_rfl) ?_ _
            go_simp
            go_wp2_with fail
            go_meet
            exact ⟨g5, g6, rfl, rfl, SS.out, A5.out, B6.out⟩
        · rw [if_pos (by kernel_rfl)]
          have bb := (Below.refl W6.heap.size W6).alloc (Nat.le_refl _) (.cells (u8s zH).toArray 36)
          have SS2 := Lib.hid (SS.out.below bb); have A5 := Lib.hid (Blk.new W6 36 (u8s zH)); have L5 := Lib.hid SS.out.res.lt
          have NE := Lib.hid (show W6.heap.size ≠ g6 from by have h := B6.out.lt; omega)
          have B6 := Lib.hid (B6.out.below bb B6.out.lt)
          go_simp
          refine hK.out _ _ SS2.out.gb.a (fun hz => ?_)
          clear hK K hz bb SS
          obtain ⟨W7, hW7⟩ : ∃ V, W6.alloc (.cells (u8s zH).toArray 36) = V := ⟨_, rfl⟩
          change wpAnyH _ _ _ _ _ _ _ _ (W6.alloc (.cells (u8s zH).toArray 36))
          rw [hW7] at SS2 A5 B6 ⊢
          obtain ⟨g5, hg5⟩ : ∃ V, W6.heap.size = V := ⟨_, rfl⟩
          rw [hg5] at A5 L5 NE ⊢
          clear hW7 hg5
          have SS := Lib.hid SS2.out
          clear SS2
          refine wpAnyH_ready (rs := [3]) (by kernel_rfl) (by simp) ?_
          refine AllReadyH.cons rfl (fun K hK => ?_) AllReadyH.nil
          rw [if_pos (by kernel_rfl)]
          go_simp
          refine (FF.out _ SS.out).mono ?_
          rintro e W8 ⟨y, rfl, hy, yy, bb⟩
          have HYY := Lib.hid hy; have WY := Lib.hid yy.w
          have SS := Lib.hid (SS.out.below bb)
          have A5 := Lib.hid (A5.out.below bb A5.out.lt)
          have B6 := Lib.hid (B6.out.below bb B6.out.lt)
          refine hK.out _ _ SS.out.gb.a (fun hz => ?_)
          clear hK K hz bb hy yy
          refine wpAnyH_ready (rs := [4]) (by kernel_rfl) (by simp) ?_
          refine AllReadyH.cons rfl (fun K hK => ?_) AllReadyH.nil
          rw [if_pos (by kernel_rfl)]
          go_simp
          refine (DF.out _ y HYY.out WY.out).mono ?_
          rintro e W9 ⟨rfl, bb⟩
          have SS := Lib.hid (SS.out.below bb)
          have A5 := Lib.hid (A5.out.below bb A5.out.lt)
          have B6 := Lib.hid (B6.out.below bb B6.out.lt)
          refine hK.out _ _ SS.out.gb.a (fun hz => ?_)
          clear hK K hz bb
          refine wpAnyH_ready (rs := [7]) (by kernel_rfl) (by simp) ?_
          refine AllReadyH.cons rfl (fun K hK => ?_) AllReadyH.nil
          rw [if_pos (by kernel_rfl)]
          refine wstore_part 36 (.tmp 3) (.tmp 10) g5 0 36 [] (u8s zH) [] (u8s T) rfl (by simpa using A5.out) rfl HTZ.out (hash_size _ HTL.out) (u8s_oneD _) rfl rfl ?_
          intro w6 a1 a2 _
          have k5 := a2.out.keptOne rfl
          have A5 := Lib.hid (show Blk w6 g5 36 (u8s T) from by simpa using a1.out)
          have B6 := Lib.hid (B6.out.kept k5 (fun e => NE.out e.symm))
          have SS := Lib.hid (SS.out.write HX0.out k5 L5.out)
          refine hK.out _ _ SS.out.gb.a (fun hz => ?_)
          clear hK K hz a1 a2 k5
          refine wpAnyH_ready (rs := [8]) (by kernel_rfl) (by simp) ?_
          refine AllReadyH.cons rfl (fun K hK => ?_) AllReadyH.nil
          rw [if_pos (by kernel_rfl)]
          refine wstore_part 36 (.tmp 4) (.tmp 13) g6 0 36 [] (u8s zH) [] (u8s U) rfl (by simpa using B6.out) rfl HUZ.out (hash_size _ HUL.out) (u8s_oneD _) rfl rfl ?_
          intro w7 a1 a2 _
          have k6 := a2.out.keptOne rfl
          have B6 := Lib.hid (show Blk w7 g6 36 (u8s U) from by simpa using a1.out)
          have A5 := Lib.hid (A5.out.kept k6 NE.out)
          have SS := Lib.hid (SS.out.write HX0.out k6 L6.out)
          refine hK.out _ _ SS.out.gb.a (fun hz => ?_)
          clear hK K hz a1 a2 k6
          refine wpAnyH_done (by kernel_rfl) ?_ _
          go_simp
          go_wp2_with fail
          go_meet
          exact ⟨g5, g6, rfl, rfl, SS.out, A5.out, B6.out⟩
      · rw [if_pos (by kernel_rfl)]
        have bb := (Below.refl W5.heap.size W5).alloc (Nat.le_refl _) (.cells (u8s zH).toArray 36)
        have SS2 := Lib.hid (SS.out.below bb); have A5 := Lib.hid (Blk.new W5 36 (u8s zH)); have L5 := Lib.hid SS.out.res.lt
        have NE := Lib.hid (show W5.heap.size ≠ g6 from by have h := B6.out.lt; omega)
        have B6 := Lib.hid (B6.out.below bb B6.out.lt)
        go_simp
        refine hK.out _ _ SS2.out.gb.a (fun hz => ?_)
        clear hK K hz bb SS
        obtain ⟨W6, hW6⟩ : ∃ V, W5.alloc (.cells (u8s zH).toArray 36) = V := ⟨_, rfl⟩
        change wpAnyH _ _ _ _ _ _ _ _ (W5.alloc (.cells (u8s zH).toArray 36))
        rw [hW6] at SS2 A5 B6 ⊢
        obtain ⟨g5, hg5⟩ : ∃ V, W5.heap.size = V := ⟨_, rfl⟩
        rw [hg5] at A5 L5 NE ⊢
        clear hW6 hg5
        have SS := Lib.hid SS2.out
        clear SS2
        refine wpAnyH_ready (rs := [1]) (by kernel_rfl) (by simp) ?_
        refine AllReadyH.cons rfl (fun K hK => ?_) AllReadyH.nil
        rw [if_pos (by kernel_rfl)]
        go_simp
        refine (AF.out _ SS.out).mono ?_
        rintro e W7 ⟨rfl, bb⟩
        have SS := Lib.hid (SS.out.below bb)
        have A5 := Lib.hid (A5.out.below bb A5.out.lt)
        have B6 := Lib.hid (B6.out.below bb B6.out.lt)
        refine hK.out _ _ SS.out.gb.a (fun hz => ?_)
        clear hK K hz bb
        refine wpAnyH_ready (rs := [3]) (by kernel_rfl) (by simp) ?_
        refine AllReadyH.cons rfl (fun K hK => ?_) AllReadyH.nil
        rw [if_pos (by kernel_rfl)]
        go_simp
        refine (FF.out _ SS.out).mono ?_
        rintro e W8 ⟨y, rfl, hy, yy, bb⟩
        have HYY := Lib.hid hy; have WY := Lib.hid yy.w
        have SS := Lib.hid (SS.out.below bb)
        have A5 := Lib.hid (A5.out.below bb A5.out.lt)
        have B6 := Lib.hid (B6.out.below bb B6.out.lt)
        refine hK.out _ _ SS.out.gb.a (fun hz => ?_)
        clear hK K hz bb hy yy
        refine wpAnyH_ready (rs := [4]) (by kernel_rfl) (by simp) ?_
        refine AllReadyH.cons rfl (fun K hK => ?_) AllReadyH.nil
        rw [if_pos (by kernel_rfl)]
        go_simp
        refine (DF.out _ y HYY.out WY.out).mono ?_
        rintro e W9 ⟨rfl, bb⟩
        have SS := Lib.hid (SS.out.below bb)
        have A5 := Lib.hid (A5.out.below bb A5.out.lt)
        have B6 := Lib.hid (B6.out.below bb B6.out.lt)
        refine hK.out _ _ SS.out.gb.a (fun hz => ?_)
        clear hK K hz bb
        refine wpAnyH_ready (rs := [7]) (by kernel_rfl) (by simp) ?_
        refine AllReadyH.cons rfl (fun K hK => ?_) AllReadyH.nil
        rw [if_pos (by kernel_rfl)]
        refine wstore_part 36 (.tmp 3) (.tmp 10) g5 0 36 [] (u8s zH) [] (u8s T) rfl (by simpa using A5.out) rfl HTZ.out (hash_size _ HTL.out) (u8s_oneD _) rfl rfl ?_
        intro w6 a1 a2 _
        have k5 := a2.out.keptOne rfl
        have A5 := Lib.hid (show Blk w6 g5 36 (u8s T) from by simpa using a1.out)
        have B6 := Lib.hid (B6.out.kept k5 (fun e => NE.out e.symm))
        have SS := Lib.hid (SS.out.write HX0.out k5 L5.out)
        refine hK.out _ _ SS.out.gb.a (fun hz => ?_)
        clear hK K hz a1 a2 k5
        refine wpAnyH_ready (rs := [8]) (by kernel_rfl) (by simp) ?_
        refine AllReadyH.cons rfl (fun K hK => ?_) AllReadyH.nil
        rw [if_pos (by kernel_rfl)]
        refine wstore_part 36 (.tmp 4) (.tmp 13) g6 0 36 [] (u8s zH) [] (u8s U) rfl (by simpa using B6.out) rfl HUZ.out (hash_size _ HUL.out) (u8s_oneD _) rfl rfl ?_
        intro w7 a1 a2 _
        have k6 := a2.out.keptOne rfl
        have B6 := Lib.hid (show Blk w7 g6 36 (u8s U) from by simpa using a1.out)
        have A5 := Lib.hid (A5.out.kept k6 NE.out)
        have SS := Lib.hid (SS.out.write HX0.out k6 L6.out)
        refine hK.out _ _ SS.out.gb.a (fun hz => ?_)
        clear hK K hz a1 a2 k6
        refine wpAnyH_done (by kernel_rfl) ?_ _
        go_simp
        go_wp2_with fail
        go_meet
        exact ⟨g5, g6, rfl, rfl, SS.out, A5.out, B6.out⟩
  case rest =>
    obtain ⟨g5, g6, rfl, rfl, hh, k5, k6⟩ := hcut
    have S7 := Lib.hid hh; have K7 := Lib.hid k5; have L7 := Lib.hid k6
    clear hh k5 k6 S2 AF FF DF HTZ HUZ
    have h5 := sliceAt_all (P := Tryz.prog) (t := 36) (e := 5) (n := 32) Tryz.underlying36 (by kernel_rfl) g5 0
    have h6 := sliceAt_all (P := Tryz.prog) (t := 36) (e := 5) (n := 32) Tryz.underlying36 (by kernel_rfl) g6 0
    go_upto_region 4 with (fail)
    obtain ⟨W4, hW4⟩ : ∃ Z, wc.drew = Z := ⟨_, rfl⟩
    have bd : Below wc.heap.size wc W4 := by rw [← hW4]; exact (Below.refl _ _).drew
    have S8 := Lib.hid (S7.out.below bd); have K8 := Lib.hid (K7.out.below bd K7.out.lt); have L8 := Lib.hid (L7.out.below bd L7.out.lt)
    clear bd S7 K7 L7
    refine wp_region_held (S := fun _ => True) (by kernel_rfl) ?_
    change wpAnyH _ _ _ _ _ _ _ _ wc.drew
    rw [hW4]
    clear hW4
    have r0 : True := trivial
    refine wpAnyH_take (i := 2) (v := ?_) rfl (by kernel_rfl) (by kernel_rfl) (by kernel_rfl) (fun _ _ _ h => h) (Or.inl ⟨by kernel_rfl, ?_⟩) r0 ?_
    rotate_left 1
    · (intro w hS; clear hS; go_simp; try (with_reducible rfl))
    refine wpAnyH_take (i := 3) (v := ?_) rfl (by kernel_rfl) (by kernel_rfl) (by kernel_rfl) (fun _ _ _ h => h) (Or.inl ⟨by kernel_rfl, ?_⟩) r0 ?_
    rotate_left 1
    · (intro w hS; clear hS; go_simp; try (with_reducible rfl))
    refine wpAnyH_ready (rs := [0]) (by kernel_rfl) (by simp) ?_
    refine AllReadyH.cons rfl (fun K hK => ?_) AllReadyH.nil
    rw [if_pos (by kernel_rfl)]
    go_simp
    refine hK.out _ _ trivial (fun hz => ?_)
    clear hK K hz h5 h6
    have kc := fun (w : World) (C : Array Value) (n c : Nat) => Lib.run_convert_bytes_const (P := Tryz.prog) w 23 5 C n c Tryz.underlying23 Tryz.underlying5
    refine wpAnyH_ready (rs := [1]) (by kernel_rfl) (by simp) ?_
    refine AllReadyH.cons rfl (fun K hK => ?_) AllReadyH.nil
    rw [if_pos (by kernel_rfl)]
    go_simp
    refine hK.out _ _ trivial (fun hz => ?_)
    clear hK K hz kc
    have S4 := Lib.hid (sr_frz liL W4 [] 5 (4, 5))
    have BA := Lib.hid (show Below W4.heap.size W4 (W4.alloc (.cells (u8s liL).toArray 5 (4, 5))) from (Below.refl _ _).alloc (Nat.le_refl _) _)
    rw [List.append_nil] at S4
    have S9 := Lib.hid (S8.out.below BA.out); have K9 := Lib.hid (K8.out.below BA.out K8.out.lt); have L9 := Lib.hid (L8.out.below BA.out L8.out.lt)
    obtain ⟨W5, hW5⟩ : ∃ V, W4.alloc (.cells (u8s liL).toArray 5 (4, 5)) = V := ⟨_, rfl⟩
    change wpAnyH _ _ _ _ _ _ _ _ (W4.alloc (.cells (u8s liL).toArray 5 (4, 5)))
    rw [hW5] at S4 S9 K9 L9 ⊢
    obtain ⟨gl, hgl⟩ : ∃ g, W4.heap.size = g := ⟨_, rfl⟩
    rw [hgl] at S4 ⊢
    clear hW5 hgl BA S8 K8 L8
    refine wpAnyH_ready (rs := [4]) (by kernel_rfl) (by simp) ?_
    refine AllReadyH.cons rfl (fun K hK => ?_) AllReadyH.nil
    rw [if_pos (by kernel_rfl)]
    go_simp
    refine hK.out _ _ trivial (fun hz => ?_)
    clear hK K hz
    have RT := Lib.hid (sr_blkG K9.out); have RU := Lib.hid (sr_blkG L9.out)
    obtain ⟨lp, hlp⟩ : ∃ l : List PartO, [⟨some ⟨gl, 0, none⟩, 4, liL⟩, ⟨some ⟨g5, 0, none⟩, 32, T⟩, ⟨some ⟨g6, 0, none⟩, 32, U⟩] = l := ⟨_, rfl⟩
    have PLP := Lib.hid (show partsO lp = [.slice (some ⟨gl, 0, none⟩) 4 4, .slice (some ⟨g5, 0, none⟩) 32 32, .slice (some ⟨g6, 0, none⟩) 32 32] by
      rw [← hlp]
      show [Value.slice _ liL.length _, Value.slice _ T.length _, Value.slice _ U.length _] = _
      rw [HTL.out, HUL.out]
      rfl)
    have E := Lib.hid (show catO lp = liL ++ (T ++ U) by rw [← hlp]; simp [catO])
    have BP := Lib.hid (Blk.new W5 23 (partsO lp))
    have BW := Lib.hid (show Below W5.heap.size W5 (W5.alloc (.cells (partsO lp).toArray 23)) from (Below.refl _ _).alloc (Nat.le_refl _) _)
    have CT := Lib.hid (catO_t lp W5.heap.size 3 3 23 _ (by rw [← hlp]; rfl) BP.out (fun q hq => by
      rw [← hlp] at hq
      simp only [List.mem_cons, List.not_mem_nil, or_false] at hq
      rcases hq with rfl | rfl | rfl
      · exact S4.out.below BW.out
      · exact RT.out.below BW.out
      · exact RU.out.below BW.out) (by rw [E.out, List.length_append, List.length_append, HTL.out, HUL.out]; decide) (by decide))
    have SA := Lib.hid (S9.out.below BW.out)
    rw [PLP.out] at CT SA
    clear hlp BP BW PLP S4 S9 K9 L9 RT RU
    refine wpAnyH_ready (rs := [5]) (by kernel_rfl) (by simp) ?_
    refine AllReadyH.cons rfl (fun K hK => ?_) AllReadyH.nil
    rw [if_pos (by kernel_rfl)]
    go_simp
    refine CT.out.mono ?_
    rintro e w4 ⟨u, rfl, fr⟩
    rw [E.out] at fr
    have YB := Lib.hid (app_bytes liL_bytes (app_bytes BT_.out BU_.out))
    have YL := Lib.hid (show (liL ++ (T ++ U)).length ≤ 100000000 by rw [List.length_append, List.length_append, HTL.out, HUL.out]; decide)
    obtain ⟨ys, hys⟩ : ∃ l, liL ++ (T ++ U) = l := ⟨_, rfl⟩
    rw [hys] at fr YB YL HSS
    obtain ⟨A4, c4, rfl, _, s4, b4⟩ := fresh_opO fr
    have SB := Lib.hid (SA.out.below b4); have R4 := Lib.hid s4
    clear hys fr s4 b4 SA CT E
    refine hK.out _ _ trivial (fun hz => ?_)
    clear hK K hz
    have US := Lib.hid (refsum_t ys A4 ys.length c4 w4 rfl R4.out YB.out YL.out)
    rw [HSS.out] at US
    refine wpAnyH_ready (rs := [6]) (by kernel_rfl) (by simp) ?_
    refine AllReadyH.cons rfl (fun K hK => ?_) AllReadyH.nil
    rw [if_pos (by kernel_rfl)]
    go_simp
    refine US.out.mono ?_
    rintro e w5 ⟨rfl, b5⟩
    have SC := Lib.hid (SB.out.below b5)
    clear SB US b5 R4
    refine hK.out _ _ trivial (fun hz => ?_)
    clear hK K hz
    have FZ := Lib.hid (hash_size S HSL.out)
    have HZL := Lib.hid (show (u8s zH).length = (u8s S).length by rw [u8s_length, u8s_length, HSL.out]; rfl)
    refine wpAnyH_ready (rs := [7]) (by kernel_rfl) (by simp) ?_
    refine AllReadyH.cons rfl (fun K hK => ?_) AllReadyH.nil
    rw [if_pos (by kernel_rfl)]
    refine wstore_part 36 (.tmp 2) (.tmp 20) (w.heap.size + 1) 0 36 [] (u8s zH) [] (u8s S) rfl (by simpa using SC.out.res) rfl HZL.out FZ.out (u8s_oneD _) rfl rfl ?_
    intro w6 a1 a2 _
    have RZ := Lib.hid (show Blk w6 (w.heap.size + 1) 36 (u8s S) from by simpa using a1.out)
    have BF := Lib.hid (show Below w.heap.size w w6 from kept_below SC.out.gb.bel (a2.out.keptOne rfl) (by omega))
    refine hK.out _ _ trivial (fun hz => ?_)
    clear hK K hz a1 a2 SC
    refine wpAnyH_done (by kernel_rfl) ?_ _
    go_simp
    go_wp2_with fail
    exact ret_blk (p := 2) (ty := 36) rfl rfl (w.heap.size + 1) 36 _ _ rfl RZ.out Tryz.underlying36 rfl FZ.out ⟨rfl, BF.out⟩
end Go.Proofs.YtlipjglehongeaaGreatDoor
