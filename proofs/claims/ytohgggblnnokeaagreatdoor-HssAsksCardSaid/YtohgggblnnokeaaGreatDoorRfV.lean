/-
  THE REFERENCE OF CHAPTER 3: front and secret of ANY leaf's number (its lowest 32 bits).
-/
import Derived.Test.YtohgggblnnokeaaGreatDoorRfM
namespace Go.Proofs.YtohgggblnnokeaaGreatDoor
open Go Go.RowKit Sh

set_option maxRecDepth 100000 in
set_option maxHeartbeats 400000 in
theorem front_u (I : List Nat) (qi : Int) (q : Nat) (w : World) (hI : I.length = 16) (hq : IntKind.u64.wrap qi = (q : Int)) :
    Calls Tryz.prog 62 #[.agg (u8s I).toArray, .int .i64 qi] w fun e w' => ∃ v, e = .returned v ∧ Fresh 5 w w' v (frontN I q) := by
  have HI := Lib.hid hI
  have B0 := Lib.hid (((Below.refl w.heap.size w).alloc (Nat.le_refl _) (.cells (u8s I).toArray 22)).alloc (by simp) (.cells #[] 5))
  have SI := Lib.hid (Sr.of_blk (xs := I) (rest := []) ((Blk.new w 22 (u8s I)).alloc (.cells #[] 5)) (by simp))
  clear hI
  go_enter Tryz.func62, Tryz.ntmps62
  go_wp2_with ((with_reducible refine at_op (.call { callee := .builtin .append, args := #[.tmp 5, .tmp 6], argTypes := #[27, 27] }) rfl ?_); go_must (refine append_bytes (.tmp 5) (.tmp 6) 27 rfl rfl 5 Tryz.underlying27 byte_info w.heap.size (.slice (some ⟨w.heap.size + 1, 0, none⟩) 0 0) 0 [] I rfl (own_empty _ _ _ (by simp) (by simp)) (some ⟨w.heap.size, 0, none⟩) 16 16 rfl HI.out SI.out (by omega) (by simp; omega) ?_); intro v1 w1 a1 a2 a3)
  have b1 : Below w.heap.size w w1 := B0.out.grown a2.out B0.out.size (fun k e => by have := Option.some.inj e; simp at this; omega)
  have o1 := a1.out
  rw [List.nil_append, Nat.zero_add] at o1
  have B1 := Lib.hid b1; have O1 := Lib.hid o1
  clear b1 o1 a1 a2 a3 B0 SI
  refine (refnum_t q 4 w1 (by decide) (by decide)).mono ?_
  rintro e w2 ⟨u, rfl, f2⟩
  obtain ⟨A, c, rfl, hc, sr, b2⟩ := fresh_op f2
  rw [beN_length] at hc ⊢
  have O2 := Lib.hid (own_below O1.out b2); have S2 := Lib.hid sr; have B2 := Lib.hid (B1.out.trans (b2.mono B1.out.size))
  clear f2 hc sr b2 O1 B1
  go_wp2_with ((with_reducible refine at_op (.call { callee := .builtin .append, args := #[.tmp 7, .tmp 10], argTypes := #[27, 27] }) rfl ?_); refine append_bytes (.tmp 7) (.tmp 10) 27 rfl rfl 5 Tryz.underlying27 byte_info w.heap.size v1 16 I (beN q 4) rfl O2.out A 4 c rfl (beN_length _ _) S2.out (by omega) B2.out.size ?_; intro v3 w3 a1 a2 a3)
  go_ret
  refine ⟨v3, rfl, ?_, B2.out.grown a2.out B2.out.size fun k e => (O2.out.lt k e).1⟩
  rw [frontN_length I q HI.out]
  exact a1.out
set_option maxRecDepth 100000 in
set_option maxHeartbeats 4000000 in
theorem refsec_u (I seed : List Nat) (qi : Int) (q n : Nat) (w : World) (hI : I.length = 16) (hIb : Bytes I) (hs : seed.length = 32) (hsb : Bytes seed) (hq : IntKind.u64.wrap qi = (q : Int)) (hn : n < 65536) :
    Calls Tryz.prog 50 #[.agg (u8s (I ++ seed)).toArray, .int .i64 qi, .int .i64 (n : Int)] w fun e w' => e = .returned (.agg (u8s (secN I seed q n)).toArray) ∧ Below w.heap.size w w' := by
  have HI := Lib.hid hI; have HIB := Lib.hid hIb; have HS := Lib.hid hs; have HSB := Lib.hid hsb; have HQ := Lib.hid hq
  have n1 : (0 : Int) ≤ n := by omega
  have n2 : (n : Int) < 65536 := by omega
  have nw : IntKind.u64.wrap (n : Int) = (n : Int) := IntWalk.u64_in _ (by omega)
  clear hI hIb hs hsb hq
  go_enter Tryz.func50, Tryz.ntmps50
  go_upto_region 1 with (fail)
  refine world_is (fun W => Blk W w.heap.size 26 (u8s (I ++ seed)) ∧ Blk W (w.heap.size + 1) 24 (u8s z32) ∧ Below w.heap.size w W) ⟨(Blk.new w _ (u8s (I ++ seed))).alloc _, Blk.new2 w _ _ (u8s z32), ((Below.refl _ _).alloc (Nat.le_refl _) _).alloc (by simp) _⟩ ?_
  rintro W ⟨k0, k1, bw⟩
  have SEC0 := Lib.hid k0.drew; have R0 := Lib.hid k1.drew; have B0 := Lib.hid bw.drew
  have RT := Lib.hid (fun (X : World) (h : X.rangeAt w.heap.size 0 (u8s (I ++ seed))) => show X.rangeAt w.heap.size 0 (u8s I) from fun j v hv => h j v (by rw [u8s_app, List.getElem?_append_left (List.getElem?_eq_some_iff.1 hv).1]; exact hv))
  have RS := Lib.hid (fun (X : World) (h : Below W.drew.heap.size W.drew X) => RT.out X (range_of_blk (SEC0.out.below h SEC0.out.lt)))
  have C0 := Lib.hid (Below.refl W.drew.heap.size W.drew)
  have r1 := RS.out _ C0.out
  clear k0 k1 bw
  refine wp_region_held (S := fun X => X.rangeAt w.heap.size 0 (u8s I)) (by kernel_rfl) ?_
  change wpAnyH _ _ _ _ _ _ _ _ W.drew
  generalize W.drew = V at *
  refine wpAnyH_take (i := 0) (v := ?_) rfl (by kernel_rfl) (by kernel_rfl) (by kernel_rfl) (fun _ _ _ h => h) (Or.inl ⟨by kernel_rfl, ?_⟩) r1 ?_
  rotate_left 1
  · (intro w hS; clear hS; go_simp; try (with_reducible rfl))
  refine wpAnyH_take (i := 1) (v := .agg (u8s I).toArray) rfl (by kernel_rfl) (by kernel_rfl) (by kernel_rfl) (fun _ _ _ h => h) (yieldsIf_load_mid (by kernel_rfl) 22 (.tmp 7) rfl w.heap.size 0 (by go_simp) (u8s I) _ (fun _ h => h) Tryz.underlying22 rfl (size16 _ HI.out)) r1 ?_
  refine wpAnyH_take (i := 2) (v := ?_) rfl (by kernel_rfl) (by kernel_rfl) (by kernel_rfl) (fun _ _ _ h => h) (Or.inl ⟨by kernel_rfl, ?_⟩) r1 ?_
  rotate_left 1
  · (intro w hS; clear hS; go_simp; try (with_reducible rfl))
  refine wpAnyH_take (i := 4) (v := ?_) rfl (by kernel_rfl) (by kernel_rfl) (by kernel_rfl) (fun _ _ _ h => h) (Or.inl ⟨by kernel_rfl, ?_⟩) r1 ?_
  rotate_left 1
  · (intro w hS; clear hS; go_simp; try (with_reducible rfl))
  refine wpAnyH_take (i := 5) (v := ?_) rfl (by kernel_rfl) (by kernel_rfl) (by kernel_rfl) (fun _ _ _ h => h) (Or.inl ⟨by kernel_rfl, ?_⟩) r1 ?_
  rotate_left 1
  · (intro w hS; clear hS; go_simp; try (with_reducible rfl))
  refine wpAnyH_take (i := 8) (v := ?_) rfl (by kernel_rfl) (by kernel_rfl) (by kernel_rfl) (fun _ _ _ h => h) (Or.inl ⟨by kernel_rfl, ?_⟩) r1 ?_
  rotate_left 1
  · (intro w hS; clear hS; go_simp; try (with_reducible rfl))
  refine wpAnyH_take (i := 9) (v := ?_) rfl (by kernel_rfl) (by kernel_rfl) (by kernel_rfl) (fun _ _ _ h => h) (Or.inl ⟨by kernel_rfl, ?_⟩) r1 ?_
  rotate_left 1
  · (intro w hS; clear hS; go_simp; try (with_reducible rfl))
  clear r1
  refine wpAnyH_ready (rs := [3, 7]) (by kernel_rfl) (by simp) ?_
  refine AllReadyH.cons rfl (fun K hK => ?_) (AllReadyH.cons rfl (fun K hK => ?_) AllReadyH.nil)
  · skip
    go_simp
    refine (front_u I qi q _ HI.out HQ.out).mono ?_
    rintro e wa ⟨v, rfl, f1⟩
    obtain ⟨A, a, rfl, ha, s1, bq⟩ := fresh_op f1
    rw [frontN_length I q HI.out] at ha ⊢
    have S1 := Lib.hid s1; have Ca := Lib.hid (C0.out.trans (bq.mono C0.out.size))
    skip
    clear f1 ha s1 bq
    refine hK.out _ _ (RS.out _ Ca.out) (fun _ => ?_)
    clear hK K
    refine wpAnyH_ready (rs := [6, 7]) (by kernel_rfl) (by simp) ?_
    refine AllReadyH.cons rfl (fun K hK => ?_) (AllReadyH.cons rfl (fun K hK => ?_) AllReadyH.nil)
    · skip
      go_simp
      refine (refnum_t n 2 _ (by decide) (by decide)).mono ?_
      rintro e wb ⟨v, rfl, f1⟩
      obtain ⟨D, d, rfl, hd, s2, bq⟩ := fresh_op f1
      rw [beN_length] at hd ⊢
      have S2 := Lib.hid s2; have Cb := Lib.hid (Ca.out.trans (bq.mono Ca.out.size))
      have S1' := Lib.hid (S1.out.below bq)
      skip
      clear f1 hd s2 bq S1
      have S1 := S1'
      clear S1'
      refine hK.out _ _ (RS.out _ Cb.out) (fun _ => ?_)
      clear hK K
      refine wpAnyH_ready (rs := [7]) (by kernel_rfl) (by simp) ?_
      refine AllReadyH.cons rfl (fun K hK => ?_) AllReadyH.nil
      go_simp
      have bq := (Below.refl (wb).heap.size wb).alloc (Nat.le_refl _) (.cells #[.int .u8 255] 5)
      have S3 := Lib.hid (Sr.one 255 255 rfl wb 5 (0, 0)); have Cc := Lib.hid (Cb.out.trans (bq.mono Cb.out.size))
      have S1' := Lib.hid (S1.out.below bq); have S2' := Lib.hid (S2.out.below bq); clear S1 S2; have S1 := S1'; have S2 := S2'; clear S1' S2'
      obtain ⟨g7, hg7⟩ : ∃ g, (wb).heap.size = g := ⟨_, rfl⟩
      rw [hg7] at S3 ⊢
      clear bq hg7
      refine hK.out _ _ (RS.out _ Cc.out) (fun _ => ?_)
      clear hK K
      refine wpAnyH_ready (rs := [10]) (by kernel_rfl) (by simp) ?_
      refine AllReadyH.cons rfl (fun K hK => ?_) AllReadyH.nil
      go_simp
      have bq := (Below.refl ((wb.alloc (.cells #[.int .u8 255] 5))).heap.size (wb.alloc (.cells #[.int .u8 255] 5))).alloc (Nat.le_refl _) (.cells (partsV [⟨A, a, frontN I q⟩, ⟨D, d, beN n 2⟩, ⟨some ⟨g7, 0, none⟩, 1, [255]⟩, ⟨some ⟨w.heap.size, 16, none⟩, 32, seed⟩]).toArray 27)
      have B9 := Lib.hid (Cc.out.trans (bq.mono Cc.out.size))
      have SEC9 := Lib.hid (SEC0.out.below B9.out SEC0.out.lt)
      have SX := Lib.hid (show ∀ x ∈ ([⟨A, a, frontN I q⟩, ⟨D, d, beN n 2⟩, ⟨some ⟨g7, 0, none⟩, 1, [255]⟩, ⟨some ⟨w.heap.size, 16, none⟩, 32, seed⟩] : List Part), Sr (((wb.alloc (.cells #[.int .u8 255] 5))).alloc (.cells (partsV [⟨A, a, frontN I q⟩, ⟨D, d, beN n 2⟩, ⟨some ⟨g7, 0, none⟩, 1, [255]⟩, ⟨some ⟨w.heap.size, 16, none⟩, 32, seed⟩]).toArray 27)) x.A x.X by
        intro y hy
        simp only [List.mem_cons, List.not_mem_nil, or_false] at hy
        rcases hy with rfl | rfl | rfl | rfl
        · exact S1.out.below bq
        · exact S2.out.below bq
        · exact S3.out.below bq
        · intro _; refine ⟨w.heap.size, 16, rfl, SEC9.out.lt, fun q' hq' => ?_⟩; rw [SEC9.out.cell, u8s_app, List.getElem?_append_right (by rw [u8s_length, HI.out]; omega), u8s_length, HI.out, show 16 + q' - 16 = q' from by omega, u8s_get _ _ hq'])
      have HPV := Lib.hid (show partsV [⟨A, a, frontN I q⟩, ⟨D, d, beN n 2⟩, ⟨some ⟨g7, 0, none⟩, 1, [255]⟩, ⟨some ⟨w.heap.size, 16, none⟩, 32, seed⟩] = [.slice A 20 a, .slice D 2 d, .slice (some ⟨g7, 0, none⟩) 1 1, .slice (some ⟨w.heap.size, 16, none⟩) 32 32] by simp only [partsV, List.map_cons, List.map_nil, frontN_length I q HI.out, beN_length, HS.out]; rfl)
      have BKP := Lib.hid (blk_at (w := (wb.alloc (.cells #[.int .u8 255] 5))) (g := wb.heap.size + 1) (by simp) (.cells (partsV [⟨A, a, frontN I q⟩, ⟨D, d, beN n 2⟩, ⟨some ⟨g7, 0, none⟩, 1, [255]⟩, ⟨some ⟨w.heap.size, 16, none⟩, 32, seed⟩]).toArray 27) 27 (partsV [⟨A, a, frontN I q⟩, ⟨D, d, beN n 2⟩, ⟨some ⟨g7, 0, none⟩, 1, [255]⟩, ⟨some ⟨w.heap.size, 16, none⟩, 32, seed⟩]))
      rw [HPV.out] at B9 SX BKP
      clear bq
      refine hK.out _ _ (RS.out _ B9.out) (fun _ => ?_)
      clear hK K
      refine wpAnyH_ready (rs := [11]) (by kernel_rfl) (by simp) ?_
      refine AllReadyH.cons rfl (fun K hK => ?_) AllReadyH.nil
      go_simp
      refine (cat_t [⟨A, a, frontN I q⟩, ⟨D, d, beN n 2⟩, ⟨some ⟨g7, 0, none⟩, 1, [255]⟩, ⟨some ⟨w.heap.size, 16, none⟩, 32, seed⟩] (wb.heap.size + 1) 4 4 27 _ rfl ?_ ?_ ?_ (by decide)).mono ?_
      · rw [HPV.out]; exact BKP.out
      · exact SX.out
      · rw [cat_sec, List.length_append, List.length_append, headN_length I q _ HI.out, HS.out]; simp
      rintro e wc ⟨vc, rfl, fc⟩
      obtain ⟨Ac, cc, rfl, hcc, src, bc⟩ := fresh_op fc
      have BC := Lib.hid (B9.out.trans (bc.mono B9.out.size)); have SC := Lib.hid src
      clear fc hcc src bc
      have HCE := Lib.hid (cat_sec I seed q n A D (some ⟨g7, 0, none⟩) (some ⟨w.heap.size, 16, none⟩) a d 1 32)
      obtain ⟨T, hT⟩ : ∃ T, catX [⟨A, a, frontN I q⟩, ⟨D, d, beN n 2⟩, ⟨some ⟨g7, 0, none⟩, 1, [255]⟩, ⟨some ⟨w.heap.size, 16, none⟩, 32, seed⟩] = T := ⟨_, rfl⟩
      rw [hT] at SC HCE ⊢
      clear hT
      have HTB := Lib.hid (show Bytes T ∧ T.length ≤ 200 by rw [HCE.out]; exact ⟨app_bytes (app_bytes (headN_bytes _ _ _ HIB.out) (sl_bytes (by decide))) HSB.out, by rw [List.length_append, List.length_append, headN_length I q _ HI.out, HS.out]; simp⟩)
      refine hK.out _ _ (RS.out _ BC.out) (fun _ => ?_)
      clear hK K
      refine wpAnyH_ready (rs := [12]) (by kernel_rfl) (by simp) ?_
      refine AllReadyH.cons rfl (fun K hK => ?_) AllReadyH.nil
      go_simp
      refine (refsum_t T Ac T.length cc wc rfl SC.out HTB.out.1 (by have := HTB.out.2; omega)).mono ?_
      rintro e wd ⟨rfl, bd⟩
      have BD := Lib.hid (BC.out.trans (bd.mono BC.out.size))
      have HSL := Lib.hid (show (sum T).length = 32 from rfl)
      have HE := Lib.hid (show sum T = secN I seed q n by rw [HCE.out]; rfl)
      rw [HE.out] at HSL ⊢
      obtain ⟨S, hS⟩ : ∃ S, secN I seed q n = S := ⟨_, rfl⟩
      rw [hS] at HSL ⊢
      have HSS := Lib.hid hS
      clear bd hS
      refine hK.out _ _ (RS.out _ BD.out) (fun _ => ?_)
      clear hK K
      refine wpAnyH_ready (rs := [13]) (by kernel_rfl) (by simp) ?_
      refine AllReadyH.cons rfl (fun K hK => ?_) AllReadyH.nil
      rw [if_pos (by kernel_rfl)]
      have RD := Lib.hid (R0.out.below BD.out R0.out.lt)
      refine wstore_part 24 (.tmp 6) (.tmp 19) (w.heap.size + 1) 0 24 [] (u8s z32) [] (u8s S) rfl (by rw [List.nil_append, List.append_nil]; exact RD.out) rfl (hash_len _ HSL.out) (size32 _ HSL.out) (u8s_one _) rfl rfl ?_
      intro wz a1 a2 a3
      have RZ := Lib.hid (show Blk wz (w.heap.size + 1) 24 (u8s S) by have := a1.out; rwa [List.nil_append, List.append_nil] at this)
      have bz := B0.out.trans (BD.out.mono B0.out.size)
      have BZ := Lib.hid (bz.trans (a2.out.below (by omega) bz.size))
      have sz := range_of_blk ((SEC0.out.below BD.out SEC0.out.lt).but a2.out (by have := RD.out.lt; omega) (by omega))
      refine hK.out _ _ (RT.out _ sz) (fun _ => ?_)
      clear hK K
      refine wpAnyH_done (by kernel_rfl) ?_ _
      go_simp
      go_wp2_with fail
      exact ret_blk (p := 6) (ty := 24) rfl rfl (w.heap.size + 1) 24 _ _ rfl RZ.out Tryz.underlying24 rfl (size32 _ HSL.out) ⟨by rw [HSS.out], BZ.out⟩
    · skip
      go_simp
      have bq := (Below.refl (wa).heap.size wa).alloc (Nat.le_refl _) (.cells #[.int .u8 255] 5)
      have S3 := Lib.hid (Sr.one 255 255 rfl wa 5 (0, 0)); have Cb := Lib.hid (Ca.out.trans (bq.mono Ca.out.size))
      have S1' := Lib.hid (S1.out.below bq); clear S1; have S1 := S1'; clear S1'
      obtain ⟨g7, hg7⟩ : ∃ g, (wa).heap.size = g := ⟨_, rfl⟩
      rw [hg7] at S3 ⊢
      clear bq hg7
      refine hK.out _ _ (RS.out _ Cb.out) (fun _ => ?_)
      clear hK K
      refine wpAnyH_ready (rs := [6]) (by kernel_rfl) (by simp) ?_
      refine AllReadyH.cons rfl (fun K hK => ?_) AllReadyH.nil
      go_simp
      refine (refnum_t n 2 _ (by decide) (by decide)).mono ?_
      rintro e wc' ⟨v, rfl, f1⟩
      obtain ⟨D, d, rfl, hd, s2, bq⟩ := fresh_op f1
      rw [beN_length] at hd ⊢
      have S2 := Lib.hid s2; have Cc := Lib.hid (Cb.out.trans (bq.mono Cb.out.size))
      have S1' := Lib.hid (S1.out.below bq)
      have S3' := Lib.hid (S3.out.below bq); clear S3; have S3 := S3'; clear S3'
      clear f1 hd s2 bq S1
      have S1 := S1'
      clear S1'
      refine hK.out _ _ (RS.out _ Cc.out) (fun _ => ?_)
      clear hK K
      refine wpAnyH_ready (rs := [10]) (by kernel_rfl) (by simp) ?_
      refine AllReadyH.cons rfl (fun K hK => ?_) AllReadyH.nil
      go_simp
      have bq := (Below.refl (wc').heap.size wc').alloc (Nat.le_refl _) (.cells (partsV [⟨A, a, frontN I q⟩, ⟨D, d, beN n 2⟩, ⟨some ⟨g7, 0, none⟩, 1, [255]⟩, ⟨some ⟨w.heap.size, 16, none⟩, 32, seed⟩]).toArray 27)
      have B9 := Lib.hid (Cc.out.trans (bq.mono Cc.out.size))
      have SEC9 := Lib.hid (SEC0.out.below B9.out SEC0.out.lt)
      have SX := Lib.hid (show ∀ x ∈ ([⟨A, a, frontN I q⟩, ⟨D, d, beN n 2⟩, ⟨some ⟨g7, 0, none⟩, 1, [255]⟩, ⟨some ⟨w.heap.size, 16, none⟩, 32, seed⟩] : List Part), Sr ((wc').alloc (.cells (partsV [⟨A, a, frontN I q⟩, ⟨D, d, beN n 2⟩, ⟨some ⟨g7, 0, none⟩, 1, [255]⟩, ⟨some ⟨w.heap.size, 16, none⟩, 32, seed⟩]).toArray 27)) x.A x.X by
        intro y hy
        simp only [List.mem_cons, List.not_mem_nil, or_false] at hy
        rcases hy with rfl | rfl | rfl | rfl
        · exact S1.out.below bq
        · exact S2.out.below bq
        · exact S3.out.below bq
        · intro _; refine ⟨w.heap.size, 16, rfl, SEC9.out.lt, fun q' hq' => ?_⟩; rw [SEC9.out.cell, u8s_app, List.getElem?_append_right (by rw [u8s_length, HI.out]; omega), u8s_length, HI.out, show 16 + q' - 16 = q' from by omega, u8s_get _ _ hq'])
      have HPV := Lib.hid (show partsV [⟨A, a, frontN I q⟩, ⟨D, d, beN n 2⟩, ⟨some ⟨g7, 0, none⟩, 1, [255]⟩, ⟨some ⟨w.heap.size, 16, none⟩, 32, seed⟩] = [.slice A 20 a, .slice D 2 d, .slice (some ⟨g7, 0, none⟩) 1 1, .slice (some ⟨w.heap.size, 16, none⟩) 32 32] by simp only [partsV, List.map_cons, List.map_nil, frontN_length I q HI.out, beN_length, HS.out]; rfl)
      have BKP := Lib.hid (blk_at (w := wc') (g := wc'.heap.size) (by simp) (.cells (partsV [⟨A, a, frontN I q⟩, ⟨D, d, beN n 2⟩, ⟨some ⟨g7, 0, none⟩, 1, [255]⟩, ⟨some ⟨w.heap.size, 16, none⟩, 32, seed⟩]).toArray 27) 27 (partsV [⟨A, a, frontN I q⟩, ⟨D, d, beN n 2⟩, ⟨some ⟨g7, 0, none⟩, 1, [255]⟩, ⟨some ⟨w.heap.size, 16, none⟩, 32, seed⟩]))
      rw [HPV.out] at B9 SX BKP
      clear bq
      refine hK.out _ _ (RS.out _ B9.out) (fun _ => ?_)
      clear hK K
      refine wpAnyH_ready (rs := [11]) (by kernel_rfl) (by simp) ?_
      refine AllReadyH.cons rfl (fun K hK => ?_) AllReadyH.nil
      go_simp
      refine (cat_t [⟨A, a, frontN I q⟩, ⟨D, d, beN n 2⟩, ⟨some ⟨g7, 0, none⟩, 1, [255]⟩, ⟨some ⟨w.heap.size, 16, none⟩, 32, seed⟩] (wc'.heap.size) 4 4 27 _ rfl ?_ ?_ ?_ (by decide)).mono ?_
      · rw [HPV.out]; exact BKP.out
      · exact SX.out
      · rw [cat_sec, List.length_append, List.length_append, headN_length I q _ HI.out, HS.out]; simp
      rintro e wc ⟨vc, rfl, fc⟩
      obtain ⟨Ac, cc, rfl, hcc, src, bc⟩ := fresh_op fc
      have BC := Lib.hid (B9.out.trans (bc.mono B9.out.size)); have SC := Lib.hid src
      clear fc hcc src bc
      have HCE := Lib.hid (cat_sec I seed q n A D (some ⟨g7, 0, none⟩) (some ⟨w.heap.size, 16, none⟩) a d 1 32)
      obtain ⟨T, hT⟩ : ∃ T, catX [⟨A, a, frontN I q⟩, ⟨D, d, beN n 2⟩, ⟨some ⟨g7, 0, none⟩, 1, [255]⟩, ⟨some ⟨w.heap.size, 16, none⟩, 32, seed⟩] = T := ⟨_, rfl⟩
      rw [hT] at SC HCE ⊢
      clear hT
      have HTB := Lib.hid (show Bytes T ∧ T.length ≤ 200 by rw [HCE.out]; exact ⟨app_bytes (app_bytes (headN_bytes _ _ _ HIB.out) (sl_bytes (by decide))) HSB.out, by rw [List.length_append, List.length_append, headN_length I q _ HI.out, HS.out]; simp⟩)
      refine hK.out _ _ (RS.out _ BC.out) (fun _ => ?_)
      clear hK K
      refine wpAnyH_ready (rs := [12]) (by kernel_rfl) (by simp) ?_
      refine AllReadyH.cons rfl (fun K hK => ?_) AllReadyH.nil
      go_simp
      refine (refsum_t T Ac T.length cc wc rfl SC.out HTB.out.1 (by have := HTB.out.2; omega)).mono ?_
      rintro e wd ⟨rfl, bd⟩
      have BD := Lib.hid (BC.out.trans (bd.mono BC.out.size))
      have HSL := Lib.hid (show (sum T).length = 32 from rfl)
      have HE := Lib.hid (show sum T = secN I seed q n by rw [HCE.out]; rfl)
      rw [HE.out] at HSL ⊢
      obtain ⟨S, hS⟩ : ∃ S, secN I seed q n = S := ⟨_, rfl⟩
      rw [hS] at HSL ⊢
      have HSS := Lib.hid hS
      clear bd hS
      refine hK.out _ _ (RS.out _ BD.out) (fun _ => ?_)
      clear hK K
      refine wpAnyH_ready (rs := [13]) (by kernel_rfl) (by simp) ?_
      refine AllReadyH.cons rfl (fun K hK => ?_) AllReadyH.nil
      rw [if_pos (by kernel_rfl)]
      have RD := Lib.hid (R0.out.below BD.out R0.out.lt)
      refine wstore_part 24 (.tmp 6) (.tmp 19) (w.heap.size + 1) 0 24 [] (u8s z32) [] (u8s S) rfl (by rw [List.nil_append, List.append_nil]; exact RD.out) rfl (hash_len _ HSL.out) (size32 _ HSL.out) (u8s_one _) rfl rfl ?_
      intro wz a1 a2 a3
      have RZ := Lib.hid (show Blk wz (w.heap.size + 1) 24 (u8s S) by have := a1.out; rwa [List.nil_append, List.append_nil] at this)
      have bz := B0.out.trans (BD.out.mono B0.out.size)
      have BZ := Lib.hid (bz.trans (a2.out.below (by omega) bz.size))
      have sz := range_of_blk ((SEC0.out.below BD.out SEC0.out.lt).but a2.out (by have := RD.out.lt; omega) (by omega))
      refine hK.out _ _ (RT.out _ sz) (fun _ => ?_)
      clear hK K
      refine wpAnyH_done (by kernel_rfl) ?_ _
      go_simp
      go_wp2_with fail
      exact ret_blk (p := 6) (ty := 24) rfl rfl (w.heap.size + 1) 24 _ _ rfl RZ.out Tryz.underlying24 rfl (size32 _ HSL.out) ⟨by rw [HSS.out], BZ.out⟩
  · skip
    go_simp
    have bq := (Below.refl (V).heap.size V).alloc (Nat.le_refl _) (.cells #[.int .u8 255] 5)
    have S3 := Lib.hid (Sr.one 255 255 rfl V 5 (0, 0)); have Ca := Lib.hid (C0.out.trans (bq.mono C0.out.size))
    skip
    obtain ⟨g7, hg7⟩ : ∃ g, (V).heap.size = g := ⟨_, rfl⟩
    rw [hg7] at S3 ⊢
    clear bq hg7
    refine hK.out _ _ (RS.out _ Ca.out) (fun _ => ?_)
    clear hK K
    refine wpAnyH_ready (rs := [3]) (by kernel_rfl) (by simp) ?_
    refine AllReadyH.cons rfl (fun K hK => ?_) AllReadyH.nil
    go_simp
    refine (front_u I qi q _ HI.out HQ.out).mono ?_
    rintro e wb ⟨v, rfl, f1⟩
    obtain ⟨A, a, rfl, ha, s1, bq⟩ := fresh_op f1
    rw [frontN_length I q HI.out] at ha ⊢
    have S1 := Lib.hid s1; have Cb := Lib.hid (Ca.out.trans (bq.mono Ca.out.size))
    have S3' := Lib.hid (S3.out.below bq); clear S3; have S3 := S3'; clear S3'
    clear f1 ha s1 bq
    refine hK.out _ _ (RS.out _ Cb.out) (fun _ => ?_)
    clear hK K
    refine wpAnyH_ready (rs := [6]) (by kernel_rfl) (by simp) ?_
    refine AllReadyH.cons rfl (fun K hK => ?_) AllReadyH.nil
    go_simp
    refine (refnum_t n 2 _ (by decide) (by decide)).mono ?_
    rintro e wc' ⟨v, rfl, f1⟩
    obtain ⟨D, d, rfl, hd, s2, bq⟩ := fresh_op f1
    rw [beN_length] at hd ⊢
    have S2 := Lib.hid s2; have Cc := Lib.hid (Cb.out.trans (bq.mono Cb.out.size))
    have S1' := Lib.hid (S1.out.below bq)
    have S3' := Lib.hid (S3.out.below bq); clear S3; have S3 := S3'; clear S3'
    clear f1 hd s2 bq S1
    have S1 := S1'
    clear S1'
    refine hK.out _ _ (RS.out _ Cc.out) (fun _ => ?_)
    clear hK K
    refine wpAnyH_ready (rs := [10]) (by kernel_rfl) (by simp) ?_
    refine AllReadyH.cons rfl (fun K hK => ?_) AllReadyH.nil
    go_simp
    have bq := (Below.refl (wc').heap.size wc').alloc (Nat.le_refl _) (.cells (partsV [⟨A, a, frontN I q⟩, ⟨D, d, beN n 2⟩, ⟨some ⟨g7, 0, none⟩, 1, [255]⟩, ⟨some ⟨w.heap.size, 16, none⟩, 32, seed⟩]).toArray 27)
    have B9 := Lib.hid (Cc.out.trans (bq.mono Cc.out.size))
    have SEC9 := Lib.hid (SEC0.out.below B9.out SEC0.out.lt)
    have SX := Lib.hid (show ∀ x ∈ ([⟨A, a, frontN I q⟩, ⟨D, d, beN n 2⟩, ⟨some ⟨g7, 0, none⟩, 1, [255]⟩, ⟨some ⟨w.heap.size, 16, none⟩, 32, seed⟩] : List Part), Sr ((wc').alloc (.cells (partsV [⟨A, a, frontN I q⟩, ⟨D, d, beN n 2⟩, ⟨some ⟨g7, 0, none⟩, 1, [255]⟩, ⟨some ⟨w.heap.size, 16, none⟩, 32, seed⟩]).toArray 27)) x.A x.X by
      intro y hy
      simp only [List.mem_cons, List.not_mem_nil, or_false] at hy
      rcases hy with rfl | rfl | rfl | rfl
      · exact S1.out.below bq
      · exact S2.out.below bq
      · exact S3.out.below bq
      · intro _; refine ⟨w.heap.size, 16, rfl, SEC9.out.lt, fun q' hq' => ?_⟩; rw [SEC9.out.cell, u8s_app, List.getElem?_append_right (by rw [u8s_length, HI.out]; omega), u8s_length, HI.out, show 16 + q' - 16 = q' from by omega, u8s_get _ _ hq'])
    have HPV := Lib.hid (show partsV [⟨A, a, frontN I q⟩, ⟨D, d, beN n 2⟩, ⟨some ⟨g7, 0, none⟩, 1, [255]⟩, ⟨some ⟨w.heap.size, 16, none⟩, 32, seed⟩] = [.slice A 20 a, .slice D 2 d, .slice (some ⟨g7, 0, none⟩) 1 1, .slice (some ⟨w.heap.size, 16, none⟩) 32 32] by simp only [partsV, List.map_cons, List.map_nil, frontN_length I q HI.out, beN_length, HS.out]; rfl)
    have BKP := Lib.hid (blk_at (w := wc') (g := wc'.heap.size) (by simp) (.cells (partsV [⟨A, a, frontN I q⟩, ⟨D, d, beN n 2⟩, ⟨some ⟨g7, 0, none⟩, 1, [255]⟩, ⟨some ⟨w.heap.size, 16, none⟩, 32, seed⟩]).toArray 27) 27 (partsV [⟨A, a, frontN I q⟩, ⟨D, d, beN n 2⟩, ⟨some ⟨g7, 0, none⟩, 1, [255]⟩, ⟨some ⟨w.heap.size, 16, none⟩, 32, seed⟩]))
    rw [HPV.out] at B9 SX BKP
    clear bq
    refine hK.out _ _ (RS.out _ B9.out) (fun _ => ?_)
    clear hK K
    refine wpAnyH_ready (rs := [11]) (by kernel_rfl) (by simp) ?_
    refine AllReadyH.cons rfl (fun K hK => ?_) AllReadyH.nil
    go_simp
    refine (cat_t [⟨A, a, frontN I q⟩, ⟨D, d, beN n 2⟩, ⟨some ⟨g7, 0, none⟩, 1, [255]⟩, ⟨some ⟨w.heap.size, 16, none⟩, 32, seed⟩] (wc'.heap.size) 4 4 27 _ rfl ?_ ?_ ?_ (by decide)).mono ?_
    · rw [HPV.out]; exact BKP.out
    · exact SX.out
    · rw [cat_sec, List.length_append, List.length_append, headN_length I q _ HI.out, HS.out]; simp
    rintro e wc ⟨vc, rfl, fc⟩
    obtain ⟨Ac, cc, rfl, hcc, src, bc⟩ := fresh_op fc
    have BC := Lib.hid (B9.out.trans (bc.mono B9.out.size)); have SC := Lib.hid src
    clear fc hcc src bc
    have HCE := Lib.hid (cat_sec I seed q n A D (some ⟨g7, 0, none⟩) (some ⟨w.heap.size, 16, none⟩) a d 1 32)
    obtain ⟨T, hT⟩ : ∃ T, catX [⟨A, a, frontN I q⟩, ⟨D, d, beN n 2⟩, ⟨some ⟨g7, 0, none⟩, 1, [255]⟩, ⟨some ⟨w.heap.size, 16, none⟩, 32, seed⟩] = T := ⟨_, rfl⟩
    rw [hT] at SC HCE ⊢
    clear hT
    have HTB := Lib.hid (show Bytes T ∧ T.length ≤ 200 by rw [HCE.out]; exact ⟨app_bytes (app_bytes (headN_bytes _ _ _ HIB.out) (sl_bytes (by decide))) HSB.out, by rw [List.length_append, List.length_append, headN_length I q _ HI.out, HS.out]; simp⟩)
    refine hK.out _ _ (RS.out _ BC.out) (fun _ => ?_)
    clear hK K
    refine wpAnyH_ready (rs := [12]) (by kernel_rfl) (by simp) ?_
    refine AllReadyH.cons rfl (fun K hK => ?_) AllReadyH.nil
    go_simp
    refine (refsum_t T Ac T.length cc wc rfl SC.out HTB.out.1 (by have := HTB.out.2; omega)).mono ?_
    rintro e wd ⟨rfl, bd⟩
    have BD := Lib.hid (BC.out.trans (bd.mono BC.out.size))
    have HSL := Lib.hid (show (sum T).length = 32 from rfl)
    have HE := Lib.hid (show sum T = secN I seed q n by rw [HCE.out]; rfl)
    rw [HE.out] at HSL ⊢
    obtain ⟨S, hS⟩ : ∃ S, secN I seed q n = S := ⟨_, rfl⟩
    rw [hS] at HSL ⊢
    have HSS := Lib.hid hS
    clear bd hS
    refine hK.out _ _ (RS.out _ BD.out) (fun _ => ?_)
    clear hK K
    refine wpAnyH_ready (rs := [13]) (by kernel_rfl) (by simp) ?_
    refine AllReadyH.cons rfl (fun K hK => ?_) AllReadyH.nil
    rw [if_pos (by kernel_rfl)]
    have RD := Lib.hid (R0.out.below BD.out R0.out.lt)
    refine wstore_part 24 (.tmp 6) (.tmp 19) (w.heap.size + 1) 0 24 [] (u8s z32) [] (u8s S) rfl (by rw [List.nil_append, List.append_nil]; exact RD.out) rfl (hash_len _ HSL.out) (size32 _ HSL.out) (u8s_one _) rfl rfl ?_
    intro wz a1 a2 a3
    have RZ := Lib.hid (show Blk wz (w.heap.size + 1) 24 (u8s S) by have := a1.out; rwa [List.nil_append, List.append_nil] at this)
    have bz := B0.out.trans (BD.out.mono B0.out.size)
    have BZ := Lib.hid (bz.trans (a2.out.below (by omega) bz.size))
    have sz := range_of_blk ((SEC0.out.below BD.out SEC0.out.lt).but a2.out (by have := RD.out.lt; omega) (by omega))
    refine hK.out _ _ (RT.out _ sz) (fun _ => ?_)
    clear hK K
    refine wpAnyH_done (by kernel_rfl) ?_ _
    go_simp
    go_wp2_with fail
    exact ret_blk (p := 6) (ty := 24) rfl rfl (w.heap.size + 1) 24 _ _ rfl RZ.out Tryz.underlying24 rfl (size32 _ HSL.out) ⟨by rw [HSS.out], BZ.out⟩
end Go.Proofs.YtohgggblnnokeaaGreatDoor
