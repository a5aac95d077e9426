/-
  THE REFERENCE OF CHAPTER 4: a tree's Public.
-/
import Derived.Test.YtigbnjgmdgkgjaaGreatDoorRgN
import Derived.Test.YtigbnjgmdgkgjaaGreatDoorRgB
namespace Go.Proofs.YtigbnjgmdgkgjaaGreatDoor
open Go Go.RowKit Sh

theorem cat_four (A B C D : List Nat) (p q r s : Option Addr) (a b c d : Nat) : catX [⟨p, a, A⟩, ⟨q, b, B⟩, ⟨r, c, C⟩, ⟨s, d, D⟩] = A ++ B ++ C ++ D := by simp [catX]
theorem rtC_v {I seed : List Nat} {v : Nat} {L : List Nat} {w : World} {g : Nat} (h : Blk w g 41 (rtC I seed v L)) (hI : I.length = 16) (hs : seed.length = 32) : w.cell? ⟨g, 48, none⟩ = some (.int .i64 (v : Int)) := by
  rw [h.cell]
  unfold rtC
  rw [List.getElem?_append_right (by rw [u8s_length, List.length_append, hI, hs]; decide), u8s_length, List.length_append, hI, hs]
  rfl
theorem rtC_I {I seed : List Nat} {v : Nat} {L : List Nat} {w : World} {g : Nat} (h : Blk w g 41 (rtC I seed v L)) : w.rangeAt g 0 (u8s I) := fun j x hx => by
  have hj := (List.getElem?_eq_some_iff.1 hx).1
  rw [Nat.zero_add, h.cell]
  unfold rtC
  rw [List.getElem?_append_left (by rw [u8s_app, List.length_append]; omega), u8s_app, List.getElem?_append_left hj, hx]
set_option maxRecDepth 100000 in
set_option maxHeartbeats 2000000 in
theorem reftpub_t (I seed : List Nat) (v i g : Nat) (w : World) (hI : I.length = 16) (hs : seed.length = 32) (hi : i < 4) (hv : v = (kd i).w) (hT : Blk w g 41 (rtC I seed v (nod I seed i 63))) :
    Calls Tryz.prog 11 #[.pointer (some ⟨g, 0, none⟩)] w fun e w' => ∃ u, e = .returned u ∧ Fresh 5 w w' u (lpubN I seed i) := by
  have HI := Lib.hid hI; have HS := Lib.hid hs
  have HLP := Lib.hid (show lpubN I seed i = beN 5 4 ++ beN (kd i).code 4 ++ I ++ tnode I seed i 1 from rfl)
  have CO := Lib.hid (fun W => show Calls Tryz.prog 40 #[.int .i64 (v : Int)] W fun e w' => e = .returned (.int .u64 ((kd i).code : Int)) ∧ W = w' by rw [hv]; exact refcode_t i hi W)
  have HK := Lib.hid (tnode_length I seed i 1 (by decide))
  have RT := Lib.hid (fun X (h : Below w.heap.size w X) => show Blk X g 41 (rtC I seed v (nod I seed i 63)) from hT.below h hT.lt)
  have NL := Lib.hid (nod_length I seed i 63 (by decide))
  have RK := Lib.hid (fun X (h : Below w.heap.size w X) => show Sr X (some ⟨g, 81, none⟩) (tnode I seed i 1) from Sr.of_range (rt_node (RT.out X h) HI.out HS.out 1 (by rw [NL.out]; decide)) (RT.out X h).lt)
  have RI := Lib.hid (fun X (h : Below w.heap.size w X) => show Sr X (some ⟨g, 0, none⟩) I from Sr.of_range (rtC_I (RT.out X h)) (RT.out X h).lt)
  have RV := Lib.hid (fun X (h : Below w.heap.size w X) => rtC_v (RT.out X h) HI.out HS.out)
  obtain ⟨Z, hK0⟩ : ∃ x, tnode I seed i 1 = x := ⟨_, rfl⟩
  obtain ⟨co, hco⟩ : ∃ x, (kd i).code = x := ⟨_, rfl⟩
  rw [hK0, hco] at HLP
  rw [hK0] at HK RK
  rw [hco] at CO
  clear hI hs hv hT hK0 hco RT NL
  go_enter Tryz.func11, Tryz.ntmps11
  go_upto_region 1 with (fail)
  have B0 := Lib.hid ((Below.refl w.heap.size w).drew)
  refine wp_region_held (S := fun X => X.cell? ⟨g, 48, none⟩ = some (.int .i64 (v : Int))) (by kernel_rfl) ?_
  change wpAnyH _ _ _ _ _ _ _ _ w.drew
  obtain ⟨V, hV⟩ : ∃ V, w.drew = V := ⟨_, rfl⟩
  rw [hV] at B0 ⊢
  clear hV
  have r1 := RV.out V B0.out
  refine wpAnyH_take (i := 1) (v := ?_) rfl (by kernel_rfl) (by kernel_rfl) (by kernel_rfl) (fun _ _ _ h => h) (Or.inl ⟨by kernel_rfl, ?_⟩) r1 ?_
  rotate_left 1
  · (intro w hS; clear hS; go_simp; try (with_reducible rfl))
  refine wpAnyH_take (i := 2) (v := ?_) rfl (by kernel_rfl) (by kernel_rfl) (by kernel_rfl) (fun _ _ _ h => h) (Or.inl ⟨by kernel_rfl, ?_⟩) r1 ?_
  rotate_left 1
  · (intro w hS; clear hS; go_simp; try (with_reducible rfl))
  refine wpAnyH_take (i := 3) (v := ?_) rfl (by kernel_rfl) (by kernel_rfl) (by kernel_rfl) (fun _ _ _ h => h) (Or.inl ⟨by kernel_rfl, ?_⟩) r1 ?_
  rotate_left 1
  · (intro w hS; clear hS; go_simp; try (with_reducible rfl))
  refine wpAnyH_take (i := 4) (v := ?_) rfl (by kernel_rfl) (by kernel_rfl) (by kernel_rfl) (fun _ _ _ h => h) (Or.inl ⟨by kernel_rfl, ?_⟩) r1 ?_
  rotate_left 1
  · (intro w hS; have hs := hS; clear hS; go_simp; try (with_reducible rfl))
  refine wpAnyH_take (i := 7) (v := ?_) rfl (by kernel_rfl) (by kernel_rfl) (by kernel_rfl) (fun _ _ _ h => h) (Or.inl ⟨by kernel_rfl, ?_⟩) r1 ?_
  rotate_left 1
  · (intro w hS; clear hS; go_simp; try (with_reducible rfl))
  refine wpAnyH_take (i := 8) (v := ?_) rfl (by kernel_rfl) (by kernel_rfl) (by kernel_rfl) (fun _ _ _ h => h) (Or.inl ⟨by kernel_rfl, ?_⟩) r1 ?_
  rotate_left 1
  · (intro w hS; clear hS; go_simp; try (with_reducible rfl))
  refine wpAnyH_take (i := 9) (v := ?_) rfl (by kernel_rfl) (by kernel_rfl) (by kernel_rfl) (fun _ _ _ h => h) (Or.inl ⟨by kernel_rfl, ?_⟩) r1 ?_
  rotate_left 1
  · (intro w hS; clear hS; go_simp; try (with_reducible rfl))
  refine wpAnyH_take (i := 10) (v := ?_) rfl (by kernel_rfl) (by kernel_rfl) (by kernel_rfl) (fun _ _ _ h => h) (Or.inl ⟨by kernel_rfl, ?_⟩) r1 ?_
  rotate_left 1
  · (intro w hS; clear hS; go_simp; try (with_reducible rfl))
  refine wpAnyH_take (i := 11) (v := ?_) rfl (by kernel_rfl) (by kernel_rfl) (by kernel_rfl) (fun _ _ _ h => h) (Or.inl ⟨by kernel_rfl, ?_⟩) r1 ?_
  rotate_left 1
  · (intro w hS; clear hS; go_simp; try (with_reducible rfl))
  refine wpAnyH_take (i := 12) (v := ?_) rfl (by kernel_rfl) (by kernel_rfl) (by kernel_rfl) (fun _ _ _ h => h) (Or.inl ⟨by kernel_rfl, ?_⟩) r1 ?_
  rotate_left 1
  · (intro w hS; clear hS; go_simp; try (with_reducible rfl))
  refine wpAnyH_take (i := 13) (v := ?_) rfl (by kernel_rfl) (by kernel_rfl) (by kernel_rfl) (fun _ _ _ h => h) (Or.inl ⟨by kernel_rfl, ?_⟩) r1 ?_
  rotate_left 1
  · (intro w hS; clear hS; go_simp; try (with_reducible rfl))
  refine wpAnyH_take (i := 14) (v := ?_) rfl (by kernel_rfl) (by kernel_rfl) (by kernel_rfl) (fun _ _ _ h => h) (Or.inl ⟨by kernel_rfl, ?_⟩) r1 ?_
  rotate_left 1
  · (intro w hS; clear hS; go_simp; try (with_reducible rfl))
  refine wpAnyH_take (i := 15) (v := ?_) rfl (by kernel_rfl) (by kernel_rfl) (by kernel_rfl) (fun _ _ _ h => h) (Or.inl ⟨by kernel_rfl, ?_⟩) r1 ?_
  rotate_left 1
  · (intro w hS; clear hS; go_simp; try (with_reducible rfl))
  refine wpAnyH_take (i := 16) (v := ?_) rfl (by kernel_rfl) (by kernel_rfl) (by kernel_rfl) (fun _ _ _ h => h) (Or.inl ⟨by kernel_rfl, ?_⟩) r1 ?_
  rotate_left 1
  · (intro w hS; clear hS; go_simp; try (with_reducible rfl))
  clear r1
  refine wpAnyH_ready (rs := [0]) (by kernel_rfl) (by simp) ?_
  refine AllReadyH.cons rfl (fun K hK => ?_) AllReadyH.nil
  go_simp
  refine (refnum_t 5 4 V (by decide) (by decide)).mono ?_
  rintro e w1 ⟨u, rfl, f1⟩
  obtain ⟨A1, c1, rfl, _, s1, b1⟩ := fresh_op f1
  rw [beN_length]
  have B1 := Lib.hid (B0.out.trans (b1.mono B0.out.size)); have S1 := Lib.hid s1
  clear f1 s1 b1 B0
  refine hK.out _ _ (RV.out _ B1.out) (fun _ => ?_)
  clear hK K
  refine wpAnyH_ready (rs := [5]) (by kernel_rfl) (by simp) ?_
  refine AllReadyH.cons rfl (fun K hK => ?_) AllReadyH.nil
  go_simp
  refine (CO.out w1).mono ?_
  rintro e w2 ⟨rfl, rfl⟩
  refine hK.out _ _ (RV.out _ B1.out) (fun _ => ?_)
  clear hK K
  refine wpAnyH_ready (rs := [6]) (by kernel_rfl) (by simp) ?_
  refine AllReadyH.cons rfl (fun K hK => ?_) AllReadyH.nil
  go_simp
  refine (refnum_t co 4 w1 (by decide) (by decide)).mono ?_
  rintro e w3 ⟨u, rfl, f3⟩
  obtain ⟨A3, c3, rfl, _, s3, b3⟩ := fresh_op f3
  rw [beN_length]
  have B3 := Lib.hid (B1.out.trans (b3.mono B1.out.size)); have S3 := Lib.hid s3; have T1 := Lib.hid (S1.out.below b3)
  clear f3 s3 b3 B1 S1
  refine hK.out _ _ (RV.out _ B3.out) (fun _ => ?_)
  clear hK K
  have HPV := Lib.hid (show partsV [⟨A1, c1, beN 5 4⟩, ⟨A3, c3, beN co 4⟩, ⟨some ⟨g, 0, none⟩, 16, I⟩, ⟨some ⟨g, 81, none⟩, 32, Z⟩] = [.slice A1 4 c1, .slice A3 4 c3, .slice (some ⟨g, 0, none⟩) 16 16, .slice (some ⟨g, 81, none⟩) 32 32] by simp only [partsV, List.map_cons, List.map_nil, beN_length, HI.out, HK.out])
  have bq := (Below.refl w3.heap.size w3).alloc (Nat.le_refl _) (.cells #[.slice A1 4 c1, .slice A3 4 c3, .slice (some ⟨g, 0, none⟩) 16 16, .slice (some ⟨g, 81, none⟩) 32 32] 27)
  have BKP := Lib.hid (Blk.new w3 27 [.slice A1 4 c1, .slice A3 4 c3, .slice (some ⟨g, 0, none⟩) 16 16, .slice (some ⟨g, 81, none⟩) 32 32])
  have B4 := Lib.hid (B3.out.trans (bq.mono B3.out.size))
  have SX := Lib.hid (show ∀ x ∈ ([⟨A1, c1, beN 5 4⟩, ⟨A3, c3, beN co 4⟩, ⟨some ⟨g, 0, none⟩, 16, I⟩, ⟨some ⟨g, 81, none⟩, 32, Z⟩] : List Part), Sr (w3.alloc (.cells #[.slice A1 4 c1, .slice A3 4 c3, .slice (some ⟨g, 0, none⟩) 16 16, .slice (some ⟨g, 81, none⟩) 32 32] 27)) x.A x.X by
    intro y hy
    simp only [List.mem_cons, List.not_mem_nil, or_false] at hy
    rcases hy with rfl | rfl | rfl | rfl
    · exact T1.out.below bq
    · exact S3.out.below bq
    · exact RI.out _ B4.out
    · exact RK.out _ B4.out)
  clear bq
  refine wpAnyH_ready (rs := [17]) (by kernel_rfl) (by simp) ?_
  refine AllReadyH.cons rfl (fun K hK => ?_) AllReadyH.nil
  go_simp
  refine hK.out _ _ (RV.out _ B4.out) (fun _ => ?_)
  clear hK K
  refine wpAnyH_ready (rs := [18]) (by kernel_rfl) (by simp) ?_
  refine AllReadyH.cons rfl (fun K hK => ?_) AllReadyH.nil
  go_simp
  refine (cat_t [⟨A1, c1, beN 5 4⟩, ⟨A3, c3, beN co 4⟩, ⟨some ⟨g, 0, none⟩, 16, I⟩, ⟨some ⟨g, 81, none⟩, 32, Z⟩] w3.heap.size 4 4 27 _ rfl ?_ ?_ ?_ (by decide)).mono ?_
  · rw [HPV.out]; exact BKP.out
  · exact SX.out
  · rw [cat_four]; simp only [List.length_append, beN_length, HI.out, HK.out]; decide
  rintro e wc ⟨vc, rfl, fc⟩
  rw [cat_four, ← HLP.out] at fc
  have FC := Lib.hid fc
  have BC := Lib.hid (B4.out.trans (fc.2.mono B4.out.size))
  clear fc
  refine hK.out _ _ (RV.out _ BC.out) (fun _ => ?_)
  clear hK K
  refine wpAnyH_take (i := 19) (v := ?_) rfl (by kernel_rfl) (by kernel_rfl) (by kernel_rfl) (fun _ _ _ h => h) (Or.inl ⟨by kernel_rfl, ?_⟩) (RV.out _ BC.out) ?_
  rotate_left 1
  · (intro w hS; clear hS; go_simp; try (with_reducible rfl))
  refine wpAnyH_done (by kernel_rfl) ?_ _
  go_simp
  go_wp2_with fail
  go_ret
  exact ⟨vc, rfl, own_base FC.out.1 (fun k hk => Nat.le_trans B4.out.size (FC.out.1.lt k hk).1), BC.out⟩
end Go.Proofs.YtigbnjgmdgkgjaaGreatDoor
