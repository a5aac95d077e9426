/-
  THE REFERENCE OF CHAPTER 4: a tree's Sign.
-/
import Derived.Test.YtigbnjgmdgkgjaaGreatDoorRgP
namespace Go.Proofs.YtigbnjgmdgkgjaaGreatDoor
open Go Go.RowKit Sh

theorem cat_threeS (A B C : List Nat) (p q r : Option Addr) (a b c : Nat) : catX [⟨p, a, A⟩, ⟨q, b, B⟩, ⟨r, c, C⟩] = A ++ B ++ C := by simp [catX]
theorem rtC_sec {I seed : List Nat} {v : Nat} {L : List Nat} {w : World} {g : Nat} (h : Blk w g 41 (rtC I seed v L)) : w.rangeAt g 0 (u8s (I ++ seed)) := fun j x hx => by
  have hj := (List.getElem?_eq_some_iff.1 hx).1
  rw [Nat.zero_add, h.cell]
  unfold rtC
  rw [List.getElem?_append_left hj, hx]
/-- The row so far. -/
structure PS (w0 W : World) (v : Value) (xs : List Nat) : Prop where
  own : W.ownsRow w0.heap.size 5 1 v xs.length (u8s xs)
  bel : Below w0.heap.size w0 W
theorem PS.grow {w0 W W' : World} {v v' : Value} {xs ys : List Nat} {m : Nat} (h : PS w0 W v xs) (a1 : W'.ownsRow w0.heap.size 5 1 v' (xs.length + m) (u8s (xs ++ ys))) (hm : ys.length = m) (a2 : W.grownBy W' v.ownBlock) : PS w0 W' v' (xs ++ ys) :=
  ⟨by rw [List.length_append, hm]; exact a1, h.bel.grown a2 h.bel.size (fun k e => (h.own.lt k e).1)⟩
set_option maxRecDepth 100000 in
set_option maxHeartbeats 2000000 in
theorem reftsign_t (I seed xs : List Nat) (v i g q : Nat) (P : Option Addr) (m cc : Nat) (w : World) (hI : I.length = 16) (hIb : Bytes I) (hs : seed.length = 32) (hsb : Bytes seed) (hi : i < 4) (hv : v = (kd i).w) (hq : q < 32) (hx : xs.length = m) (hp : Sr w P xs) (hxb : Bytes xs) (hml : m ≤ 100000) (hT : Blk w g 41 (rtC I seed v (nod I seed i 63))) :
    Calls Tryz.prog 14 #[.pointer (some ⟨g, 0, none⟩), .int .i64 (q : Int), .slice P m cc] w fun e w' => ∃ u, e = .returned u ∧ Fresh 5 w w' u (lsigN I seed i q xs) := by
  have HI := Lib.hid hI; have HS := Lib.hid hs
  have HIS := Lib.hid (show (I ++ seed).length = 48 by rw [List.length_append, hI, hs])
  have RT := Lib.hid (fun X (h : Below w.heap.size w X) => show Blk X g 41 (rtC I seed v (nod I seed i 63)) from hT.below h hT.lt)
  have NL := Lib.hid (nod_length I seed i 63 (by decide))
  have RK := Lib.hid (fun X r (hr : r ≤ 63) (h : Below w.heap.size w X) => show Sr X (some ⟨g, 49 + 32 * r, none⟩) (tnode I seed i r) from Sr.of_range (rt_node (RT.out X h) HI.out HS.out r (by rw [NL.out]; omega)) (RT.out X h).lt)
  have RS := Lib.hid (fun X (h : Below w.heap.size w X) => show X.rangeAt g 0 (u8s (I ++ seed)) ∧ X.cell? ⟨g, 48, none⟩ = some (.int .i64 (v : Int)) from ⟨rtC_sec (RT.out X h), rtC_v (RT.out X h) HI.out HS.out⟩)
  have SG := Lib.hid (fun W (h : Below w.heap.size w W) => show Calls Tryz.prog 42 #[.agg (u8s (I ++ seed)).toArray, .int .i64 (q : Int), .int .i64 (v : Int), .slice P m cc] W fun e w' => ∃ u, e = .returned u ∧ Fresh 5 W w' u (sigN I seed q i xs) by rw [hv]; exact refsign_t I seed xs q i P m cc W hI hIb hs hsb (by omega) hi hx (hp.below h) hxb hml)
  have HL := Lib.hid (fun r (hr : r ≤ 63) => tnode_length I seed i r hr)
  have SGL := Lib.hid (sigN_length I seed q i xs)
  have HLS := Lib.hid (show lsigN I seed i q xs = beN q 4 ++ sigN I seed q i xs ++ beN 5 4 ++ pathN I seed i (32 + q) 5 from rfl)
  have PL := Lib.hid (fun j hj => pathN_length I seed i q hq j hj)
  have PSS := Lib.hid (fun j => show pathN I seed i (32 + q) (j + 1) = pathN I seed i (32 + q) j ++ tnode I seed i (((32 + q) / 2 ^ j) ^^^ 1) from rfl)
  have P0 := Lib.hid (show pathN I seed i (32 + q) 0 = [] from rfl)
  have hp9 := kd_p i hi
  obtain ⟨sg, hsg⟩ : ∃ x, sigN I seed q i xs = x := ⟨_, rfl⟩
  rw [hsg] at SG SGL HLS
  obtain ⟨T, hTn⟩ : ∃ f : Nat → List Nat, ∀ r, tnode I seed i r = f r := ⟨fun r => tnode I seed i r, fun _ => rfl⟩
  obtain ⟨PT, hPT⟩ : ∃ f : Nat → List Nat, ∀ j, pathN I seed i (32 + q) j = f j := ⟨fun j => pathN I seed i (32 + q) j, fun _ => rfl⟩
  simp only [hTn, hPT] at HL PSS PL HLS RK P0
  have SGB := Lib.hid (show sg.length ≤ 10000 by rw [SGL.out]; omega)
  have uq : IntKind.u64.wrap (q : Int) = (q : Int) := IntWalk.u64_in _ (by omega)
  have q2 : (q : Int) < 32 := by omega
  clear hI hIb hs hsb hi hv hx hp hxb hml hT hsg hTn hPT hp9 SGL NL RT
  go_enter Tryz.func14, Tryz.ntmps14
  go_upto_region 1 with (fail)
  have B0 := Lib.hid ((Below.refl w.heap.size w).drew)
  refine wp_region_held (S := fun X => X.rangeAt g 0 (u8s (I ++ seed)) ∧ X.cell? ⟨g, 48, none⟩ = some (.int .i64 (v : Int))) (by kernel_rfl) ?_
  change wpAnyH _ _ _ _ _ _ _ _ w.drew
  obtain ⟨V, hV⟩ : ∃ V, w.drew = V := ⟨_, rfl⟩
  rw [hV] at B0 ⊢
  clear hV
  have r1 := RS.out V B0.out
  refine wpAnyH_take (i := 0) (v := ?_) rfl (by kernel_rfl) (by kernel_rfl) (by kernel_rfl) (fun _ _ _ h => h) (Or.inl ⟨by kernel_rfl, ?_⟩) r1 ?_
  rotate_left 1
  · (intro w hS; clear hS; go_simp; try (with_reducible rfl))
  refine wpAnyH_take (i := 1) (v := ?_) rfl (by kernel_rfl) (by kernel_rfl) (by kernel_rfl) (fun _ _ _ h => h) (Or.inl ⟨by kernel_rfl, ?_⟩) r1 ?_
  rotate_left 1
  · (intro w hS; clear hS; go_simp; try (with_reducible rfl))
  refine wpAnyH_take (i := 3) (v := ?_) rfl (by kernel_rfl) (by kernel_rfl) (by kernel_rfl) (fun _ _ _ h => h) (Or.inl ⟨by kernel_rfl, ?_⟩) r1 ?_
  rotate_left 1
  · (intro w hS; clear hS; go_simp; try (with_reducible rfl))
  refine wpAnyH_take (i := 4) (v := ?_) rfl (by kernel_rfl) (by kernel_rfl) (by kernel_rfl) (fun _ _ _ h => h) (Or.inl ⟨by kernel_rfl, ?_⟩) r1 ?_
  rotate_left 1
  · (intro w hS; clear hS; go_simp; try (with_reducible rfl))
  refine wpAnyH_take (i := 5) (v := ?_) rfl (by kernel_rfl) (by kernel_rfl) (by kernel_rfl) (fun _ _ _ h => h) (Or.inl ⟨by kernel_rfl, ?_⟩) r1 ?_
  rotate_left 1
  · (intro w hS; clear hS; go_simp; try (with_reducible rfl))
  refine wpAnyH_take (i := 6) (v := .agg (u8s (I ++ seed)).toArray) rfl (by kernel_rfl) (by kernel_rfl) (by kernel_rfl) (fun _ _ _ h => h) (yieldsIf_load_mid (by kernel_rfl) 26 (.tmp 14) rfl g 0 (by go_simp) (u8s (I ++ seed)) _ (fun _ h => h.1) Tryz.underlying26 rfl (size48 _ HIS.out)) r1 ?_
  refine wpAnyH_take (i := 7) (v := ?_) rfl (by kernel_rfl) (by kernel_rfl) (by kernel_rfl) (fun _ _ _ h => h) (Or.inl ⟨by kernel_rfl, ?_⟩) r1 ?_
  rotate_left 1
  · (intro w hS; clear hS; go_simp; try (with_reducible rfl))
  refine wpAnyH_take (i := 8) (v := ?_) rfl (by kernel_rfl) (by kernel_rfl) (by kernel_rfl) (fun _ _ _ h => h) (Or.inl ⟨by kernel_rfl, ?_⟩) r1 ?_
  rotate_left 1
  · (intro w hS; clear hS; go_simp; try (with_reducible rfl))
  refine wpAnyH_take (i := 9) (v := ?_) rfl (by kernel_rfl) (by kernel_rfl) (by kernel_rfl) (fun _ _ _ h => h) (Or.inl ⟨by kernel_rfl, ?_⟩) r1 ?_
  rotate_left 1
  · (intro w hS; clear hS; go_simp; try (with_reducible rfl))
  refine wpAnyH_take (i := 10) (v := ?_) rfl (by kernel_rfl) (by kernel_rfl) (by kernel_rfl) (fun _ _ _ h => h) (Or.inl ⟨by kernel_rfl, ?_⟩) r1 ?_
  rotate_left 1
  · (intro w hS; clear hS; go_simp; try (with_reducible rfl))
  refine wpAnyH_take (i := 11) (v := ?_) rfl (by kernel_rfl) (by kernel_rfl) (by kernel_rfl) (fun _ _ _ h => h) (Or.inl ⟨by kernel_rfl, ?_⟩) r1 ?_
  rotate_left 1
  · (intro w hS; have hs := hS.2; clear hS; go_simp; try (with_reducible rfl))
  refine wpAnyH_take (i := 12) (v := ?_) rfl (by kernel_rfl) (by kernel_rfl) (by kernel_rfl) (fun _ _ _ h => h) (Or.inl ⟨by kernel_rfl, ?_⟩) r1 ?_
  rotate_left 1
  · (intro w hS; clear hS; go_simp; try (with_reducible rfl))
  clear r1
  refine wpAnyH_ready (rs := [2]) (by kernel_rfl) (by simp) ?_
  refine AllReadyH.cons rfl (fun K hK => ?_) AllReadyH.nil
  go_simp
  refine (refnum_t q 4 V (by decide) (by decide)).mono ?_
  rintro e w1 ⟨u, rfl, f1⟩
  obtain ⟨A1, c1, rfl, _, s1, b1⟩ := fresh_op f1
  rw [beN_length]
  have B1 := Lib.hid (B0.out.trans (b1.mono B0.out.size)); have S1 := Lib.hid s1
  clear f1 s1 b1 B0
  refine hK.out _ _ (RS.out _ B1.out) (fun _ => ?_)
  clear hK K
  refine wpAnyH_ready (rs := [13]) (by kernel_rfl) (by simp) ?_
  refine AllReadyH.cons rfl (fun K hK => ?_) AllReadyH.nil
  go_simp
  refine (SG.out w1 B1.out).mono ?_
  rintro e w2 ⟨u, rfl, f2⟩
  obtain ⟨A2, c2, rfl, _, s2, b2⟩ := fresh_op f2
  have B2 := Lib.hid (B1.out.trans (b2.mono B1.out.size)); have S2 := Lib.hid s2; have T1 := Lib.hid (S1.out.below b2)
  clear f2 s2 b2 B1 S1 SG
  refine hK.out _ _ (RS.out _ B2.out) (fun _ => ?_)
  clear hK K
  refine wpAnyH_ready (rs := [14]) (by kernel_rfl) (by simp) ?_
  refine AllReadyH.cons rfl (fun K hK => ?_) AllReadyH.nil
  go_simp
  refine (refnum_t 5 4 w2 (by decide) (by decide)).mono ?_
  rintro e w3 ⟨u, rfl, f3⟩
  obtain ⟨A3, c3, rfl, _, s3, b3⟩ := fresh_op f3
  rw [beN_length]
  have B3 := Lib.hid (B2.out.trans (b3.mono B2.out.size)); have S3 := Lib.hid s3; have T2 := Lib.hid (S2.out.below b3); have U1 := Lib.hid (T1.out.below b3)
  clear f3 s3 b3 B2 S2 T1
  refine hK.out _ _ (RS.out _ B3.out) (fun _ => ?_)
  clear hK K
  have HPV := Lib.hid (show partsV [⟨A1, c1, beN q 4⟩, ⟨A2, c2, sg⟩, ⟨A3, c3, beN 5 4⟩] = [.slice A1 4 c1, .slice A2 sg.length c2, .slice A3 4 c3] by simp only [partsV, List.map_cons, List.map_nil, beN_length])
  have bq := (Below.refl w3.heap.size w3).alloc (Nat.le_refl _) (.cells #[.slice A1 4 c1, .slice A2 sg.length c2, .slice A3 4 c3] 27)
  have BKP := Lib.hid (Blk.new w3 27 [.slice A1 4 c1, .slice A2 sg.length c2, .slice A3 4 c3])
  have B4 := Lib.hid (B3.out.trans (bq.mono B3.out.size))
  have SX := Lib.hid (show ∀ x ∈ ([⟨A1, c1, beN q 4⟩, ⟨A2, c2, sg⟩, ⟨A3, c3, beN 5 4⟩] : List Part), Sr (w3.alloc (.cells #[.slice A1 4 c1, .slice A2 sg.length c2, .slice A3 4 c3] 27)) x.A x.X by
    intro y hy
    simp only [List.mem_cons, List.not_mem_nil, or_false] at hy
    rcases hy with rfl | rfl | rfl
    · exact U1.out.below bq
    · exact T2.out.below bq
    · exact S3.out.below bq)
  clear bq
  refine wpAnyH_ready (rs := [15]) (by kernel_rfl) (by simp) ?_
  refine AllReadyH.cons rfl (fun K hK => ?_) AllReadyH.nil
  go_simp
  refine hK.out _ _ (RS.out _ B4.out) (fun _ => ?_)
  clear hK K
  refine wpAnyH_ready (rs := [16]) (by kernel_rfl) (by simp) ?_
  refine AllReadyH.cons rfl (fun K hK => ?_) AllReadyH.nil
  go_simp
  refine (cat_t [⟨A1, c1, beN q 4⟩, ⟨A2, c2, sg⟩, ⟨A3, c3, beN 5 4⟩] w3.heap.size 3 3 27 _ rfl ?_ ?_ ?_ (by decide)).mono ?_
  · rw [HPV.out]; exact BKP.out
  · exact SX.out
  · rw [cat_threeS]; have := SGB.out; simp only [List.length_append, beN_length]; omega
  rintro e wc ⟨vc, rfl, fc⟩
  rw [cat_threeS] at fc
  have BC := Lib.hid (B4.out.trans (fc.2.mono B4.out.size))
  have PC0 := Lib.hid (show PS w wc vc (beN q 4 ++ sg ++ beN 5 4 ++ PT 0) from ⟨by rw [P0.out, List.append_nil]; exact own_base fc.1 (fun k hk => Nat.le_trans B4.out.size (fc.1.lt k hk).1), BC.out⟩)
  have HFL := Lib.hid (show (beN q 4 ++ sg ++ beN 5 4).length ≤ 10008 by have := SGB.out; simp only [List.length_append, beN_length]; omega)
  obtain ⟨F, hF⟩ : ∃ F, beN q 4 ++ sg ++ beN 5 4 = F := ⟨_, rfl⟩
  rw [hF] at PC0 HFL HLS
  clear fc hF B4 SX BKP HPV U1 T2 S3 B3
  refine hK.out _ _ (RS.out _ BC.out) (fun _ => ?_)
  clear hK K
  refine wpAnyH_take (i := 17) (v := ?_) rfl (by kernel_rfl) (by kernel_rfl) (by kernel_rfl) (fun _ _ _ h => h) (Or.inl ⟨by kernel_rfl, ?_⟩) (RS.out _ BC.out) ?_
  rotate_left 1
  · (intro w hS; clear hS; go_simp; try (with_reducible rfl))
  refine wpAnyH_done (by kernel_rfl) ?_ _
  go_simp
  clear BC
  have i32 : IntKind.i64.wrap ((q : Int) + 32) = ((32 + q : Nat) : Int) := by rw [show (q : Int) + 32 = ((32 + q : Nat) : Int) by omega]; exact IntWalk.i64_in _ (by omega)
  go_upto_region 3 with (fail)
  go_loopw [7, 8] (fun v x wr => ∃ (j : Nat) (ys : List Nat), j ≤ 5 ∧ x = .int .i64 (((32 + q) / 2 ^ j : Nat) : Int) ∧ ys = F ++ PT j ∧ PS w wr v ys) (fun _ x _ => (intOf x).toNat)
  case atStart => exact ⟨0, _, by omega, by simp, rfl, PC0.out⟩
  case round =>
    clear PC0 i32
    obtain ⟨j, ys, hj, rfl, hys, ps⟩ := hrel
    have PJ := Lib.hid ps
    clear ps
    by_cases hlt : j < 5
    · have hlt64 := step_lt q j hq (by omega)
      have hgt := step_gt q hq j hlt
      have hnx := step_next q j
      have PSJ := Lib.hid (PSS.out j)
      have LY := Lib.hid (show ys.length ≤ 11000 by rw [hys, List.length_append, PL.out j (by omega)]; have := HFL.out; omega)
      have HYS := Lib.hid hys
      obtain ⟨x, hxx⟩ : ∃ x, (32 + q) / 2 ^ j = x := ⟨_, rfl⟩
      rw [hxx] at hlt64 hgt hnx PSJ ⊢
      have HNX := Lib.hid hnx
      have hx1 := xor1_i64 x hlt64
      have hx2 := xor1_le x hlt64
      obtain ⟨z, hz⟩ : ∃ z, x ^^^ 1 = z := ⟨_, rfl⟩
      rw [hz] at hx1 hx2 PSJ
      have RZ := Lib.hid (RK.out wr z (by omega) PJ.out.bel)
      have LZ := Lib.hid (HL.out z (by omega))
      have g1 : (1 : Int) < (x : Int) := by omega
      have z1 : (z : Int) < 64 := by omega
      have x64 := hlt64
      clear hys hxx hz hnx hgt
      go_wp2_with ((with_reducible refine at_op (.call { callee := .builtin .append, args := #[.tmp 32, .tmp 39], argTypes := #[27, 27] }) rfl ?_); go_must (refine append_bytes (.tmp 32) (.tmp 39) 27 rfl rfl 5 Tryz.underlying27 byte_info w.heap.size u7 ys.length ys (T z) rfl PJ.out.own (some ⟨g, 49 + 32 * z, none⟩) 32 32 (by go_simp) LZ.out RZ.out (by have := LY.out; omega) PJ.out.bel.size ?_); intro v1 w5 a1 a2 a3)
      have P5 := PJ.out.grow a1.out LZ.out a2.out
      rw [HYS.out, List.append_assoc, ← PSJ.out] at P5
      exact ⟨⟨j + 1, _, hlt, by rw [← HNX.out]; go_num, rfl, P5⟩, by simp [intOf]; omega⟩
    · obtain rfl : j = 5 := by omega
      have he := step_end q hq
      rw [he]
      have PE := Lib.hid (show PS w wr u7 (lsigN I seed i q xs) by rw [HLS.out, ← hys]; exact PJ.out)
      clear he PJ hys hlt hj
      go_wp2_with fail
      go_ret
      exact ⟨_, rfl, PE.out.own, PE.out.bel⟩
end Go.Proofs.YtigbnjgmdgkgjaaGreatDoor
