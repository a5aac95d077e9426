/-
  THE REFERENCE OF CHAPTER 5: NewKey.
  THE REFERENCE OF CHAPTER 5: Key.Sign of one level.
  THE REFERENCE OF CHAPTER 5: Key.Sign of two levels.
  THE REFERENCE OF CHAPTER 5: VerifyKey, of a signature of the right length.
-/
import Derived.Test.YtohgggblnnokeaaGreatDoorRgN
import Derived.Test.YtohgggblnnokeaaGreatDoorHsX
import Derived.Test.YtohgggblnnokeaaGreatDoorRgC
namespace Go.Proofs.YtohgggblnnokeaaGreatDoor
open Go Go.RowKit Sh

/-- A reference's Key: its levels, its upper tree. -/
def rkC (l gx : Nat) : List Value := [.int .i64 (l : Int), .pointer (some ⟨gx, 0, none⟩)]
theorem built_rkey (l gx : Nat) : Tryz.prog.built 66 [(0, .int .i64 (l : Int)), (1, .pointer (some ⟨gx, 0, none⟩))] = some (rkC l gx).toArray := by kernel_rfl
set_option maxRecDepth 100000 in
set_option maxHeartbeats 1000000 in
theorem refnewkey_t (I seed : List Nat) (v i l : Nat) (w : World) (hI : I.length = 16) (hIb : Bytes I) (hs : seed.length = 32) (hsb : Bytes seed) (hi : i < 4) (hv : v = (kd i).w) :
    Calls Tryz.prog 6 #[.agg (u8s (I ++ seed)).toArray, .int .i64 (v : Int), .int .i64 (l : Int)] w fun e w' => ∃ g gx, e = .returned (.pointer (some ⟨g, 0, none⟩)) ∧ Blk w' g 66 (rkC l gx) ∧ Blk w' gx 79 (rtC I seed v (nod I seed i 63)) ∧ w.heap.size ≤ gx ∧ gx < g ∧ Below w.heap.size w w' := by
  have HIS := Lib.hid (show (I ++ seed).length = 48 by rw [List.length_append, hI, hs])
  have S0 := Lib.hid (Blk.new w 26 (u8s (I ++ seed))); have B0 := Lib.hid ((Below.refl w.heap.size w).alloc (Nat.le_refl _) (.cells (u8s (I ++ seed)).toArray 26))
  have NW := Lib.hid (fun W => refnew_t I seed v i W hI hIb hs hsb hi hv)
  clear hI hIb hs hsb hi hv
  go_enter Tryz.func6, Tryz.ntmps6
  go_wp2_with ((with_reducible refine load_blk 26 (.tmp 3) w.heap.size 26 (u8s (I ++ seed)) _ rfl rfl ?_ Tryz.underlying26 ?_ ?_ ?_ ?_); exact S0.out; exact rfl; exact size48 _ HIS.out; exact rfl)
  refine (NW.out _).mono ?_
  rintro e w1 ⟨gx, rfl, x1, hg, b1⟩
  have X1 := Lib.hid x1; have B1 := Lib.hid (B0.out.trans (b1.mono B0.out.size)); have HG := Lib.hid (show w.heap.size ≤ gx by have := B0.out.size; omega)
  clear x1 b1 hg S0 B0 NW
  go_wp2_with ((with_reducible refine build_two rfl 66 (.tmp 7) (.tmp 10) rfl (rkC l gx) (.int .i64 (l : Int)) (.pointer (some ⟨gx, 0, none⟩)) ?_ ?_ ?_ ?_); exact rfl; exact rfl; exact built_rkey l gx)
  go_ret
  exact ⟨w1.heap.size, gx, rfl, Blk.new w1 _ _, X1.out.below ((Below.refl _ _).alloc (Nat.le_refl _) _) X1.out.lt, HG.out, X1.out.lt, B1.out.alloc B1.out.size _⟩
set_option maxRecDepth 100000 in
set_option maxHeartbeats 1000000 in
theorem refkpub_t (I seed : List Nat) (v i l g gx : Nat) (w : World) (hI : I.length = 16) (hs : seed.length = 32) (hi : i < 4) (hv : v = (kd i).w) (hl : l = 1 ∨ l = 2) (hK : Blk w g 66 (rkC l gx)) (hT : Blk w gx 79 (rtC I seed v (nod I seed i 63))) :
    Calls Tryz.prog 11 #[.pointer (some ⟨g, 0, none⟩)] w fun e w' => ∃ u, e = .returned u ∧ Fresh 5 w w' u (beN l 4 ++ lpubN I seed i) := by
  have CS := Lib.hid (fun X (h : Below w.heap.size w X) => (⟨(hK.below h hK.lt).cell 0, (hK.below h hK.lt).cell 1⟩ : X.cell? ⟨g, 0, none⟩ = some (.int .i64 (l : Int)) ∧ X.cell? ⟨g, 1, none⟩ = some (.pointer (some ⟨gx, 0, none⟩))))
  have PB := Lib.hid (fun X (h : Below w.heap.size w X) => reftpub_t I seed v i gx X hI hs hi hv (hT.below h hT.lt))
  have LP := Lib.hid (lpubN_length I seed i hI)
  have hl1 : IntKind.u64.wrap (l : Int) = (l : Int) := by rcases hl with rfl | rfl <;> rfl
  have hl2 := Lib.hid (show l < 18446744073709551616 by omega)
  obtain ⟨pub, hpub⟩ : ∃ x, lpubN I seed i = x := ⟨_, rfl⟩
  simp only [hpub] at PB LP ⊢
  clear hI hs hi hv hK hT hl hpub
  go_enter Tryz.func11, Tryz.ntmps11
  go_upto_region 1 with (fail)
  have B0 := Lib.hid ((Below.refl w.heap.size w).drew)
  refine wp_region_held (S := fun X => X.cell? ⟨g, 0, none⟩ = some (.int .i64 (l : Int)) ∧ X.cell? ⟨g, 1, none⟩ = some (.pointer (some ⟨gx, 0, none⟩))) (by kernel_rfl) ?_
  change wpAnyH _ _ _ _ _ _ _ _ w.drew
  obtain ⟨V, hV⟩ : ∃ V, w.drew = V := ⟨_, rfl⟩
  rw [hV] at B0 ⊢
  clear hV
  have r1 := CS.out V B0.out
  refine wpAnyH_take (i := 0) (v := ?_) rfl (by kernel_rfl) (by kernel_rfl) (by kernel_rfl) (fun _ _ _ h => h) (Or.inl ⟨by kernel_rfl, ?_⟩) r1 ?_
  rotate_left 1
  · (intro w hS; clear hS; go_simp; try (with_reducible rfl))
  refine wpAnyH_take (i := 1) (v := ?_) rfl (by kernel_rfl) (by kernel_rfl) (by kernel_rfl) (fun _ _ _ h => h) (Or.inl ⟨by kernel_rfl, ?_⟩) r1 ?_
  rotate_left 1
  · (intro w hS; clear hS; go_simp; try (with_reducible rfl))
  refine wpAnyH_take (i := 2) (v := ?_) rfl (by kernel_rfl) (by kernel_rfl) (by kernel_rfl) (fun _ _ _ h => h) (Or.inl ⟨by kernel_rfl, ?_⟩) r1 ?_
  rotate_left 1
  · (intro w hS; clear hS; go_simp; try (with_reducible rfl))
  refine wpAnyH_take (i := 3) (v := ?_) rfl (by kernel_rfl) (by kernel_rfl) (by kernel_rfl) (fun _ _ _ h => h) (Or.inl ⟨by kernel_rfl, ?_⟩) r1 ?_
  rotate_left 1
  · (intro w hS; obtain ⟨s1, s2⟩ := hS; go_simp; try (with_reducible rfl))
  refine wpAnyH_take (i := 4) (v := ?_) rfl (by kernel_rfl) (by kernel_rfl) (by kernel_rfl) (fun _ _ _ h => h) (Or.inl ⟨by kernel_rfl, ?_⟩) r1 ?_
  rotate_left 1
  · (intro w hS; clear hS; go_simp; try (with_reducible rfl))
  refine wpAnyH_take (i := 6) (v := ?_) rfl (by kernel_rfl) (by kernel_rfl) (by kernel_rfl) (fun _ _ _ h => h) (Or.inl ⟨by kernel_rfl, ?_⟩) r1 ?_
  rotate_left 1
  · (intro w hS; clear hS; go_simp; try (with_reducible rfl))
  refine wpAnyH_take (i := 7) (v := ?_) rfl (by kernel_rfl) (by kernel_rfl) (by kernel_rfl) (fun _ _ _ h => h) (Or.inl ⟨by kernel_rfl, ?_⟩) r1 ?_
  rotate_left 1
  · (intro w hS; clear hS; go_simp; try (with_reducible rfl))
  refine wpAnyH_take (i := 8) (v := ?_) rfl (by kernel_rfl) (by kernel_rfl) (by kernel_rfl) (fun _ _ _ h => h) (Or.inl ⟨by kernel_rfl, ?_⟩) r1 ?_
  rotate_left 1
  · (intro w hS; clear hS; go_simp; try (with_reducible rfl))
  refine wpAnyH_take (i := 9) (v := ?_) rfl (by kernel_rfl) (by kernel_rfl) (by kernel_rfl) (fun _ _ _ h => h) (Or.inl ⟨by kernel_rfl, ?_⟩) r1 ?_
  rotate_left 1
  · (intro w hS; obtain ⟨s1, s2⟩ := hS; go_simp; try (with_reducible rfl))
  clear r1
  refine wpAnyH_ready (rs := [5]) (by kernel_rfl) (by simp) ?_
  refine AllReadyH.cons rfl (fun K hK => ?_) AllReadyH.nil
  go_simp
  refine (refnum_t l 4 V (by decide) (by decide)).mono ?_
  rintro e w1 ⟨u, rfl, f1⟩
  have B1 := Lib.hid (B0.out.trans (f1.2.mono B0.out.size))
  have o1 := own_base f1.1 (base' := w.heap.size) (fun k e => Nat.le_trans B0.out.size (f1.1.lt k e).1)
  rw [beN_length] at o1
  have O1 := Lib.hid o1
  clear f1 o1 B0
  refine hK.out _ _ (CS.out _ B1.out) (fun _ => ?_)
  clear hK K
  refine wpAnyH_ready (rs := [10]) (by kernel_rfl) (by simp) ?_
  refine AllReadyH.cons rfl (fun K hK => ?_) AllReadyH.nil
  go_simp
  refine (PB.out w1 B1.out).mono ?_
  rintro e w2 ⟨u2, rfl, f2⟩
  obtain ⟨A2, c2, rfl, _, s2, b2⟩ := fresh_opn f2
  have O2 := Lib.hid (own_below O1.out b2); have B2 := Lib.hid (B1.out.trans (b2.mono B1.out.size)); have S2 := Lib.hid s2
  clear f2 s2 b2 B1 O1 PB
  refine hK.out _ _ (CS.out _ B2.out) (fun _ => ?_)
  clear hK K
  rw [LP.out]
  refine wpAnyH_ready (rs := [11]) (by kernel_rfl) (by simp) ?_
  refine AllReadyH.cons rfl (fun K hK => ?_) AllReadyH.nil
  refine wp_append_bytes (.tmp 8) (.tmp 13) 27 ?_ 5 Tryz.underlying27 byte_info w.heap.size u 4 (beN l 4) pub ?_ O2.out A2 56 c2 ?_ LP.out S2.out (by decide) B2.out.size ?_
  · rfl
  · go_simp
  · go_simp
  intro v3 w3 a1 a2 a3
  have B3 := Lib.hid (B2.out.grown a2.out B2.out.size (fun i e => (O2.out.lt i e).1))
  have O3 := Lib.hid a1.out
  clear a1 a2 a3 B2 O2 S2
  refine hK.out _ _ (CS.out _ B3.out) (fun _ => ?_)
  clear hK K
  refine wpAnyH_take (i := 12) (v := ?_) rfl (by kernel_rfl) (by kernel_rfl) (by kernel_rfl) (fun _ _ _ h => h) (Or.inl ⟨by kernel_rfl, ?_⟩) (CS.out _ B3.out) ?_
  rotate_left 1
  · (intro w hS; clear hS; go_simp; try (with_reducible rfl))
  refine wpAnyH_done (by kernel_rfl) ?_ _
  go_simp
  go_wp2_with fail
  go_ret
  exact ⟨v3, rfl, by rw [List.length_append, beN_length, LP.out]; exact O3.out, B3.out⟩
end Go.Proofs.YtohgggblnnokeaaGreatDoor
namespace Go.Proofs.YtohgggblnnokeaaGreatDoor
open Go Go.RowKit Sh

set_option maxRecDepth 100000 in
set_option maxHeartbeats 1000000 in
theorem refksign1_t (I seed xs : List Nat) (v i q g gx : Nat) (P : Option Addr) (m cc : Nat) (w : World) (hI : I.length = 16) (hIb : Bytes I) (hs : seed.length = 32) (hsb : Bytes seed) (hi : i < 4) (hv : v = (kd i).w) (hq : q < 32) (hx : xs.length = m) (hp : Sr w P xs) (hxb : Bytes xs) (hml : m ≤ 100000) (hK : Blk w g 66 (rkC 1 gx)) (hT : Blk w gx 79 (rtC I seed v (nod I seed i 63))) :
    Calls Tryz.prog 12 #[.pointer (some ⟨g, 0, none⟩), .int .i64 (q : Int), .slice P m cc] w fun e w' => ∃ u, e = .returned u ∧ Fresh 5 w w' u (hsig1N I seed i q xs) := by
  have CS := Lib.hid (fun X (h : Below w.heap.size w X) => (⟨(hK.below h hK.lt).cell 0, (hK.below h hK.lt).cell 1⟩ : X.cell? ⟨g, 0, none⟩ = some (.int .i64 1) ∧ X.cell? ⟨g, 1, none⟩ = some (.pointer (some ⟨gx, 0, none⟩))))
  have SG := Lib.hid (fun X (h : Below w.heap.size w X) => reftsign_t I seed xs v i gx q P m cc X hI hIb hs hsb hi hv hq hx (hp.below h) hxb hml (hT.below h hT.lt))
  have LS := Lib.hid (show (lsigN I seed i q xs).length ≤ 70000 by rw [lsigN_length I seed i q xs hq]; have := kd_p i hi; omega)
  obtain ⟨sg, hsg⟩ : ∃ x, lsigN I seed i q xs = x := ⟨_, rfl⟩
  unfold hsig1N
  simp only [hsg] at SG LS ⊢
  have l0 := (CS.out w (Below.refl _ _)).1
  clear hI hIb hs hsb hi hv hq hx hp hxb hml hK hT hsg
  go_enter Tryz.func12, Tryz.ntmps12
  go_upto_region 2 with (fail)
  clear l0
  have B0 := Lib.hid ((Below.refl w.heap.size w).drew)
  refine wp_region_held (S := fun X => X.cell? ⟨g, 0, none⟩ = some (.int .i64 1) ∧ X.cell? ⟨g, 1, none⟩ = some (.pointer (some ⟨gx, 0, none⟩))) (by kernel_rfl) ?_
  change wpAnyH _ _ _ _ _ _ _ _ w.drew
  obtain ⟨V, hV⟩ : ∃ V, w.drew = V := ⟨_, rfl⟩
  rw [hV] at B0 ⊢
  clear hV
  have r1 := CS.out V B0.out
  refine wpAnyH_take (i := 1) (v := ?_) rfl (by kernel_rfl) (by kernel_rfl) (by kernel_rfl) (fun _ _ _ h => h) (Or.inl ⟨by kernel_rfl, ?_⟩) r1 ?_
  rotate_left 1
  · (intro w hS; clear hS; go_simp; try (with_reducible rfl))
  refine wpAnyH_take (i := 2) (v := ?_) rfl (by kernel_rfl) (by kernel_rfl) (by kernel_rfl) (fun _ _ _ h => h) (Or.inl ⟨by kernel_rfl, ?_⟩) r1 ?_
  rotate_left 1
  · (intro w hS; clear hS; go_simp; try (with_reducible rfl))
  refine wpAnyH_take (i := 3) (v := ?_) rfl (by kernel_rfl) (by kernel_rfl) (by kernel_rfl) (fun _ _ _ h => h) (Or.inl ⟨by kernel_rfl, ?_⟩) r1 ?_
  rotate_left 1
  · (intro w hS; clear hS; go_simp; try (with_reducible rfl))
  refine wpAnyH_take (i := 4) (v := ?_) rfl (by kernel_rfl) (by kernel_rfl) (by kernel_rfl) (fun _ _ _ h => h) (Or.inl ⟨by kernel_rfl, ?_⟩) r1 ?_
  rotate_left 1
  · (intro w hS; obtain ⟨s1, s2⟩ := hS; go_simp; try (with_reducible rfl))
  refine wpAnyH_take (i := 5) (v := ?_) rfl (by kernel_rfl) (by kernel_rfl) (by kernel_rfl) (fun _ _ _ h => h) (Or.inl ⟨by kernel_rfl, ?_⟩) r1 ?_
  rotate_left 1
  · (intro w hS; clear hS; go_simp; try (with_reducible rfl))
  refine wpAnyH_take (i := 6) (v := ?_) rfl (by kernel_rfl) (by kernel_rfl) (by kernel_rfl) (fun _ _ _ h => h) (Or.inl ⟨by kernel_rfl, ?_⟩) r1 ?_
  rotate_left 1
  · (intro w hS; clear hS; go_simp; try (with_reducible rfl))
  clear r1
  refine wpAnyH_ready (rs := [0]) (by kernel_rfl) (by simp) ?_
  refine AllReadyH.cons rfl (fun K hK => ?_) AllReadyH.nil
  go_simp
  refine (refnum_t 0 4 V (by decide) (by decide)).mono ?_
  rintro e w1 ⟨u, rfl, f1⟩
  have B1 := Lib.hid (B0.out.trans (f1.2.mono B0.out.size))
  have o1 := own_base f1.1 (base' := w.heap.size) (fun k e => Nat.le_trans B0.out.size (f1.1.lt k e).1)
  rw [beN_length] at o1
  have O1 := Lib.hid o1
  clear f1 o1 B0
  refine hK.out _ _ (CS.out _ B1.out) (fun _ => ?_)
  clear hK K
  refine wpAnyH_ready (rs := [7]) (by kernel_rfl) (by simp) ?_
  refine AllReadyH.cons rfl (fun K hK => ?_) AllReadyH.nil
  go_simp
  refine (SG.out w1 B1.out).mono ?_
  rintro e w2 ⟨u2, rfl, f2⟩
  obtain ⟨A2, c2, rfl, _, s2, b2⟩ := fresh_opn f2
  have O2 := Lib.hid (own_below O1.out b2); have B2 := Lib.hid (B1.out.trans (b2.mono B1.out.size)); have S2 := Lib.hid s2
  clear f2 s2 b2 B1 O1 SG
  refine hK.out _ _ (CS.out _ B2.out) (fun _ => ?_)
  clear hK K
  refine wpAnyH_ready (rs := [8]) (by kernel_rfl) (by simp) ?_
  refine AllReadyH.cons rfl (fun K hK => ?_) AllReadyH.nil
  refine wp_append_bytes (.tmp 13) (.tmp 20) 27 ?_ 5 Tryz.underlying27 byte_info w.heap.size u 4 (beN 0 4) sg ?_ O2.out A2 sg.length c2 ?_ rfl S2.out (by have := LS.out; omega) B2.out.size ?_
  · rfl
  · go_simp
  · go_simp
  intro v3 w3 a1 a2 a3
  have B3 := Lib.hid (B2.out.grown a2.out B2.out.size (fun i e => (O2.out.lt i e).1))
  have O3 := Lib.hid a1.out
  clear a1 a2 a3 B2 O2 S2
  refine hK.out _ _ (CS.out _ B3.out) (fun _ => ?_)
  clear hK K
  refine wpAnyH_take (i := 9) (v := ?_) rfl (by kernel_rfl) (by kernel_rfl) (by kernel_rfl) (fun _ _ _ h => h) (Or.inl ⟨by kernel_rfl, ?_⟩) (CS.out _ B3.out) ?_
  rotate_left 1
  · (intro w hS; clear hS; go_simp; try (with_reducible rfl))
  refine wpAnyH_done (by kernel_rfl) ?_ _
  go_simp
  go_wp2_with fail
  go_ret
  exact ⟨v3, rfl, by rw [List.length_append, beN_length]; exact O3.out, B3.out⟩
end Go.Proofs.YtohgggblnnokeaaGreatDoor
namespace Go.Proofs.YtohgggblnnokeaaGreatDoor
open Go Go.RowKit Sh

theorem rtC_S {I seed : List Nat} {v : Nat} {L : List Nat} {w : World} {g : Nat} (h : Blk w g 79 (rtC I seed v L)) : w.rangeAt g 0 (u8s (I ++ seed)) := fun j x hx => by
  have hj := (List.getElem?_eq_some_iff.1 hx).1
  rw [Nat.zero_add, h.cell]
  unfold rtC
  rw [List.getElem?_append_left hj, hx]
/-- What Sign reads. -/
def RKS (g gx v : Nat) (I seed : List Nat) (X : World) : Prop := X.cell? ⟨g, 0, none⟩ = some (.int .i64 2) ∧ X.cell? ⟨g, 1, none⟩ = some (.pointer (some ⟨gx, 0, none⟩)) ∧ X.cell? ⟨gx, 48, none⟩ = some (.int .i64 (v : Int)) ∧ X.rangeAt gx 0 (u8s (I ++ seed))
theorem wrap_small (q : Nat) (hq : q < 32) : wrap64 (q : Int) = (q : Int) ∧ IntKind.i64.wrap (q : Int) = (q : Int) := ⟨by simp [wrap64]; omega, IntWalk.i64_in _ (by omega)⟩
set_option maxRecDepth 100000 in
set_option maxHeartbeats 6000000 in
theorem refksign2_t (I seed xs : List Nat) (v i n q r g gx : Nat) (P : Option Addr) (m cc : Nat) (w : World) (hI : I.length = 16) (hIb : Bytes I) (hs : seed.length = 32) (hsb : Bytes seed) (hi : i < 4) (hv : v = (kd i).w) (hq : q < 32) (hr : r < 32) (hn : n = 32 * q + r) (hx : xs.length = m) (hp : Sr w P xs) (hxb : Bytes xs) (hml : m ≤ 100000) (hK : Blk w g 66 (rkC 2 gx)) (hT : Blk w gx 79 (rtC I seed v (nod I seed i 63))) :
    Calls Tryz.prog 12 #[.pointer (some ⟨g, 0, none⟩), .int .i64 (n : Int), .slice P m cc] w fun e w' => ∃ u, e = .returned u ∧ Fresh 5 w w' u (hsig2N I seed i q r xs) := by
  have HIS := Lib.hid (show (I ++ seed).length = 48 by rw [List.length_append, hI, hs])
  have CS := Lib.hid (fun X (h : Below w.heap.size w X) => (⟨(hK.below h hK.lt).cell 0, (hK.below h hK.lt).cell 1, rtC_v (hT.below h hT.lt) hI hs, rtC_S (hT.below h hT.lt)⟩ : RKS g gx v I seed X))
  have CHI := Lib.hid (fun X => refchild_t I seed (q : Int) q X hI hIb hs hsb (by simp [IntKind.wrap, IntKind.bits, IntKind.signed]; omega))
  have NW := Lib.hid (fun X => refnew_t (chI I seed q) (chS I seed q) v i X (chI_length I seed q) (chI_bytes I seed q hIb hsb) (chS_length I seed q) (chS_bytes I seed q hIb hsb) hi hv)
  have kq : (n : Int).tdiv 32 = (q : Int) := by rw [Int.tdiv_eq_ediv_of_nonneg (by omega)]; omega
  have kr : (n : Int).tmod 32 = (r : Int) := by rw [Int.tmod_eq_emod_of_nonneg (by omega)]; omega
  have wq : wrap64 (q : Int) = (q : Int) := (wrap_small q hq).1
  have wq2 : IntKind.i64.wrap (q : Int) = (q : Int) := (wrap_small q hq).2
  have l0 := (CS.out w (Below.refl _ _)).1
  have UP := Lib.hid (fun X A c (h : Below w.heap.size w X) (hS : Sr X A (lpubN (chI I seed q) (chS I seed q) i)) => reftsign_t I seed (lpubN (chI I seed q) (chS I seed q) i) v i gx q A 56 c X hI hIb hs hsb hi hv hq (lpubN_length _ _ i (chI_length I seed q)) hS (lpubN_bytes _ _ i hi (chI_bytes I seed q hIb hsb) (chS_bytes I seed q hIb hsb)) (by decide) (hT.below h hT.lt))
  have LPB := Lib.hid (fun X gl (hT : Blk X gl 79 (rtC (chI I seed q) (chS I seed q) v (nod (chI I seed q) (chS I seed q) i 63))) => reftpub_t (chI I seed q) (chS I seed q) v i gl X (chI_length I seed q) (chS_length I seed q) hi hv hT)
  have LSG := Lib.hid (fun X gl (h : Below w.heap.size w X) (hT : Blk X gl 79 (rtC (chI I seed q) (chS I seed q) v (nod (chI I seed q) (chS I seed q) i 63))) => reftsign_t (chI I seed q) (chS I seed q) xs v i gl r P m cc X (chI_length I seed q) (chI_bytes I seed q hIb hsb) (chS_length I seed q) (chS_bytes I seed q hIb hsb) hi hv hr hx (hp.below h) hxb hml hT)
  have PL := Lib.hid (lpubN_length (chI I seed q) (chS I seed q) i (chI_length I seed q))
  have L1 := Lib.hid (show (lsigN I seed i q (lpubN (chI I seed q) (chS I seed q) i)).length ≤ 9000 by rw [lsigN_length I seed i q _ hq]; have := kd_p i hi; omega)
  have L2 := Lib.hid (show (lsigN (chI I seed q) (chS I seed q) i r xs).length ≤ 9000 by rw [lsigN_length _ _ i r _ hr]; have := kd_p i hi; omega)
  have HSG := Lib.hid (show hsig2N I seed i q r xs = beN 1 4 ++ lsigN I seed i q (lpubN (chI I seed q) (chS I seed q) i) ++ lpubN (chI I seed q) (chS I seed q) i ++ lsigN (chI I seed q) (chS I seed q) i r xs from rfl)
  obtain ⟨TC, hTC⟩ : ∃ x, rtC (chI I seed q) (chS I seed q) v (nod (chI I seed q) (chS I seed q) i 63) = x := ⟨_, rfl⟩
  obtain ⟨SL, hSL⟩ : ∃ x, lsigN (chI I seed q) (chS I seed q) i r xs = x := ⟨_, rfl⟩
  obtain ⟨pub, hpub⟩ : ∃ x, lpubN (chI I seed q) (chS I seed q) i = x := ⟨_, rfl⟩
  obtain ⟨sg, hsg⟩ : ∃ x, hsig2N I seed i q r xs = x := ⟨_, rfl⟩
  simp only [hsg, hTC, hSL, hpub] at NW UP LPB LSG PL L1 L2 HSG ⊢
  obtain ⟨SU, hSU⟩ : ∃ x, lsigN I seed i q pub = x := ⟨_, rfl⟩
  simp only [hSU] at UP L1 HSG
  obtain ⟨CC, hCC⟩ : ∃ x, chI I seed q ++ chS I seed q = x := ⟨_, rfl⟩
  simp only [hCC] at CHI NW
  clear hI hIb hs hsb hi hv hq hr hx hp hxb hml hK hT hTC hSU hSL hpub hsg hCC hn
  go_enter Tryz.func12, Tryz.ntmps12
  go_upto_region 3 with (fail)
  clear l0
  have B0 := Lib.hid ((Below.refl w.heap.size w).drew)
  refine wp_region_held (S := RKS g gx v I seed) (by kernel_rfl) ?_
  change wpAnyH _ _ _ _ _ _ _ _ w.drew
  obtain ⟨V, hV⟩ : ∃ V, w.drew = V := ⟨_, rfl⟩
  rw [hV] at B0 ⊢
  clear hV
  have r1 := CS.out V B0.out
  refine wpAnyH_take (i := 0) (v := ?_) rfl (by kernel_rfl) (by kernel_rfl) (by kernel_rfl) (fun _ _ _ h => h) (Or.inl ⟨by kernel_rfl, ?_⟩) r1 ?_
  rotate_left 1
  · (intro w hS; clear hS; go_simp; try (with_reducible rfl))
  refine wpAnyH_take (i := 1) (v := ?_) rfl (by kernel_rfl) (by kernel_rfl) (by kernel_rfl) (fun _ _ _ h => h) (Or.inl ⟨by kernel_rfl, ?_⟩) r1 ?_
  rotate_left 1
  · (intro w hS; clear hS; go_simp; try (with_reducible rfl))
  refine wpAnyH_take (i := 2) (v := ?_) rfl (by kernel_rfl) (by kernel_rfl) (by kernel_rfl) (fun _ _ _ h => h) (Or.inl ⟨by kernel_rfl, ?_⟩) r1 ?_
  rotate_left 1
  · (intro w hS; clear hS; go_simp; try (with_reducible rfl))
  refine wpAnyH_take (i := 3) (v := ?_) rfl (by kernel_rfl) (by kernel_rfl) (by kernel_rfl) (fun _ _ _ h => h) (Or.inl ⟨by kernel_rfl, ?_⟩) r1 ?_
  rotate_left 1
  · (intro w hS; obtain ⟨s1, s2, s3, s4⟩ := hS; clear s4; go_simp; try (with_reducible rfl))
  refine wpAnyH_take (i := 4) (v := ?_) rfl (by kernel_rfl) (by kernel_rfl) (by kernel_rfl) (fun _ _ _ h => h) (Or.inl ⟨by kernel_rfl, ?_⟩) r1 ?_
  rotate_left 1
  · (intro w hS; clear hS; go_simp; try (with_reducible rfl))
  refine wpAnyH_take (i := 5) (v := ?_) rfl (by kernel_rfl) (by kernel_rfl) (by kernel_rfl) (fun _ _ _ h => h) (Or.inl ⟨by kernel_rfl, ?_⟩) r1 ?_
  rotate_left 1
  · (intro w hS; clear hS; go_simp; try (with_reducible rfl))
  refine wpAnyH_take (i := 6) (v := .agg (u8s (I ++ seed)).toArray) rfl (by kernel_rfl) (by kernel_rfl) (by kernel_rfl) (fun _ _ _ h => h) (yieldsIf_load_mid (by kernel_rfl) 26 (.tmp 27) rfl gx 0 (by go_simp) (u8s (I ++ seed)) _ (fun _ h => h.2.2.2) Tryz.underlying26 rfl (size48 _ HIS.out)) r1 ?_
  refine wpAnyH_take (i := 7) (v := ?_) rfl (by kernel_rfl) (by kernel_rfl) (by kernel_rfl) (fun _ _ _ h => h) (Or.inl ⟨by kernel_rfl, ?_⟩) r1 ?_
  rotate_left 1
  · (intro w hS; clear hS; go_simp; try (with_reducible rfl))
  refine wpAnyH_take (i := 8) (v := ?_) rfl (by kernel_rfl) (by kernel_rfl) (by kernel_rfl) (fun _ _ _ h => h) (Or.inl ⟨by kernel_rfl, ?_⟩) r1 ?_
  rotate_left 1
  · (intro w hS; clear hS; go_simp; try (with_reducible rfl))
  refine wpAnyH_take (i := 10) (v := ?_) rfl (by kernel_rfl) (by kernel_rfl) (by kernel_rfl) (fun _ _ _ h => h) (Or.inl ⟨by kernel_rfl, ?_⟩) r1 ?_
  rotate_left 1
  · (intro w hS; clear hS; go_simp; try (with_reducible rfl))
  refine wpAnyH_take (i := 11) (v := ?_) rfl (by kernel_rfl) (by kernel_rfl) (by kernel_rfl) (fun _ _ _ h => h) (Or.inl ⟨by kernel_rfl, ?_⟩) r1 ?_
  rotate_left 1
  · (intro w hS; clear hS; go_simp; try (with_reducible rfl))
  refine wpAnyH_take (i := 12) (v := ?_) rfl (by kernel_rfl) (by kernel_rfl) (by kernel_rfl) (fun _ _ _ h => h) (Or.inl ⟨by kernel_rfl, ?_⟩) r1 ?_
  rotate_left 1
  · (intro w hS; clear hS; go_simp; try (with_reducible rfl))
  refine wpAnyH_take (i := 13) (v := ?_) rfl (by kernel_rfl) (by kernel_rfl) (by kernel_rfl) (fun _ _ _ h => h) (Or.inl ⟨by kernel_rfl, ?_⟩) r1 ?_
  rotate_left 1
  · (intro w hS; obtain ⟨s1, s2, s3, s4⟩ := hS; clear s4; go_simp; try (with_reducible rfl))
  refine wpAnyH_take (i := 14) (v := ?_) rfl (by kernel_rfl) (by kernel_rfl) (by kernel_rfl) (fun _ _ _ h => h) (Or.inl ⟨by kernel_rfl, ?_⟩) r1 ?_
  rotate_left 1
  · (intro w hS; clear hS; go_simp; try (with_reducible rfl))
  refine wpAnyH_take (i := 15) (v := ?_) rfl (by kernel_rfl) (by kernel_rfl) (by kernel_rfl) (fun _ _ _ h => h) (Or.inl ⟨by kernel_rfl, ?_⟩) r1 ?_
  rotate_left 1
  · (intro w hS; clear hS; go_simp; try (with_reducible rfl))
  refine wpAnyH_take (i := 16) (v := ?_) rfl (by kernel_rfl) (by kernel_rfl) (by kernel_rfl) (fun _ _ _ h => h) (Or.inl ⟨by kernel_rfl, ?_⟩) r1 ?_
  rotate_left 1
  · (intro w hS; obtain ⟨s1, s2, s3, s4⟩ := hS; clear s4; go_simp; try (with_reducible rfl))
  clear r1
  refine wpAnyH_ready (rs := [9]) (by kernel_rfl) (by simp) ?_
  refine AllReadyH.cons rfl (fun K hK => ?_) AllReadyH.nil
  go_simp
  refine (CHI.out V).mono ?_
  rintro e w1 ⟨rfl, b1⟩
  have B1 := Lib.hid (B0.out.trans (b1.mono B0.out.size))
  clear b1 B0
  refine hK.out _ _ (CS.out _ B1.out) (fun _ => ?_)
  clear hK K
  refine wpAnyH_ready (rs := [17]) (by kernel_rfl) (by simp) ?_
  refine AllReadyH.cons rfl (fun K hK => ?_) AllReadyH.nil
  go_simp
  refine (NW.out w1).mono ?_
  rintro e w2 ⟨gl, rfl, t2, hgl, b2⟩
  have B2 := Lib.hid (B1.out.trans (b2.mono B1.out.size)); have T2 := Lib.hid t2
  clear b2 t2 hgl B1
  refine hK.out _ _ (CS.out _ B2.out) (fun _ => ?_)
  clear hK K
  refine wpAnyH_take (i := 18) (v := ?_) rfl (by kernel_rfl) (by kernel_rfl) (by kernel_rfl) (fun _ _ _ h => h) (Or.inl ⟨by kernel_rfl, ?_⟩) (CS.out _ B2.out) ?_
  rotate_left 1
  · (intro w hS; clear hS; go_simp; try (with_reducible rfl))
  refine wpAnyH_done (by kernel_rfl) ?_ _
  go_simp
  go_upto_region 4 with (fail)
  have B3 := Lib.hid (B2.out.trans ((Below.refl w2.heap.size w2).drew.mono B2.out.size)); have T3 := Lib.hid (T2.out.below (Below.refl _ _).drew T2.out.lt)
  clear B2 T2
  refine wp_region_held (S := RKS g gx v I seed) (by kernel_rfl) ?_
  change wpAnyH _ _ _ _ _ _ _ _ w2.drew
  obtain ⟨V2, hV⟩ : ∃ V, w2.drew = V := ⟨_, rfl⟩
  rw [hV] at B3 T3 ⊢
  clear hV
  have r1 := CS.out V2 B3.out
  refine wpAnyH_take (i := 1) (v := ?_) rfl (by kernel_rfl) (by kernel_rfl) (by kernel_rfl) (fun _ _ _ h => h) (Or.inl ⟨by kernel_rfl, ?_⟩) r1 ?_
  rotate_left 1
  · (intro w hS; clear hS; go_simp; try (with_reducible rfl))
  refine wpAnyH_take (i := 2) (v := ?_) rfl (by kernel_rfl) (by kernel_rfl) (by kernel_rfl) (fun _ _ _ h => h) (Or.inl ⟨by kernel_rfl, ?_⟩) r1 ?_
  rotate_left 1
  · (intro w hS; clear hS; go_simp; try (with_reducible rfl))
  refine wpAnyH_take (i := 3) (v := ?_) rfl (by kernel_rfl) (by kernel_rfl) (by kernel_rfl) (fun _ _ _ h => h) (Or.inl ⟨by kernel_rfl, ?_⟩) r1 ?_
  rotate_left 1
  · (intro w hS; clear hS; go_simp; try (with_reducible rfl))
  refine wpAnyH_take (i := 4) (v := ?_) rfl (by kernel_rfl) (by kernel_rfl) (by kernel_rfl) (fun _ _ _ h => h) (Or.inl ⟨by kernel_rfl, ?_⟩) r1 ?_
  rotate_left 1
  · (intro w hS; obtain ⟨s1, s2, s3, s4⟩ := hS; clear s4; go_simp; try (with_reducible rfl))
  refine wpAnyH_take (i := 5) (v := ?_) rfl (by kernel_rfl) (by kernel_rfl) (by kernel_rfl) (fun _ _ _ h => h) (Or.inl ⟨by kernel_rfl, ?_⟩) r1 ?_
  rotate_left 1
  · (intro w hS; clear hS; go_simp; try (with_reducible rfl))
  refine wpAnyH_take (i := 6) (v := ?_) rfl (by kernel_rfl) (by kernel_rfl) (by kernel_rfl) (fun _ _ _ h => h) (Or.inl ⟨by kernel_rfl, ?_⟩) r1 ?_
  rotate_left 1
  · (intro w hS; clear hS; go_simp; try (with_reducible rfl))
  refine wpAnyH_take (i := 7) (v := ?_) rfl (by kernel_rfl) (by kernel_rfl) (by kernel_rfl) (fun _ _ _ h => h) (Or.inl ⟨by kernel_rfl, ?_⟩) r1 ?_
  rotate_left 1
  · (intro w hS; clear hS; go_simp; try (with_reducible rfl))
  refine wpAnyH_take (i := 10) (v := ?_) rfl (by kernel_rfl) (by kernel_rfl) (by kernel_rfl) (fun _ _ _ h => h) (Or.inl ⟨by kernel_rfl, ?_⟩) r1 ?_
  rotate_left 1
  · (intro w hS; clear hS; go_simp; try (with_reducible rfl))
  refine wpAnyH_take (i := 12) (v := ?_) rfl (by kernel_rfl) (by kernel_rfl) (by kernel_rfl) (fun _ _ _ h => h) (Or.inl ⟨by kernel_rfl, ?_⟩) r1 ?_
  rotate_left 1
  · (intro w hS; clear hS; go_simp; try (with_reducible rfl))
  refine wpAnyH_take (i := 13) (v := ?_) rfl (by kernel_rfl) (by kernel_rfl) (by kernel_rfl) (fun _ _ _ h => h) (Or.inl ⟨by kernel_rfl, ?_⟩) r1 ?_
  rotate_left 1
  · (intro w hS; clear hS; go_simp; try (with_reducible rfl))
  refine wpAnyH_take (i := 14) (v := ?_) rfl (by kernel_rfl) (by kernel_rfl) (by kernel_rfl) (fun _ _ _ h => h) (Or.inl ⟨by kernel_rfl, ?_⟩) r1 ?_
  rotate_left 1
  · (intro w hS; clear hS; go_simp; try (with_reducible rfl))
  refine wpAnyH_take (i := 15) (v := ?_) rfl (by kernel_rfl) (by kernel_rfl) (by kernel_rfl) (fun _ _ _ h => h) (Or.inl ⟨by kernel_rfl, ?_⟩) r1 ?_
  rotate_left 1
  · (intro w hS; clear hS; go_simp; try (with_reducible rfl))
  clear r1
  refine wpAnyH_ready (rs := [0]) (by kernel_rfl) (by simp) ?_
  refine AllReadyH.cons rfl (fun K hK => ?_) AllReadyH.nil
  go_simp
  refine (refnum_t 1 4 V2 (by decide) (by decide)).mono ?_
  rintro e w3 ⟨u, rfl, f3⟩
  obtain ⟨A3, c3, rfl, _, s3, b3⟩ := fresh_opn f3
  rw [beN_length]
  have B4 := Lib.hid (B3.out.trans (b3.mono B3.out.size)); have S3 := Lib.hid s3; have T4 := Lib.hid (T3.out.below b3 T3.out.lt)
  clear f3 s3 b3 B3 T3
  refine hK.out _ _ (CS.out _ B4.out) (fun _ => ?_)
  clear hK K
  refine wpAnyH_ready (rs := [8]) (by kernel_rfl) (by simp) ?_
  refine AllReadyH.cons rfl (fun K hK => ?_) AllReadyH.nil
  go_simp
  refine (LPB.out w3 gl T4.out).mono ?_
  rintro e w4 ⟨u, rfl, f4⟩
  obtain ⟨A4, c4, rfl, _, s4, b4⟩ := fresh_opn f4
  rw [PL.out]
  have B5 := Lib.hid (B4.out.trans (b4.mono B4.out.size)); have S4 := Lib.hid s4; have T5 := Lib.hid (T4.out.below b4 T4.out.lt); have S35 := Lib.hid (S3.out.below b4)
  clear f4 s4 b4 B4 T4 S3
  refine hK.out _ _ (CS.out _ B5.out) (fun _ => ?_)
  clear hK K
  refine wpAnyH_ready (rs := [9]) (by kernel_rfl) (by simp) ?_
  refine AllReadyH.cons rfl (fun K hK => ?_) AllReadyH.nil
  go_simp
  refine (UP.out w4 A4 c4 B5.out S4.out).mono ?_
  rintro e w5 ⟨u, rfl, f5⟩
  obtain ⟨A5, c5, rfl, _, s5, b5⟩ := fresh_opn f5
  have B6 := Lib.hid (B5.out.trans (b5.mono B5.out.size)); have S5 := Lib.hid s5; have T6 := Lib.hid (T5.out.below b5 T5.out.lt); have S36 := Lib.hid (S35.out.below b5)
  clear f5 s5 b5 B5 T5 S35 S4
  refine hK.out _ _ (CS.out _ B6.out) (fun _ => ?_)
  clear hK K
  refine wpAnyH_ready (rs := [11]) (by kernel_rfl) (by simp) ?_
  refine AllReadyH.cons rfl (fun K hK => ?_) AllReadyH.nil
  go_simp
  refine (LPB.out w5 gl T6.out).mono ?_
  rintro e w6 ⟨u, rfl, f6⟩
  obtain ⟨A6, c6, rfl, _, s6, b6⟩ := fresh_opn f6
  rw [PL.out]
  have B7 := Lib.hid (B6.out.trans (b6.mono B6.out.size)); have S6 := Lib.hid s6; have T7 := Lib.hid (T6.out.below b6 T6.out.lt); have S37 := Lib.hid (S36.out.below b6); have S57 := Lib.hid (S5.out.below b6)
  clear f6 s6 b6 B6 T6 S36 S5
  refine hK.out _ _ (CS.out _ B7.out) (fun _ => ?_)
  clear hK K
  refine wpAnyH_ready (rs := [16]) (by kernel_rfl) (by simp) ?_
  refine AllReadyH.cons rfl (fun K hK => ?_) AllReadyH.nil
  go_simp
  refine (LSG.out w6 gl B7.out T7.out).mono ?_
  rintro e w7 ⟨u, rfl, f7⟩
  obtain ⟨A7, c7, rfl, _, s7, b7⟩ := fresh_opn f7
  have B8 := Lib.hid (B7.out.trans (b7.mono B7.out.size)); have S7 := Lib.hid s7; have S38 := Lib.hid (S37.out.below b7); have S58 := Lib.hid (S57.out.below b7); have S68 := Lib.hid (S6.out.below b7)
  clear f7 s7 b7 B7 T7 S37 S57 S6
  refine hK.out _ _ (CS.out _ B8.out) (fun _ => ?_)
  clear hK K
  have HPV := Lib.hid (show partsV [⟨A3, c3, beN 1 4⟩, ⟨A5, c5, SU⟩, ⟨A6, c6, pub⟩, ⟨A7, c7, SL⟩] = [.slice A3 4 c3, .slice A5 SU.length c5, .slice A6 56 c6, .slice A7 SL.length c7] by simp only [partsV, List.map_cons, List.map_nil, beN_length, PL.out])
  have bq := (Below.refl w7.heap.size w7).alloc (Nat.le_refl _) (.cells #[.slice A3 4 c3, .slice A5 SU.length c5, .slice A6 56 c6, .slice A7 SL.length c7] 27)
  have BKP := Lib.hid (Blk.new w7 27 [.slice A3 4 c3, .slice A5 SU.length c5, .slice A6 56 c6, .slice A7 SL.length c7])
  have B9 := Lib.hid (B8.out.trans (bq.mono B8.out.size))
  have SX := Lib.hid (show ∀ x ∈ ([⟨A3, c3, beN 1 4⟩, ⟨A5, c5, SU⟩, ⟨A6, c6, pub⟩, ⟨A7, c7, SL⟩] : List Part), Sr (w7.alloc (.cells #[.slice A3 4 c3, .slice A5 SU.length c5, .slice A6 56 c6, .slice A7 SL.length c7] 27)) x.A x.X by
    intro y hy
    simp only [List.mem_cons, List.not_mem_nil, or_false] at hy
    rcases hy with rfl | rfl | rfl | rfl
    · exact S38.out.below bq
    · exact S58.out.below bq
    · exact S68.out.below bq
    · exact S7.out.below bq)
  clear bq
  refine wpAnyH_ready (rs := [17]) (by kernel_rfl) (by simp) ?_
  refine AllReadyH.cons rfl (fun K hK => ?_) AllReadyH.nil
  go_simp
  refine hK.out _ _ (CS.out _ B9.out) (fun _ => ?_)
  clear hK K
  refine wpAnyH_ready (rs := [18]) (by kernel_rfl) (by simp) ?_
  refine AllReadyH.cons rfl (fun K hK => ?_) AllReadyH.nil
  go_simp
  refine (cat_t [⟨A3, c3, beN 1 4⟩, ⟨A5, c5, SU⟩, ⟨A6, c6, pub⟩, ⟨A7, c7, SL⟩] w7.heap.size 4 4 27 _ rfl ?_ ?_ ?_ (by decide)).mono ?_
  · rw [HPV.out]; exact BKP.out
  · exact SX.out
  · rw [cat_four]; simp only [List.length_append, beN_length, PL.out]; have := L1.out; have := L2.out; omega
  rintro e wc ⟨vc, rfl, fc⟩
  rw [cat_four, ← HSG.out] at fc
  have FC := Lib.hid fc
  have BC := Lib.hid (B9.out.trans (fc.2.mono B9.out.size))
  clear fc
  refine hK.out _ _ (CS.out _ BC.out) (fun _ => ?_)
  clear hK K
  refine wpAnyH_take (i := 19) (v := ?_) rfl (by kernel_rfl) (by kernel_rfl) (by kernel_rfl) (fun _ _ _ h => h) (Or.inl ⟨by kernel_rfl, ?_⟩) (CS.out _ BC.out) ?_
  rotate_left 1
  · (intro w hS; clear hS; go_simp; try (with_reducible rfl))
  refine wpAnyH_done (by kernel_rfl) ?_ _
  go_simp
  go_wp2_with fail
  go_ret
  exact ⟨vc, rfl, own_base FC.out.1 (fun k hk => Nat.le_trans B9.out.size (FC.out.1.lt k hk).1), BC.out⟩
end Go.Proofs.YtohgggblnnokeaaGreatDoor
namespace Go.Proofs.YtohgggblnnokeaaGreatDoor
open Go Go.RowKit Sh

theorem verN_03 {P M S : List Nat} (h : formN P = true) : verN P M S = 0 ∨ verN P M S = 3 := by
  unfold verN
  rw [if_pos h]
  split
  · exact .inl rfl
  · exact .inr rfl
theorem three_of {n : Nat} (h : n = 0 ∨ n = 3) : (if decide (n = 0) = true then 0 else 3) = n := by
  rcases h with rfl | rfl <;> rfl
theorem hold1_res (N : Nat) (ys ms zs : List Nat) (hf : formN ys = true) (hz : zs.length = 4 + N) (hb : Bytes zs) :
    (if hold1 N ys ms zs = true then 0 else 3) = if decide (zs.take 4 = beN 0 4) = true then verN ys ms (zs.drop 4) else 3 := by
  have hc : decide (zs.take 4 = beN 0 4) = decide (val (zs.take 4) = 0) := decide_eq_decide.2 (code_eq zs 0 (by omega) hb (by decide))
  rw [hc]
  unfold hold1
  rw [show (zs.drop 4).take N = zs.drop 4 from List.take_of_length_le (by rw [List.length_drop]; omega)]
  by_cases h : val (zs.take 4) = 0
  · rw [decide_eq_true h, Bool.true_and, if_pos (rfl : true = true)]
    exact three_of (verN_03 hf)
  · rw [decide_eq_false h, Bool.false_and]
    rfl
theorem hold2_res (N : Nat) (ys ms zs : List Nat) (hz : zs.length = 60 + 2 * N) (hb : Bytes zs) :
    (if hold2 N ys ms zs = true then 0 else 3) = if decide (zs.take 4 = beN 1 4) = true then (if formN (pLN N zs) = true then (if verN ys (pLN N zs) (p1N N zs) = 0 then verN (pLN N zs) ms (p2N N zs) else 3) else 3) else 3 := by
  have hc : decide (zs.take 4 = beN 1 4) = decide (val (zs.take 4) = 1) := decide_eq_decide.2 (code_eq zs 1 (by omega) hb (by decide))
  rw [hc]
  unfold hold2
  by_cases h : val (zs.take 4) = 1
  · rw [decide_eq_true h, Bool.true_and, if_pos (rfl : true = true)]
    cases hf : formN (pLN N zs) with
    | false => rfl
    | true =>
      rw [Bool.true_and, if_pos (rfl : true = true)]
      by_cases h0 : verN ys (pLN N zs) (p1N N zs) = 0
      · rw [decide_eq_true h0, Bool.true_and, if_pos h0]
        exact three_of (verN_03 hf)
      · rw [decide_eq_false h0, Bool.false_and, if_neg h0]
        rfl
  · rw [decide_eq_false h, Bool.false_and]
    rfl
set_option maxRecDepth 100000 in
set_option maxHeartbeats 2000000 in
theorem refkey_full1 (xs ms zs : List Nat) (N : Nat) (A B C : Option Addr) (c m1 c1 m2 c2 : Nat) (w : World) (hx : xs.length = 60) (hp : Sr w A xs) (hb : Bytes xs) (hc : 60 ≤ c) (hv : val (xs.take 4) = 1) (hf : formN (xs.drop 4) = true) (hms : ms.length = m1) (hpm : Sr w B ms) (hbm : Bytes ms) (hm1 : m1 ≤ 100000) (hz : zs.length = m2) (hpz : Sr w C zs) (hzb : Bytes zs) (hz2 : m2 ≤ c2) (hm2 : m2 ≤ 100000) (he : m2 = 4 + N) :
    Calls Tryz.prog 14 #[.slice A 60 c, .slice B m1 c1, .slice C m2 c2] w fun e w' => e = .returned (.int .i64 ((if hold1 N (xs.drop 4) ms zs = true then 0 else 3 : Nat) : Int)) ∧ Below w.heap.size w w' := by
  obtain ⟨b, o, rfl, hlt, _⟩ := hp (by rw [hx]; decide)
  obtain ⟨d0, d1, d2, d3⟩ := four_at hp (by rw [hx]; decide)
  have hq := four_val xs (by rw [hx]; decide)
  have u0 := hb 0; have u1 := hb 1; have u2 := hb 2; have u3 := hb 3
  obtain ⟨s0, hs0⟩ : ∃ x, gt xs 0 = x := ⟨_, rfl⟩
  obtain ⟨s1, hs1⟩ : ∃ x, gt xs 1 = x := ⟨_, rfl⟩
  obtain ⟨s2, hs2⟩ : ∃ x, gt xs 2 = x := ⟨_, rfl⟩
  obtain ⟨s3, hs3⟩ : ∃ x, gt xs 3 = x := ⟨_, rfl⟩
  rw [hs0] at d0 u0 hq
  rw [hs1] at d1 u1 hq
  rw [hs2] at d2 u2 hq
  rw [hs3] at d3 u3 hq
  clear hs0 hs1 hs2 hs3
  obtain ⟨p2, hp2, he2⟩ := slice_low (P := Tryz.prog) (t := 27) (e := 5) Tryz.underlying27 byte_size (some ⟨b, o, none⟩) 60 c .i64 4 (by omega) hc
  rw [show ((4 : Nat) : Int) = 4 from rfl, show 60 - 4 = 56 from rfl] at he2
  have SP := Lib.hid (fun W (h : Sr W (some ⟨b, o, none⟩) xs) => show Sr W p2 (xs.drop 4) from h.drop (p2 := p2) (n := 4) (fun _ => hp2 (by omega)))
  have HP := Lib.hid hp; have HX := Lib.hid hx; have HB := Lib.hid hb
  have D3 := Lib.hid (fun X (h : Below w.heap.size w X) => (h.cell (p := ⟨b, o + 3, none⟩) hlt).trans d3)
  obtain ⟨ys, hys⟩ : ∃ ys, xs.drop 4 = ys := ⟨_, rfl⟩
  have HYL := Lib.hid (show ys.length = 56 by rw [← hys, List.length_drop, hx])
  have HYB := Lib.hid (show Bytes ys by rw [← hys]; exact bytes_drop hb 4)
  rw [hys] at hf SP ⊢
  have FM := Lib.hid (refform_t ys p2 56 (c - 4) w HYL.out (SP.out w hp) HYB.out (by decide) (by omega))
  rw [hf] at FM
  have HC4 := Lib.hid (show 56 ≤ c - 4 by omega)
  have z0 : s0 = 0 := by omega
  have z1 : s1 = 0 := by omega
  have z2 : s2 = 0 := by omega
  subst z0; subst z1; subst z2
  obtain rfl : s3 = 1 := by omega
  have hm4 : 4 ≤ m2 := by omega
  have HC24 := Lib.hid (show 4 ≤ c2 by omega)
  obtain ⟨q2, hq2, hf2⟩ := slice_low (P := Tryz.prog) (t := 27) (e := 5) Tryz.underlying27 byte_size C m2 c2 .i64 4 hm4 hz2
  rw [show ((4 : Nat) : Int) = 4 from rfl] at hf2
  have e5 : decide ((m2 : Int) < 4) = false := decide_eq_false (by omega)
  have e6 : ¬ ((m2 : Int) < 4) := by omega
  have SQ := Lib.hid (fun W (h : Sr W C zs) => show Sr W q2 (zs.drop 4) from h.drop (p2 := q2) (n := 4) (fun h => hq2 (by omega)))
  have HRES := Lib.hid (hold1_res N ys ms zs hf (by omega) hzb)
  have RV := Lib.hid (fun W (h : Below w.heap.size w W) => refver_any ys ms (zs.drop 4) p2 B q2 56 (c - 4) m1 c1 (m2 - 4) (c2 - 4) W HYL.out (SP.out W (hp.below h)) HYB.out (by omega) (by decide) hms (hpm.below h) hbm hm1 (by rw [List.length_drop, hz]) (SQ.out W (hpz.below h)) (bytes_drop hzb 4) (by omega) (by omega))
  have HT4 := Lib.hid (show (zs.take 4).length = 4 ∧ Bytes (zs.take 4) from ⟨by rw [List.length_take, hz]; omega, bytes_take hzb 4⟩)
  have HZ4 := Lib.hid (fun X (h : Below w.heap.size w X) => hpz.below h)
  obtain ⟨r, hr⟩ : ∃ r, (if hold1 N ys ms zs = true then 0 else 3) = r := ⟨_, rfl⟩
  obtain ⟨nv, hnv⟩ : ∃ x, verN ys ms (zs.drop 4) = x := ⟨_, rfl⟩
  rw [hr] at HRES ⊢
  rw [hnv] at HRES
  simp only [hnv] at RV
  clear hz hpz hzb hf hq2 hm2 hv hys hm4 hms hpm hbm hm1 hz2 he hr hnv
  have hs4 := slice_high (P := Tryz.prog) (t := 27) (e := 5) Tryz.underlying27 byte_size C m2 c2 .i64 4 HC24.out
  rw [show ((4 : Nat) : Int) = 4 from rfl] at hs4
  clear hx hp hb hlt hq u0 u1 u2 u3 hp2
  go_enter Tryz.func14, Tryz.ntmps14
  go_wp2_with fail
  refine FM.out.mono ?_
  rintro e w1 ⟨rfl, b1⟩
  have BD := Lib.hid (b1.trans ((Below.refl _ _).drew.mono b1.size))
  clear b1 FM d0 d1 d2 d3
  go_upto_region 3 with (fail)
  refine wp_region_held (S := fun X => X.cell? ⟨b, o + 3, none⟩ = some (.int .u8 (1 : Int))) (by kernel_rfl) ?_
  change wpAnyH _ _ _ _ _ _ _ _ w1.drew
  obtain ⟨V, hV⟩ : ∃ V, w1.drew = V := ⟨_, rfl⟩
  rw [hV] at BD ⊢
  clear hV
  have r1 : V.cell? ⟨b, o + 3, none⟩ = some (.int .u8 (1 : Int)) := D3.out V BD.out
  refine wpAnyH_take (i := 0) (v := ?_) rfl (by kernel_rfl) (by kernel_rfl) (by kernel_rfl) (fun _ _ _ h => h) (Or.inl ⟨by kernel_rfl, ?_⟩) r1 ?_
  rotate_left 1
  · (intro w hS; clear hS; go_simp; try (with_reducible rfl))
  refine wpAnyH_take (i := 1) (v := ?_) rfl (by kernel_rfl) (by kernel_rfl) (by kernel_rfl) (fun _ _ _ h => h) (Or.inl ⟨by kernel_rfl, ?_⟩) r1 ?_
  rotate_left 1
  · (intro w hS; clear hS; go_simp; try (with_reducible rfl))
  refine wpAnyH_take (i := 2) (v := ?_) rfl (by kernel_rfl) (by kernel_rfl) (by kernel_rfl) (fun _ _ _ h => h) (Or.inl ⟨by kernel_rfl, ?_⟩) r1 ?_
  rotate_left 1
  · (intro w hS; clear hS; go_simp; try (with_reducible rfl))
  refine wpAnyH_take (i := 3) (v := ?_) rfl (by kernel_rfl) (by kernel_rfl) (by kernel_rfl) (fun _ _ _ h => h) (Or.inl ⟨by kernel_rfl, ?_⟩) r1 ?_
  rotate_left 1
  · (intro w hS; clear hS; go_simp; try (with_reducible rfl))
  refine wpAnyH_take (i := 4) (v := ?_) rfl (by kernel_rfl) (by kernel_rfl) (by kernel_rfl) (fun _ _ _ h => h) (Or.inl ⟨by kernel_rfl, ?_⟩) r1 ?_
  rotate_left 1
  · (intro w hS; clear hS; go_simp; try (with_reducible rfl))
  refine wpAnyH_take (i := 5) (v := ?_) rfl (by kernel_rfl) (by kernel_rfl) (by kernel_rfl) (fun _ _ _ h => h) (Or.inl ⟨by kernel_rfl, ?_⟩) r1 ?_
  rotate_left 1
  · (intro w hS; clear hS; go_simp; try (with_reducible rfl))
  refine wpAnyH_take (i := 6) (v := ?_) rfl (by kernel_rfl) (by kernel_rfl) (by kernel_rfl) (fun _ _ _ h => h) (Or.inl ⟨by kernel_rfl, ?_⟩) r1 ?_
  rotate_left 1
  · (intro w hS; clear hS; go_simp; try (with_reducible rfl))
  refine wpAnyH_take (i := 7) (v := ?_) rfl (by kernel_rfl) (by kernel_rfl) (by kernel_rfl) (fun _ _ _ h => h) (Or.inl ⟨by kernel_rfl, ?_⟩) r1 ?_
  rotate_left 1
  · (intro w hS; clear hS; go_simp; try (with_reducible rfl))
  refine wpAnyH_take (i := 8) (v := ?_) rfl (by kernel_rfl) (by kernel_rfl) (by kernel_rfl) (fun _ _ _ h => h) (Or.inl ⟨by kernel_rfl, ?_⟩) r1 ?_
  rotate_left 1
  · (intro w hS; have hs := hS; clear hS; go_simp; try (with_reducible rfl))
  refine wpAnyH_take (i := 9) (v := ?_) rfl (by kernel_rfl) (by kernel_rfl) (by kernel_rfl) (fun _ _ _ h => h) (Or.inl ⟨by kernel_rfl, ?_⟩) r1 ?_
  rotate_left 1
  · (intro w hS; clear hS; go_simp; try (with_reducible rfl))
  refine wpAnyH_take (i := 10) (v := ?_) rfl (by kernel_rfl) (by kernel_rfl) (by kernel_rfl) (fun _ _ _ h => h) (Or.inl ⟨by kernel_rfl, ?_⟩) r1 ?_
  rotate_left 1
  · (intro w hS; clear hS; go_simp; try (with_reducible rfl))
  refine wpAnyH_ready (rs := [11]) (by kernel_rfl) (by simp) ?_
  refine AllReadyH.cons rfl (fun K hK => ?_) AllReadyH.nil
  go_simp
  refine (refnum_t 0 4 V (by decide) (by decide)).mono ?_
  rintro e w5 ⟨u, rfl, f5⟩
  obtain ⟨A5, c5, rfl, hc5, s5, b5⟩ := fresh_op f5
  rw [beN_length] at hc5 ⊢
  have B5 := Lib.hid (BD.out.trans (b5.mono BD.out.size)); have S5 := Lib.hid s5
  have r5 := D3.out w5 B5.out
  clear f5 hc5 s5 b5 BD
  refine hK.out _ _ r5 (fun _ => ?_)
  clear hK K
  refine wpAnyH_ready (rs := [12]) (by kernel_rfl) (by simp) ?_
  refine AllReadyH.cons rfl (fun K hK => ?_) AllReadyH.nil
  go_simp
  refine (same_texts (zs.take 4) (beN 0 4) C A5 4 4 c2 c5 w5 HT4.out.1 (beN_length _ _) ((HZ4.out w5 B5.out).take 4) S5.out HT4.out.2 (beN_bytes _ _)).mono ?_
  rintro e w6 ⟨rfl, rfl⟩
  obtain ⟨dd, hdd⟩ : ∃ d, decide (zs.take 4 = beN 0 4) = d := ⟨_, rfl⟩
  rw [hdd] at HRES ⊢
  clear hdd
  refine hK.out _ _ r5 (fun _ => ?_)
  clear hK K
  refine wpAnyH_take (i := 13) (v := ?_) rfl (by kernel_rfl) (by kernel_rfl) (by kernel_rfl) (fun _ _ _ h => h) (Or.inl ⟨by kernel_rfl, ?_⟩) r5 ?_
  rotate_left 1
  · (intro w hS; clear hS; go_simp; try (with_reducible rfl))
  refine wpAnyH_take (i := 14) (v := ?_) rfl (by kernel_rfl) (by kernel_rfl) (by kernel_rfl) (fun _ _ _ h => h) (Or.inl ⟨by kernel_rfl, ?_⟩) r5 ?_
  rotate_left 1
  · (intro w hS; clear hS; go_simp; try (with_reducible rfl))
  refine wpAnyH_done (by kernel_rfl) ?_ _
  go_simp
  clear hs4 S5 r1
  cases dd with
  | false =>
    obtain rfl : r = 3 := HRES.out
    go_wp2_with fail
    go_ret
    exact ⟨rfl, B5.out⟩
  | true =>
    obtain rfl : r = nv := HRES.out
    go_upto_region 6 with (fail)
    clear r5
    have BE := Lib.hid (B5.out.trans ((Below.refl _ _).drew.mono B5.out.size))
    refine wp_region_held (S := fun _ => True) (by kernel_rfl) ?_
    change wpAnyH _ _ _ _ _ _ _ _ w5.drew
    obtain ⟨U, hU⟩ : ∃ U, w5.drew = U := ⟨_, rfl⟩
    rw [hU] at BE ⊢
    clear hU B5
    refine wpAnyH_take (i := 0) (v := ?_) rfl (by kernel_rfl) (by kernel_rfl) (by kernel_rfl) (fun _ _ _ h => h) (Or.inl ⟨by kernel_rfl, ?_⟩) trivial ?_
    rotate_left 1
    · (intro w hS; clear hS; go_simp; try (with_reducible rfl))
    refine wpAnyH_take (i := 1) (v := ?_) rfl (by kernel_rfl) (by kernel_rfl) (by kernel_rfl) (fun _ _ _ h => h) (Or.inl ⟨by kernel_rfl, ?_⟩) trivial ?_
    rotate_left 1
    · (intro w hS; clear hS; go_simp; try (with_reducible rfl))
    refine wpAnyH_take (i := 2) (v := ?_) rfl (by kernel_rfl) (by kernel_rfl) (by kernel_rfl) (fun _ _ _ h => h) (Or.inl ⟨by kernel_rfl, ?_⟩) trivial ?_
    rotate_left 1
    · (intro w hS; clear hS; go_simp; try (with_reducible rfl))
    refine wpAnyH_take (i := 3) (v := ?_) rfl (by kernel_rfl) (by kernel_rfl) (by kernel_rfl) (fun _ _ _ h => h) (Or.inl ⟨by kernel_rfl, ?_⟩) trivial ?_
    rotate_left 1
    · (intro w hS; clear hS; go_simp; try (with_reducible rfl))
    refine wpAnyH_take (i := 4) (v := ?_) rfl (by kernel_rfl) (by kernel_rfl) (by kernel_rfl) (fun _ _ _ h => h) (Or.inl ⟨by kernel_rfl, ?_⟩) trivial ?_
    rotate_left 1
    · (intro w hS; clear hS; go_simp; try (with_reducible rfl))
    refine wpAnyH_ready (rs := [5]) (by kernel_rfl) (by simp) ?_
    refine AllReadyH.cons rfl (fun K hK => ?_) AllReadyH.nil
    go_simp
    refine (RV.out U BE.out).mono ?_
    rintro e w7 ⟨rfl, b7⟩
    have B7 := Lib.hid (BE.out.trans (b7.mono BE.out.size))
    clear b7 BE
    refine hK.out _ _ trivial (fun _ => ?_)
    clear hK K
    refine wpAnyH_take (i := 6) (v := ?_) rfl (by kernel_rfl) (by kernel_rfl) (by kernel_rfl) (fun _ _ _ h => h) (Or.inl ⟨by kernel_rfl, ?_⟩) trivial ?_
    rotate_left 1
    · (intro w hS; clear hS; go_simp; try (with_reducible rfl))
    refine wpAnyH_done (by kernel_rfl) ?_ _
    go_simp
    go_wp2_with fail
    go_ret
    exact ⟨rfl, B7.out⟩
set_option maxRecDepth 100000 in
set_option maxHeartbeats 4000000 in
theorem refkey_full2 (xs ms zs : List Nat) (i : Nat) (A B C : Option Addr) (c m1 c1 m2 c2 : Nat) (w : World) (hx : xs.length = 60) (hp : Sr w A xs) (hb : Bytes xs) (hc : 60 ≤ c) (hv : val (xs.take 4) = 2) (hf : formN (xs.drop 4) = true) (hi : i < 4) (hvi : val (((xs.drop 4).drop 4).take 4) = i + 1) (hms : ms.length = m1) (hpm : Sr w B ms) (hbm : Bytes ms) (hm1 : m1 ≤ 100000) (hz : zs.length = m2) (hpz : Sr w C zs) (hzb : Bytes zs) (hz2 : m2 ≤ c2) (he : m2 = 60 + 2 * lszN i) :
    Calls Tryz.prog 14 #[.slice A 60 c, .slice B m1 c1, .slice C m2 c2] w fun e w' => e = .returned (.int .i64 ((if hold2 (lszN i) (xs.drop 4) ms zs = true then 0 else 3 : Nat) : Int)) ∧ Below w.heap.size w w' := by
  obtain ⟨b, o, rfl, hlt, _⟩ := hp (by rw [hx]; decide)
  obtain ⟨d0, d1, d2, d3⟩ := four_at hp (by rw [hx]; decide)
  have hq := four_val xs (by rw [hx]; decide)
  have u0 := hb 0; have u1 := hb 1; have u2 := hb 2; have u3 := hb 3
  obtain ⟨s0, hs0⟩ : ∃ x, gt xs 0 = x := ⟨_, rfl⟩
  obtain ⟨s1, hs1⟩ : ∃ x, gt xs 1 = x := ⟨_, rfl⟩
  obtain ⟨s2, hs2⟩ : ∃ x, gt xs 2 = x := ⟨_, rfl⟩
  obtain ⟨s3, hs3⟩ : ∃ x, gt xs 3 = x := ⟨_, rfl⟩
  rw [hs0] at d0 u0 hq
  rw [hs1] at d1 u1 hq
  rw [hs2] at d2 u2 hq
  rw [hs3] at d3 u3 hq
  clear hs0 hs1 hs2 hs3
  obtain ⟨p2, hp2, he2⟩ := slice_low (P := Tryz.prog) (t := 27) (e := 5) Tryz.underlying27 byte_size (some ⟨b, o, none⟩) 60 c .i64 4 (by omega) hc
  rw [show ((4 : Nat) : Int) = 4 from rfl, show 60 - 4 = 56 from rfl] at he2
  have SP := Lib.hid (fun W (h : Sr W (some ⟨b, o, none⟩) xs) => show Sr W p2 (xs.drop 4) from h.drop (p2 := p2) (n := 4) (fun _ => hp2 (by omega)))
  have HP := Lib.hid hp; have HX := Lib.hid hx; have HB := Lib.hid hb
  have D3 := Lib.hid (fun X (h : Below w.heap.size w X) => (h.cell (p := ⟨b, o + 3, none⟩) hlt).trans d3)
  obtain ⟨ys, hys⟩ : ∃ ys, xs.drop 4 = ys := ⟨_, rfl⟩
  have HYL := Lib.hid (show ys.length = 56 by rw [← hys, List.length_drop, hx])
  have HYB := Lib.hid (show Bytes ys by rw [← hys]; exact bytes_drop hb 4)
  rw [hys] at hf SP ⊢
  have FM := Lib.hid (refform_t ys p2 56 (c - 4) w HYL.out (SP.out w hp) HYB.out (by decide) (by omega))
  rw [hf] at FM
  have HC4 := Lib.hid (show 56 ≤ c - 4 by omega)
  have z0 : s0 = 0 := by omega
  have z1 : s1 = 0 := by omega
  have z2 : s2 = 0 := by omega
  subst z0; subst z1; subst z2
  rw [hys] at hvi
  obtain rfl : s3 = 2 := by omega
  have hm4 : 4 ≤ m2 := by omega
  have HC24 := Lib.hid (show 4 ≤ c2 by omega)
  have e5 : decide ((m2 : Int) < 4) = false := decide_eq_false (by omega)
  have e6 : ¬ ((m2 : Int) < 4) := by omega
  obtain ⟨q8, hq8, hs8⟩ := slice_mid (P := Tryz.prog) (t := 27) (e := 5) Tryz.underlying27 byte_size (some ⟨b, o, none⟩) 60 c 8 12 (by omega) (by omega)
  rw [show ((8 : Nat) : Int) = 8 from rfl, show ((12 : Nat) : Int) = 12 from rfl, show 12 - 8 = 4 from rfl] at hs8
  have S8 := Lib.hid (fun W (h : Sr W (some ⟨b, o, none⟩) xs) => show Sr W q8 ((ys.drop 4).take 4) from by
    rw [← hys, List.drop_drop]
    exact (h.drop (p2 := q8) (n := 8) (fun _ => hq8 (by omega))).take 4)
  have HW8 := Lib.hid (show ((ys.drop 4).take 4).length = 4 ∧ Bytes ((ys.drop 4).take 4) from ⟨by rw [List.length_take, List.length_drop, HYL.out]; omega, bytes_take (bytes_drop HYB.out 4) 4⟩)
  have HT4 := Lib.hid (show (zs.take 4).length = 4 ∧ Bytes (zs.take 4) from ⟨by rw [List.length_take, hz]; omega, bytes_take hzb 4⟩)
  have HZ4 := Lib.hid (fun X (h : Below w.heap.size w X) => hpz.below h)
  have HWN := Lib.hid (show widN ((ys.drop 4).take 4) = (kd i).w by
    unfold widN
    rw [hvi, if_pos (by omega), Nat.add_sub_cancel])
  have SZ := Lib.hid (fun W => refsize_t i hi W)
  have hp9 := kd_p i hi
  have hN : lszN i ≤ 9000 := by unfold lszN; omega
  have HRES := Lib.hid (hold2_res (lszN i) ys ms zs (by omega) hzb)
  obtain ⟨N, hNN⟩ : ∃ N, lszN i = N := ⟨_, rfl⟩
  rw [hNN] at SZ hN HRES he ⊢
  obtain ⟨kw, hkw⟩ : ∃ x, (kd i).w = x := ⟨_, rfl⟩
  rw [hkw] at SZ HWN
  have q1 : ((N : Nat) : Int) ≤ 9000 := by omega
  have ew4 : IntKind.i64.wrap (4 + (N : Int)) = 4 + (N : Int) := IntWalk.i64_in _ (by omega)
  have ew5 : IntKind.i64.wrap (4 + (N : Int) + 56) = 4 + (N : Int) + 56 := IntWalk.i64_in _ (by omega)
  have ew7 : IntKind.i64.wrap (60 + (N : Int)) = 60 + (N : Int) := IntWalk.i64_in _ (by omega)
  have ew6 : ¬ ((m2 : Int) < 4 + (N : Int) + 56) := by omega
  have ew8 : decide ((m2 : Int) < 4 + (N : Int) + 56) = false := decide_eq_false ew6
  obtain ⟨pl, hpl, hsl⟩ := slice_mid (P := Tryz.prog) (t := 27) (e := 5) Tryz.underlying27 byte_size C m2 c2 (4 + N) (60 + N) (by omega) (by omega)
  rw [show ((4 + N : Nat) : Int) = 4 + (N : Int) by omega, show ((60 + N : Nat) : Int) = 60 + (N : Int) by omega, show 60 + N - (4 + N) = 56 by omega] at hsl
  have SL := Lib.hid (fun W (h : Sr W C zs) => show Sr W pl (pLN N zs) from by
    unfold pLN
    rw [List.drop_drop]
    exact (h.drop (p2 := pl) (n := 4 + N) (fun _ => hpl (by omega))).take 56)
  obtain ⟨p1, hp1, hs1⟩ := slice_mid (P := Tryz.prog) (t := 27) (e := 5) Tryz.underlying27 byte_size C m2 c2 4 (4 + N) (by omega) (by omega)
  rw [show ((4 : Nat) : Int) = 4 from rfl, show ((4 + N : Nat) : Int) = 4 + (N : Int) by omega, show 4 + N - 4 = N by omega] at hs1
  have S1 := Lib.hid (fun W (h : Sr W C zs) => show Sr W p1 (p1N N zs) from (h.drop (p2 := p1) (n := 4) (fun _ => hp1 (by omega))).take N)
  obtain ⟨p3, hp3, hs3⟩ := slice_low (P := Tryz.prog) (t := 27) (e := 5) Tryz.underlying27 byte_size C m2 c2 .i64 (60 + N) (by omega) hz2
  rw [show ((60 + N : Nat) : Int) = 60 + (N : Int) by omega, show m2 - (60 + N) = N by omega] at hs3
  have S3 := Lib.hid (fun W (h : Sr W C zs) => show Sr W p3 (p2N N zs) from by
    unfold p2N
    rw [List.drop_drop, List.drop_drop, show 4 + (N + 56) = 60 + N by omega]
    exact (h.drop (p2 := p3) (n := 60 + N) (fun _ => hp3 (by omega))).take N)
  have LL : (pLN N zs).length = 56 := by unfold pLN; rw [List.length_take, List.length_drop, List.length_drop, hz]; omega
  have LB : Bytes (pLN N zs) := bytes_take (bytes_drop (bytes_drop hzb 4) N) 56
  have L1 : (p1N N zs).length = N := by unfold p1N; rw [List.length_take, List.length_drop, hz]; omega
  have L1B : Bytes (p1N N zs) := bytes_take (bytes_drop hzb 4) N
  have L2 : (p2N N zs).length = N := by unfold p2N; rw [List.length_take, List.length_drop, List.length_drop, List.length_drop, hz]; omega
  have L2B : Bytes (p2N N zs) := bytes_take (bytes_drop (bytes_drop (bytes_drop hzb 4) N) 56) N
  obtain ⟨cL, hcL⟩ : ∃ x, c2 - (4 + N) = x := ⟨_, rfl⟩
  obtain ⟨cS, hcS⟩ : ∃ x, c2 - 4 = x := ⟨_, rfl⟩
  obtain ⟨cT, hcT⟩ : ∃ x, c2 - (60 + N) = x := ⟨_, rfl⟩
  rw [hcL] at hsl; rw [hcS] at hs1; rw [hcT] at hs3
  have FL := Lib.hid (fun W (h : Below w.heap.size w W) => refform_t (pLN N zs) pl 56 cL W LL (SL.out W (hpz.below h)) LB (by decide) (by omega))
  have V1 := Lib.hid (fun W (h : Below w.heap.size w W) => refver_any ys (pLN N zs) (p1N N zs) p2 pl p1 56 (c - 4) 56 cL N cS W HYL.out (SP.out W (hp.below h)) HYB.out (by omega) (by decide) LL (SL.out W (hpz.below h)) LB (by decide) L1 (S1.out W (hpz.below h)) L1B (by omega) (by omega))
  have V2 := Lib.hid (fun W (h : Below w.heap.size w W) => refver_any (pLN N zs) ms (p2N N zs) pl B p3 56 cL m1 c1 N cT W LL (SL.out W (hpz.below h)) LB (by omega) (by decide) hms (hpm.below h) hbm hm1 L2 (S3.out W (hpz.below h)) L2B (by omega) (by omega))
  obtain ⟨r, hr⟩ : ∃ r, (if hold2 N ys ms zs = true then 0 else 3) = r := ⟨_, rfl⟩
  obtain ⟨n1, hn1⟩ : ∃ x, verN ys (pLN N zs) (p1N N zs) = x := ⟨_, rfl⟩
  obtain ⟨n2, hn2⟩ : ∃ x, verN (pLN N zs) ms (p2N N zs) = x := ⟨_, rfl⟩
  obtain ⟨fb, hfb⟩ : ∃ x, formN (pLN N zs) = x := ⟨_, rfl⟩
  rw [hr] at HRES ⊢
  rw [hn1, hn2, hfb] at HRES
  simp only [hn1] at V1
  simp only [hn2] at V2
  simp only [hfb] at FL
  clear hz hpz hzb hf hv hys hm4 hms hpm hbm hm1 hz2 he hr hn1 hn2 hfb LL LB L1 L1B L2 L2B hcL hcS hcT SL S1 S3 hpl hp1 hp3 hq8 hNN hkw hp9 hN hi hvi
  have hs4 := slice_high (P := Tryz.prog) (t := 27) (e := 5) Tryz.underlying27 byte_size C m2 c2 .i64 4 HC24.out
  rw [show ((4 : Nat) : Int) = 4 from rfl] at hs4
  clear hx hp hb hlt hq u0 u1 u2 u3 hp2
  go_enter Tryz.func14, Tryz.ntmps14
  go_wp2_with fail
  refine FM.out.mono ?_
  rintro e w1 ⟨rfl, b1⟩
  have BD := Lib.hid (b1.trans ((Below.refl _ _).drew.mono b1.size))
  clear b1 FM d0 d1 d2 d3
  go_upto_region 3 with (fail)
  refine wp_region_held (S := fun X => X.cell? ⟨b, o + 3, none⟩ = some (.int .u8 (2 : Int))) (by kernel_rfl) ?_
  change wpAnyH _ _ _ _ _ _ _ _ w1.drew
  obtain ⟨V, hV⟩ : ∃ V, w1.drew = V := ⟨_, rfl⟩
  rw [hV] at BD ⊢
  clear hV
  have r1 : V.cell? ⟨b, o + 3, none⟩ = some (.int .u8 (2 : Int)) := D3.out V BD.out
  refine wpAnyH_take (i := 0) (v := ?_) rfl (by kernel_rfl) (by kernel_rfl) (by kernel_rfl) (fun _ _ _ h => h) (Or.inl ⟨by kernel_rfl, ?_⟩) r1 ?_
  rotate_left 1
  · (intro w hS; clear hS; go_simp; try (with_reducible rfl))
  refine wpAnyH_take (i := 1) (v := ?_) rfl (by kernel_rfl) (by kernel_rfl) (by kernel_rfl) (fun _ _ _ h => h) (Or.inl ⟨by kernel_rfl, ?_⟩) r1 ?_
  rotate_left 1
  · (intro w hS; clear hS; go_simp; try (with_reducible rfl))
  refine wpAnyH_take (i := 2) (v := ?_) rfl (by kernel_rfl) (by kernel_rfl) (by kernel_rfl) (fun _ _ _ h => h) (Or.inl ⟨by kernel_rfl, ?_⟩) r1 ?_
  rotate_left 1
  · (intro w hS; clear hS; go_simp; try (with_reducible rfl))
  refine wpAnyH_take (i := 3) (v := ?_) rfl (by kernel_rfl) (by kernel_rfl) (by kernel_rfl) (fun _ _ _ h => h) (Or.inl ⟨by kernel_rfl, ?_⟩) r1 ?_
  rotate_left 1
  · (intro w hS; clear hS; go_simp; try (with_reducible rfl))
  refine wpAnyH_take (i := 4) (v := ?_) rfl (by kernel_rfl) (by kernel_rfl) (by kernel_rfl) (fun _ _ _ h => h) (Or.inl ⟨by kernel_rfl, ?_⟩) r1 ?_
  rotate_left 1
  · (intro w hS; clear hS; go_simp; try (with_reducible rfl))
  refine wpAnyH_take (i := 5) (v := ?_) rfl (by kernel_rfl) (by kernel_rfl) (by kernel_rfl) (fun _ _ _ h => h) (Or.inl ⟨by kernel_rfl, ?_⟩) r1 ?_
  rotate_left 1
  · (intro w hS; clear hS; go_simp; try (with_reducible rfl))
  refine wpAnyH_take (i := 6) (v := ?_) rfl (by kernel_rfl) (by kernel_rfl) (by kernel_rfl) (fun _ _ _ h => h) (Or.inl ⟨by kernel_rfl, ?_⟩) r1 ?_
  rotate_left 1
  · (intro w hS; clear hS; go_simp; try (with_reducible rfl))
  refine wpAnyH_take (i := 7) (v := ?_) rfl (by kernel_rfl) (by kernel_rfl) (by kernel_rfl) (fun _ _ _ h => h) (Or.inl ⟨by kernel_rfl, ?_⟩) r1 ?_
  rotate_left 1
  · (intro w hS; clear hS; go_simp; try (with_reducible rfl))
  refine wpAnyH_take (i := 8) (v := ?_) rfl (by kernel_rfl) (by kernel_rfl) (by kernel_rfl) (fun _ _ _ h => h) (Or.inl ⟨by kernel_rfl, ?_⟩) r1 ?_
  rotate_left 1
  · (intro w hS; have hs := hS; clear hS; go_simp; try (with_reducible rfl))
  refine wpAnyH_take (i := 9) (v := ?_) rfl (by kernel_rfl) (by kernel_rfl) (by kernel_rfl) (fun _ _ _ h => h) (Or.inl ⟨by kernel_rfl, ?_⟩) r1 ?_
  rotate_left 1
  · (intro w hS; clear hS; go_simp; try (with_reducible rfl))
  refine wpAnyH_take (i := 10) (v := ?_) rfl (by kernel_rfl) (by kernel_rfl) (by kernel_rfl) (fun _ _ _ h => h) (Or.inl ⟨by kernel_rfl, ?_⟩) r1 ?_
  rotate_left 1
  · (intro w hS; clear hS; go_simp; try (with_reducible rfl))
  refine wpAnyH_ready (rs := [11]) (by kernel_rfl) (by simp) ?_
  refine AllReadyH.cons rfl (fun K hK => ?_) AllReadyH.nil
  go_simp
  refine (refnum_t 1 4 V (by decide) (by decide)).mono ?_
  rintro e w5 ⟨u, rfl, f5⟩
  obtain ⟨A5, c5, rfl, hc5, s5, b5⟩ := fresh_op f5
  rw [beN_length] at hc5 ⊢
  have B5 := Lib.hid (BD.out.trans (b5.mono BD.out.size)); have S5 := Lib.hid s5
  have r5 := D3.out w5 B5.out
  clear f5 hc5 s5 b5 BD
  refine hK.out _ _ r5 (fun _ => ?_)
  clear hK K
  refine wpAnyH_ready (rs := [12]) (by kernel_rfl) (by simp) ?_
  refine AllReadyH.cons rfl (fun K hK => ?_) AllReadyH.nil
  go_simp
  refine (same_texts (zs.take 4) (beN 1 4) C A5 4 4 c2 c5 w5 HT4.out.1 (beN_length _ _) ((HZ4.out w5 B5.out).take 4) S5.out HT4.out.2 (beN_bytes _ _)).mono ?_
  rintro e w6 ⟨rfl, rfl⟩
  obtain ⟨dd, hdd⟩ : ∃ d, decide (zs.take 4 = beN 1 4) = d := ⟨_, rfl⟩
  rw [hdd] at HRES ⊢
  clear hdd
  refine hK.out _ _ r5 (fun _ => ?_)
  clear hK K
  refine wpAnyH_take (i := 13) (v := ?_) rfl (by kernel_rfl) (by kernel_rfl) (by kernel_rfl) (fun _ _ _ h => h) (Or.inl ⟨by kernel_rfl, ?_⟩) r5 ?_
  rotate_left 1
  · (intro w hS; clear hS; go_simp; try (with_reducible rfl))
  refine wpAnyH_take (i := 14) (v := ?_) rfl (by kernel_rfl) (by kernel_rfl) (by kernel_rfl) (fun _ _ _ h => h) (Or.inl ⟨by kernel_rfl, ?_⟩) r5 ?_
  rotate_left 1
  · (intro w hS; clear hS; go_simp; try (with_reducible rfl))
  refine wpAnyH_done (by kernel_rfl) ?_ _
  go_simp
  clear hs4 S5 r1
  cases dd with
  | false =>
    obtain rfl : r = 3 := HRES.out
    go_wp2_with fail
    go_ret
    exact ⟨rfl, B5.out⟩
  | true =>
    go_wp2_with fail
    refine (refwidth_t ((ys.drop 4).take 4) q8 (c - 8) w5 HW8.out.1 (S8.out w5 (HP.out.below B5.out)) HW8.out.2).mono ?_
    rintro e w7 ⟨rfl, b7⟩
    have B7 := Lib.hid (B5.out.trans (b7.mono B5.out.size))
    rw [HWN.out]
    clear b7 B5 r5
    go_wp2_with fail
    refine (SZ.out _).mono ?_
    rintro e w8 ⟨rfl, rfl⟩
    go_upto_region 8 with (fail)
    have BE := Lib.hid (B7.out.trans ((Below.refl _ _).drew.mono B7.out.size))
    refine wp_region_held (S := fun _ => True) (by kernel_rfl) ?_
    change wpAnyH _ _ _ _ _ _ _ _ w7.drew
    obtain ⟨U, hU⟩ : ∃ U, w7.drew = U := ⟨_, rfl⟩
    rw [hU] at BE ⊢
    clear hU B7
    refine wpAnyH_take (i := 0) (v := ?_) rfl (by kernel_rfl) (by kernel_rfl) (by kernel_rfl) (fun _ _ _ h => h) (Or.inl ⟨by kernel_rfl, ?_⟩) trivial ?_
    rotate_left 1
    · (intro w hS; clear hS; go_simp; try (with_reducible rfl))
    refine wpAnyH_take (i := 1) (v := ?_) rfl (by kernel_rfl) (by kernel_rfl) (by kernel_rfl) (fun _ _ _ h => h) (Or.inl ⟨by kernel_rfl, ?_⟩) trivial ?_
    rotate_left 1
    · (intro w hS; clear hS; go_simp; try (with_reducible rfl))
    refine wpAnyH_take (i := 2) (v := ?_) rfl (by kernel_rfl) (by kernel_rfl) (by kernel_rfl) (fun _ _ _ h => h) (Or.inl ⟨by kernel_rfl, ?_⟩) trivial ?_
    rotate_left 1
    · (intro w hS; clear hS; go_simp; try (with_reducible rfl))
    refine wpAnyH_take (i := 3) (v := ?_) rfl (by kernel_rfl) (by kernel_rfl) (by kernel_rfl) (fun _ _ _ h => h) (Or.inl ⟨by kernel_rfl, ?_⟩) trivial ?_
    rotate_left 1
    · (intro w hS; clear hS; go_simp; try (with_reducible rfl))
    refine wpAnyH_take (i := 4) (v := ?_) rfl (by kernel_rfl) (by kernel_rfl) (by kernel_rfl) (fun _ _ _ h => h) (Or.inl ⟨by kernel_rfl, ?_⟩) trivial ?_
    rotate_left 1
    · (intro w hS; clear hS; go_simp; try (with_reducible rfl))
    refine wpAnyH_take (i := 5) (v := ?_) rfl (by kernel_rfl) (by kernel_rfl) (by kernel_rfl) (fun _ _ _ h => h) (Or.inl ⟨by kernel_rfl, ?_⟩) trivial ?_
    rotate_left 1
    · (intro w hS; clear hS; go_simp; try (with_reducible rfl))
    refine wpAnyH_take (i := 6) (v := ?_) rfl (by kernel_rfl) (by kernel_rfl) (by kernel_rfl) (fun _ _ _ h => h) (Or.inl ⟨by kernel_rfl, ?_⟩) trivial ?_
    rotate_left 1
    · (intro w hS; clear hS; go_simp; try (with_reducible rfl))
    refine wpAnyH_take (i := 7) (v := ?_) rfl (by kernel_rfl) (by kernel_rfl) (by kernel_rfl) (fun _ _ _ h => h) (Or.inl ⟨by kernel_rfl, ?_⟩) trivial ?_
    rotate_left 1
    · (intro w hS; clear hS; go_simp; try (with_reducible rfl))
    refine wpAnyH_take (i := 8) (v := ?_) rfl (by kernel_rfl) (by kernel_rfl) (by kernel_rfl) (fun _ _ _ h => h) (Or.inl ⟨by kernel_rfl, ?_⟩) trivial ?_
    rotate_left 1
    · (intro w hS; clear hS; go_simp; try (with_reducible rfl))
    refine wpAnyH_take (i := 9) (v := ?_) rfl (by kernel_rfl) (by kernel_rfl) (by kernel_rfl) (fun _ _ _ h => h) (Or.inl ⟨by kernel_rfl, ?_⟩) trivial ?_
    rotate_left 1
    · (intro w hS; clear hS; go_simp; try (with_reducible rfl))
    refine wpAnyH_take (i := 10) (v := ?_) rfl (by kernel_rfl) (by kernel_rfl) (by kernel_rfl) (fun _ _ _ h => h) (Or.inl ⟨by kernel_rfl, ?_⟩) trivial ?_
    rotate_left 1
    · (intro w hS; clear hS; go_simp; try (with_reducible rfl))
    refine wpAnyH_take (i := 11) (v := ?_) rfl (by kernel_rfl) (by kernel_rfl) (by kernel_rfl) (fun _ _ _ h => h) (Or.inl ⟨by kernel_rfl, ?_⟩) trivial ?_
    rotate_left 1
    · (intro w hS; clear hS; go_simp; try (with_reducible rfl))
    refine wpAnyH_take (i := 12) (v := ?_) rfl (by kernel_rfl) (by kernel_rfl) (by kernel_rfl) (fun _ _ _ h => h) (Or.inl ⟨by kernel_rfl, ?_⟩) trivial ?_
    rotate_left 1
    · (intro w hS; clear hS; go_simp; try (with_reducible rfl))
    refine wpAnyH_ready (rs := [13]) (by kernel_rfl) (by simp) ?_
    refine AllReadyH.cons rfl (fun K hK => ?_) AllReadyH.nil
    go_simp
    refine (FL.out U BE.out).mono ?_
    rintro e w8 ⟨rfl, b8⟩
    have BF := Lib.hid (BE.out.trans (b8.mono BE.out.size))
    clear b8 BE
    refine hK.out _ _ trivial (fun _ => ?_)
    clear hK K
    cases fb with
    | false =>
      obtain rfl : r = 3 := HRES.out
      refine wpAnyH_take (i := 14) (v := ?_) rfl (by kernel_rfl) (by kernel_rfl) (by kernel_rfl) (fun _ _ _ h => h) (Or.inl ⟨by kernel_rfl, ?_⟩) trivial ?_
      rotate_left 1
      · (intro w hS; clear hS; go_simp; try (with_reducible rfl))
      refine wpAnyH_take (i := 15) (v := ?_) rfl (by kernel_rfl) (by kernel_rfl) (by kernel_rfl) (fun _ _ _ h => h) (Or.inl ⟨by kernel_rfl, ?_⟩) trivial ?_
      rotate_left 1
      · (intro w hS; clear hS; go_simp; try (with_reducible rfl))
      refine wpAnyH_take (i := 16) (v := ?_) rfl (by kernel_rfl) (by kernel_rfl) (by kernel_rfl) (fun _ _ _ h => h) (Or.inl ⟨by kernel_rfl, ?_⟩) trivial ?_
      rotate_left 1
      · (intro w hS; clear hS; go_simp; try (with_reducible rfl))
      refine wpAnyH_take (i := 17) (v := undef) rfl (by kernel_rfl) (by kernel_rfl) (by kernel_rfl) (fun _ _ _ h => h) (Or.inr ⟨by kernel_rfl, rfl⟩) trivial ?_
      refine wpAnyH_take (i := 18) (v := undef) rfl (by kernel_rfl) (by kernel_rfl) (by kernel_rfl) (fun _ _ _ h => h) (Or.inr ⟨by kernel_rfl, rfl⟩) trivial ?_
      refine wpAnyH_take (i := 19) (v := undef) rfl (by kernel_rfl) (by kernel_rfl) (by kernel_rfl) (fun _ _ _ h => h) (Or.inr ⟨by kernel_rfl, rfl⟩) trivial ?_
      refine wpAnyH_take (i := 20) (v := undef) rfl (by kernel_rfl) (by kernel_rfl) (by kernel_rfl) (fun _ _ _ h => h) (Or.inr ⟨by kernel_rfl, rfl⟩) trivial ?_
      refine wpAnyH_take (i := 21) (v := undef) rfl (by kernel_rfl) (by kernel_rfl) (by kernel_rfl) (fun _ _ _ h => h) (Or.inr ⟨by kernel_rfl, rfl⟩) trivial ?_
      refine wpAnyH_take (i := 22) (v := undef) rfl (by kernel_rfl) (by kernel_rfl) (by kernel_rfl) (fun _ _ _ h => h) (Or.inr ⟨by kernel_rfl, rfl⟩) trivial ?_
      refine wpAnyH_take (i := 23) (v := undef) rfl (by kernel_rfl) (by kernel_rfl) (by kernel_rfl) (fun _ _ _ h => h) (Or.inr ⟨by kernel_rfl, rfl⟩) trivial ?_
      refine wpAnyH_take (i := 24) (v := undef) rfl (by kernel_rfl) (by kernel_rfl) (by kernel_rfl) (fun _ _ _ h => h) (Or.inr ⟨by kernel_rfl, rfl⟩) trivial ?_
      refine wpAnyH_take (i := 25) (v := undef) rfl (by kernel_rfl) (by kernel_rfl) (by kernel_rfl) (fun _ _ _ h => h) (Or.inr ⟨by kernel_rfl, rfl⟩) trivial ?_
      refine wpAnyH_take (i := 26) (v := undef) rfl (by kernel_rfl) (by kernel_rfl) (by kernel_rfl) (fun _ _ _ h => h) (Or.inr ⟨by kernel_rfl, rfl⟩) trivial ?_
      refine wpAnyH_take (i := 27) (v := undef) rfl (by kernel_rfl) (by kernel_rfl) (by kernel_rfl) (fun _ _ _ h => h) (Or.inr ⟨by kernel_rfl, rfl⟩) trivial ?_
      refine wpAnyH_take (i := 28) (v := undef) rfl (by kernel_rfl) (by kernel_rfl) (by kernel_rfl) (fun _ _ _ h => h) (Or.inr ⟨by kernel_rfl, rfl⟩) trivial ?_
      refine wpAnyH_take (i := 29) (v := undef) rfl (by kernel_rfl) (by kernel_rfl) (by kernel_rfl) (fun _ _ _ h => h) (Or.inr ⟨by kernel_rfl, rfl⟩) trivial ?_
      refine wpAnyH_take (i := 30) (v := undef) rfl (by kernel_rfl) (by kernel_rfl) (by kernel_rfl) (fun _ _ _ h => h) (Or.inr ⟨by kernel_rfl, rfl⟩) trivial ?_
      refine wpAnyH_take (i := 31) (v := ?_) rfl (by kernel_rfl) (by kernel_rfl) (by kernel_rfl) (fun _ _ _ h => h) (Or.inl ⟨by kernel_rfl, ?_⟩) trivial ?_
      rotate_left 1
      · (intro w hS; clear hS; go_simp; try (with_reducible rfl))
      refine wpAnyH_done (by kernel_rfl) ?_ _
      go_simp
      go_wp2_with fail
      go_ret
      exact ⟨rfl, BF.out⟩
    | true =>
      refine wpAnyH_take (i := 14) (v := ?_) rfl (by kernel_rfl) (by kernel_rfl) (by kernel_rfl) (fun _ _ _ h => h) (Or.inl ⟨by kernel_rfl, ?_⟩) trivial ?_
      rotate_left 1
      · (intro w hS; clear hS; go_simp; try (with_reducible rfl))
      refine wpAnyH_take (i := 15) (v := ?_) rfl (by kernel_rfl) (by kernel_rfl) (by kernel_rfl) (fun _ _ _ h => h) (Or.inl ⟨by kernel_rfl, ?_⟩) trivial ?_
      rotate_left 1
      · (intro w hS; clear hS; go_simp; try (with_reducible rfl))
      refine wpAnyH_take (i := 16) (v := ?_) rfl (by kernel_rfl) (by kernel_rfl) (by kernel_rfl) (fun _ _ _ h => h) (Or.inl ⟨by kernel_rfl, ?_⟩) trivial ?_
      rotate_left 1
      · (intro w hS; clear hS; go_simp; try (with_reducible rfl))
      refine wpAnyH_take (i := 17) (v := ?_) rfl (by kernel_rfl) (by kernel_rfl) (by kernel_rfl) (fun _ _ _ h => h) (Or.inl ⟨by kernel_rfl, ?_⟩) trivial ?_
      rotate_left 1
      · (intro w hS; clear hS; go_simp; try (with_reducible rfl))
      refine wpAnyH_take (i := 18) (v := ?_) rfl (by kernel_rfl) (by kernel_rfl) (by kernel_rfl) (fun _ _ _ h => h) (Or.inl ⟨by kernel_rfl, ?_⟩) trivial ?_
      rotate_left 1
      · (intro w hS; clear hS; go_simp; try (with_reducible rfl))
      refine wpAnyH_take (i := 19) (v := ?_) rfl (by kernel_rfl) (by kernel_rfl) (by kernel_rfl) (fun _ _ _ h => h) (Or.inl ⟨by kernel_rfl, ?_⟩) trivial ?_
      rotate_left 1
      · (intro w hS; clear hS; go_simp; try (with_reducible rfl))
      refine wpAnyH_take (i := 20) (v := ?_) rfl (by kernel_rfl) (by kernel_rfl) (by kernel_rfl) (fun _ _ _ h => h) (Or.inl ⟨by kernel_rfl, ?_⟩) trivial ?_
      rotate_left 1
      · (intro w hS; clear hS; go_simp; try (with_reducible rfl))
      refine wpAnyH_take (i := 21) (v := ?_) rfl (by kernel_rfl) (by kernel_rfl) (by kernel_rfl) (fun _ _ _ h => h) (Or.inl ⟨by kernel_rfl, ?_⟩) trivial ?_
      rotate_left 1
      · (intro w hS; clear hS; go_simp; try (with_reducible rfl))
      refine wpAnyH_take (i := 22) (v := ?_) rfl (by kernel_rfl) (by kernel_rfl) (by kernel_rfl) (fun _ _ _ h => h) (Or.inl ⟨by kernel_rfl, ?_⟩) trivial ?_
      rotate_left 1
      · (intro w hS; clear hS; go_simp; try (with_reducible rfl))
      refine wpAnyH_take (i := 23) (v := ?_) rfl (by kernel_rfl) (by kernel_rfl) (by kernel_rfl) (fun _ _ _ h => h) (Or.inl ⟨by kernel_rfl, ?_⟩) trivial ?_
      rotate_left 1
      · (intro w hS; clear hS; go_simp; try (with_reducible rfl))
      refine wpAnyH_take (i := 24) (v := ?_) rfl (by kernel_rfl) (by kernel_rfl) (by kernel_rfl) (fun _ _ _ h => h) (Or.inl ⟨by kernel_rfl, ?_⟩) trivial ?_
      rotate_left 1
      · (intro w hS; clear hS; go_simp; try (with_reducible rfl))
      refine wpAnyH_take (i := 25) (v := ?_) rfl (by kernel_rfl) (by kernel_rfl) (by kernel_rfl) (fun _ _ _ h => h) (Or.inl ⟨by kernel_rfl, ?_⟩) trivial ?_
      rotate_left 1
      · (intro w hS; clear hS; go_simp; try (with_reducible rfl))
      refine wpAnyH_take (i := 26) (v := ?_) rfl (by kernel_rfl) (by kernel_rfl) (by kernel_rfl) (fun _ _ _ h => h) (Or.inl ⟨by kernel_rfl, ?_⟩) trivial ?_
      rotate_left 1
      · (intro w hS; clear hS; go_simp; try (with_reducible rfl))
      refine wpAnyH_take (i := 27) (v := ?_) rfl (by kernel_rfl) (by kernel_rfl) (by kernel_rfl) (fun _ _ _ h => h) (Or.inl ⟨by kernel_rfl, ?_⟩) trivial ?_
      rotate_left 1
      · (intro w hS; clear hS; go_simp; try (with_reducible rfl))
      refine wpAnyH_take (i := 28) (v := ?_) rfl (by kernel_rfl) (by kernel_rfl) (by kernel_rfl) (fun _ _ _ h => h) (Or.inl ⟨by kernel_rfl, ?_⟩) trivial ?_
      rotate_left 1
      · (intro w hS; clear hS; go_simp; try (with_reducible rfl))
      refine wpAnyH_ready (rs := [29]) (by kernel_rfl) (by simp) ?_
      refine AllReadyH.cons rfl (fun K hK => ?_) AllReadyH.nil
      go_simp
      refine (V1.out w8 BF.out).mono ?_
      rintro e w9 ⟨rfl, b9⟩
      have BG := Lib.hid (BF.out.trans (b9.mono BF.out.size))
      clear b9 BF
      refine hK.out _ _ trivial (fun _ => ?_)
      clear hK K
      by_cases hn : n1 = 0
      · subst hn
        obtain rfl : r = n2 := HRES.out
        refine wpAnyH_take (i := 30) (v := ?_) rfl (by kernel_rfl) (by kernel_rfl) (by kernel_rfl) (fun _ _ _ h => h) (Or.inl ⟨by kernel_rfl, ?_⟩) trivial ?_
        rotate_left 1
        · (intro w hS; clear hS; go_simp; try (with_reducible rfl))
        refine wpAnyH_take (i := 31) (v := ?_) rfl (by kernel_rfl) (by kernel_rfl) (by kernel_rfl) (fun _ _ _ h => h) (Or.inl ⟨by kernel_rfl, ?_⟩) trivial ?_
        rotate_left 1
        · (intro w hS; clear hS; go_simp; try (with_reducible rfl))
        refine wpAnyH_done (by kernel_rfl) ?_ _
        go_simp
        go_upto_region 10 with (fail)
        have BH := Lib.hid (BG.out.trans ((Below.refl _ _).drew.mono BG.out.size))
        refine wp_region_held (S := fun _ => True) (by kernel_rfl) ?_
        change wpAnyH _ _ _ _ _ _ _ _ w9.drew
        obtain ⟨U2, hU⟩ : ∃ U, w9.drew = U := ⟨_, rfl⟩
        rw [hU] at BH ⊢
        clear hU BG
        refine wpAnyH_take (i := 0) (v := ?_) rfl (by kernel_rfl) (by kernel_rfl) (by kernel_rfl) (fun _ _ _ h => h) (Or.inl ⟨by kernel_rfl, ?_⟩) trivial ?_
        rotate_left 1
        · (intro w hS; clear hS; go_simp; try (with_reducible rfl))
        refine wpAnyH_take (i := 1) (v := ?_) rfl (by kernel_rfl) (by kernel_rfl) (by kernel_rfl) (fun _ _ _ h => h) (Or.inl ⟨by kernel_rfl, ?_⟩) trivial ?_
        rotate_left 1
        · (intro w hS; clear hS; go_simp; try (with_reducible rfl))
        refine wpAnyH_take (i := 2) (v := ?_) rfl (by kernel_rfl) (by kernel_rfl) (by kernel_rfl) (fun _ _ _ h => h) (Or.inl ⟨by kernel_rfl, ?_⟩) trivial ?_
        rotate_left 1
        · (intro w hS; clear hS; go_simp; try (with_reducible rfl))
        refine wpAnyH_take (i := 3) (v := ?_) rfl (by kernel_rfl) (by kernel_rfl) (by kernel_rfl) (fun _ _ _ h => h) (Or.inl ⟨by kernel_rfl, ?_⟩) trivial ?_
        rotate_left 1
        · (intro w hS; clear hS; go_simp; try (with_reducible rfl))
        refine wpAnyH_take (i := 4) (v := ?_) rfl (by kernel_rfl) (by kernel_rfl) (by kernel_rfl) (fun _ _ _ h => h) (Or.inl ⟨by kernel_rfl, ?_⟩) trivial ?_
        rotate_left 1
        · (intro w hS; clear hS; go_simp; try (with_reducible rfl))
        refine wpAnyH_take (i := 5) (v := ?_) rfl (by kernel_rfl) (by kernel_rfl) (by kernel_rfl) (fun _ _ _ h => h) (Or.inl ⟨by kernel_rfl, ?_⟩) trivial ?_
        rotate_left 1
        · (intro w hS; clear hS; go_simp; try (with_reducible rfl))
        refine wpAnyH_take (i := 6) (v := ?_) rfl (by kernel_rfl) (by kernel_rfl) (by kernel_rfl) (fun _ _ _ h => h) (Or.inl ⟨by kernel_rfl, ?_⟩) trivial ?_
        rotate_left 1
        · (intro w hS; clear hS; go_simp; try (with_reducible rfl))
        refine wpAnyH_take (i := 7) (v := ?_) rfl (by kernel_rfl) (by kernel_rfl) (by kernel_rfl) (fun _ _ _ h => h) (Or.inl ⟨by kernel_rfl, ?_⟩) trivial ?_
        rotate_left 1
        · (intro w hS; clear hS; go_simp; try (with_reducible rfl))
        refine wpAnyH_take (i := 8) (v := ?_) rfl (by kernel_rfl) (by kernel_rfl) (by kernel_rfl) (fun _ _ _ h => h) (Or.inl ⟨by kernel_rfl, ?_⟩) trivial ?_
        rotate_left 1
        · (intro w hS; clear hS; go_simp; try (with_reducible rfl))
        refine wpAnyH_take (i := 9) (v := ?_) rfl (by kernel_rfl) (by kernel_rfl) (by kernel_rfl) (fun _ _ _ h => h) (Or.inl ⟨by kernel_rfl, ?_⟩) trivial ?_
        rotate_left 1
        · (intro w hS; clear hS; go_simp; try (with_reducible rfl))
        refine wpAnyH_take (i := 10) (v := ?_) rfl (by kernel_rfl) (by kernel_rfl) (by kernel_rfl) (fun _ _ _ h => h) (Or.inl ⟨by kernel_rfl, ?_⟩) trivial ?_
        rotate_left 1
        · (intro w hS; clear hS; go_simp; try (with_reducible rfl))
        refine wpAnyH_ready (rs := [11]) (by kernel_rfl) (by simp) ?_
        refine AllReadyH.cons rfl (fun K hK => ?_) AllReadyH.nil
        go_simp
        refine (V2.out U2 BH.out).mono ?_
        rintro e wa ⟨rfl, ba⟩
        have BI := Lib.hid (BH.out.trans (ba.mono BH.out.size))
        clear ba BH
        refine hK.out _ _ trivial (fun _ => ?_)
        clear hK K
        refine wpAnyH_take (i := 12) (v := ?_) rfl (by kernel_rfl) (by kernel_rfl) (by kernel_rfl) (fun _ _ _ h => h) (Or.inl ⟨by kernel_rfl, ?_⟩) trivial ?_
        rotate_left 1
        · (intro w hS; clear hS; go_simp; try (with_reducible rfl))
        refine wpAnyH_done (by kernel_rfl) ?_ _
        go_simp
        go_wp2_with fail
        go_ret
        exact ⟨rfl, BI.out⟩
      · have e1 : ((n1 : Int) != 0) = true := by rw [bne_iff_ne]; omega
        obtain rfl : r = 3 := HRES.out.trans (show (if n1 = 0 then n2 else 3) = 3 from if_neg hn)
        clear hn
        refine wpAnyH_take (i := 30) (v := ?_) rfl (by kernel_rfl) (by kernel_rfl) (by kernel_rfl) (fun _ _ _ h => h) (Or.inl ⟨by kernel_rfl, ?_⟩) trivial ?_
        rotate_left 1
        · (intro w hS; clear hS; go_simp; try (with_reducible rfl))
        refine wpAnyH_take (i := 31) (v := ?_) rfl (by kernel_rfl) (by kernel_rfl) (by kernel_rfl) (fun _ _ _ h => h) (Or.inl ⟨by kernel_rfl, ?_⟩) trivial ?_
        rotate_left 1
        · (intro w hS; clear hS; go_simp; try (with_reducible rfl))
        refine wpAnyH_done (by kernel_rfl) ?_ _
        go_simp
        go_wp2_with fail
        go_ret
        exact ⟨rfl, BG.out⟩
end Go.Proofs.YtohgggblnnokeaaGreatDoor
