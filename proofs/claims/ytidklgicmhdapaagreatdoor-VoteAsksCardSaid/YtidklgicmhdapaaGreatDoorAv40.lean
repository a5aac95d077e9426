/-
  Text of ANY place
-/
import Derived.Test.YtidklgicmhdapaaGreatDoorAv10
import Derived.Test.YtidklgicmhdapaaGreatDoorAv39
namespace Go.Proofs.YtidklgicmhdapaaGreatDoor
open Go Go.RowKit Sh

structure QTG (w0 w2 W : World) (a : List Nat) (p : Int) (l : List Nat) (ls : List Nat) : Prop where
  wr : Wr W (fun k => w2.heap.size ≤ k) w2.heap.size ls
  ba : Blk W w0.heap.size 23 (u8s a)
  bp : Blk W (w0.heap.size + 1) 3 [.int .i64 p]
  bl : Blk W (w0.heap.size + 2) 23 (u8s l)
  lo : w0.heap.size + 2 < w2.heap.size
  b2 : Below w2.heap.size w2 W
theorem QTG.step {w0 w2 W W' : World} {a l ls ls' : List Nat} {p : Int} (h : QTG w0 w2 W a p l ls) (hw : Wr W' (fun k => w2.heap.size ≤ k) w2.heap.size ls') (hb : Below w2.heap.size W W') : QTG w0 w2 W' a p l ls' := by
  have := h.lo
  exact ⟨hw, h.ba.below hb (by omega), h.bp.below hb (by omega), h.bl.below hb (by omega), h.lo, h.b2.trans hb⟩
set_option maxRecDepth 100000 in
set_option maxHeartbeats 1000000 in
theorem vText1G_t (a l : List Nat) (p : Int) (q : Nat) (w0 w2 W : World) (h : QTG w0 w2 W a p l []) (ha : a.length = 32) (hl : l.length = 32) (hp : IntKind.u64.wrap p = (q : Int)) (hq : q < 18446744073709551616) :
    Calls Tryz.prog 36 #[.pointer (some ⟨w2.heap.size, 0, none⟩), .pointer (some ⟨w0.heap.size, 0, none⟩), .pointer (some ⟨w0.heap.size + 1, 0, none⟩), .pointer (some ⟨w0.heap.size + 2, 0, none⟩)] W fun e W' => e = .returned (.tuple #[]) ∧ Wr W' (fun k => w2.heap.size ≤ k) w2.heap.size (textV a q l) ∧ Below w2.heap.size w2 W' := by
  have i1 := hp
  have P0 := Lib.hid h
  have SM := Lib.hid (Sr.made [86, 79, 84, 69] W 5 (4, 5))
  have BA := Lib.hid ((Below.refl W.heap.size W).alloc (Nat.le_refl _) (.cells (u8s [86, 79, 84, 69]).toArray 5 (4, 5)))
  clear h hp
  go_enter Tryz.func36, Tryz.ntmps36
  have kc := fun (w : World) (C : Array Value) (n c : Nat) => Lib.run_convert_bytes_const (P := Tryz.prog) w 24 5 C n c Tryz.underlying24 Tryz.underlying5
  have RW_ := Lib.hid (raw_s [86, 79, 84, 69] (some ⟨W.heap.size, 0, none⟩) 4 4 P0.out.wr BA.out P0.out.b2.size rfl SM.out (by simp))
  go_wp2_with fail
  clear kc
  refine RW_.out.mono ?_
  rintro e w3 ⟨rfl, x3, b3⟩
  rw [List.nil_append] at x3
  have P3 := Lib.hid (P0.out.step x3 ((BA.out.mono P0.out.b2.size).trans b3))
  clear x3 b3 RW_ SM BA P0
  have SA := Lib.hid (sr_blkV P3.out.ba)
  have RW_ := Lib.hid (raw_s a (some ⟨w0.heap.size, 0, none⟩) 32 32 P3.out.wr (Below.refl _ _) P3.out.b2.size ha SA.out (by simp))
  go_wp2_with fail
  refine RW_.out.mono ?_
  rintro e w4 ⟨rfl, x4, b4⟩
  have P4 := Lib.hid (P3.out.step x4 b4)
  clear x4 b4 RW_ SA P3
  have c1 : w4.cell? ⟨w0.heap.size + 1, 0, none⟩ = some (.int .i64 p) := P4.out.bp.cell 0
  go_wp2_with fail
  refine (num_s q 4 P4.out.wr (Below.refl _ _) P4.out.b2.size (by omega) (by decide) (by decide) (by simp only [List.length_append, ha, List.length_cons, List.length_nil]; omega)).mono ?_
  rintro e w5 ⟨rfl, x5, b5⟩
  have P5 := Lib.hid (P4.out.step x5 b5)
  clear x5 b5 P4 c1 i1
  have SL := Lib.hid (sr_blkV P5.out.bl)
  have RW_ := Lib.hid (raw_s l (some ⟨w0.heap.size + 2, 0, none⟩) 32 32 P5.out.wr (Below.refl _ _) P5.out.b2.size hl SL.out (by simp only [List.length_append, ha, beN_length, List.length_cons, List.length_nil]; omega))
  go_wp2_with fail
  refine RW_.out.mono ?_
  rintro e w6 ⟨rfl, x6, b6⟩
  have P6 := Lib.hid (P5.out.step x6 b6)
  clear x6 b6 RW_ SL P5
  go_wp2_with fail
  go_end0
  exact ⟨rfl, P6.out.wr, P6.out.b2⟩
set_option maxRecDepth 100000 in
set_option maxHeartbeats 1000000 in
theorem vTextG_t (a l : List Nat) (p : Int) (q : Nat) (w : World) (ha : a.length = 32) (hl : l.length = 32) (hp : IntKind.u64.wrap p = (q : Int)) (hq : q < 18446744073709551616) :
    Calls Tryz.prog 13 #[.agg (u8s a).toArray, .int .i64 p, .agg (u8s l).toArray] w fun e w' => ∃ u, e = .returned u ∧ Fresh 5 w w' u (textV a q l) := by
  obtain ⟨V, hV⟩ : ∃ V, ((w.alloc (.cells (u8s a).toArray 23)).alloc (.cells #[.int .i64 p] 3)).alloc (.cells (u8s l).toArray 23) = V := ⟨_, rfl⟩
  have B0 := Lib.hid (show Below w.heap.size w V from by rw [← hV]; exact (((Below.refl _ _).alloc (Nat.le_refl _) _).alloc (by simp) _).alloc (by simp; omega) _)
  have VS := Lib.hid (show w.heap.size + 2 < V.heap.size from by rw [← hV]; simp)
  have BL := Lib.hid (show Blk V w.heap.size 23 (u8s a) ∧ Blk V (w.heap.size + 1) 3 [.int .i64 p] ∧ Blk V (w.heap.size + 2) 23 (u8s l) from by
    rw [← hV]
    exact ⟨((Blk.new w 23 (u8s a)).alloc _).alloc _, (Blk.new2 w _ 3 [.int .i64 p]).alloc _, new3V w _ _ _ _⟩)
  have CALL := Lib.hid (vText1G_t a l p q w V _ ⟨Wr.new, BL.out.1.alloc _, BL.out.2.1.alloc _, BL.out.2.2.alloc _, VS.out, (Below.refl _ _).alloc (Nat.le_refl _) _⟩ ha hl hp hq)
  have WT := Lib.hid (vWritten_t 36 #[.pointer (some ⟨w.heap.size, 0, none⟩), .pointer (some ⟨w.heap.size + 1, 0, none⟩), .pointer (some ⟨w.heap.size + 2, 0, none⟩)] (textV a q l) V (enters_of Tryz.func36 (by kernel_rfl) rfl) (by rw [textV_len ha hl]; omega) CALL.out)
  have hmf : ∀ (fn : Fn) (first cap : Array Value) (w : World), (Instr.makeFunc fn first cap).run Tryz.prog w = .ok (.func fn first cap) w := fun _ _ _ _ => rfl
  clear CALL BL VS hp
  go_enter Tryz.func13, Tryz.ntmps13
  go_wp2_with fail
  clear hV
  refine WT.out.mono ?_
  rintro e w2 ⟨u, rfl, fr⟩
  have FR := Lib.hid (show Fresh 5 w w2 u (textV a q l) from ⟨own_base fr.1 (fun k hk => Nat.le_trans B0.out.size (fr.1.lt k hk).1), B0.out.trans (fr.2.mono B0.out.size)⟩)
  clear fr WT
  go_wp2_with fail
  go_ret
  exact ⟨u, rfl, FR.out⟩
set_option maxRecDepth 100000 in
set_option maxHeartbeats 2000000 in
theorem refTextG_t (a l : List Nat) (p : Int) (q : Nat) (w : World) (ha : a.length = 32) (hl : l.length = 32) (hp : IntKind.u64.wrap p = (q : Int)) :
    Calls Tryz.prog 14 #[.agg (u8s a).toArray, .int .i64 p, .agg (u8s l).toArray] w fun e w' => ∃ u, e = .returned u ∧ Fresh 5 w w' u ([86, 79, 84, 69] ++ a ++ beN q 4 ++ l) := by
  have HCE := Lib.hid (fun p1 p2 p3 p4 c1 c2 c3 c4 => cat_textX a l q p1 p2 p3 p4 c1 c2 c3 c4)
  have HTL := Lib.hid (show ([86, 79, 84, 69] ++ a ++ beN q 4 ++ l).length = 72 by simp only [List.length_append, ha, hl, beN_length]; rfl)
  obtain ⟨T, hT⟩ : ∃ T, [86, 79, 84, 69] ++ a ++ beN q 4 ++ l = T := ⟨_, rfl⟩
  rw [hT] at HTL ⊢; simp only [hT] at HCE
  clear hT
  have i1 := hp
  have HA := Lib.hid ha; have HL := Lib.hid hl
  have X0 := Lib.hid (show TX w ((w.alloc (.cells (u8s a).toArray 23)).alloc (.cells (u8s l).toArray 23)) a l from
    ⟨(Blk.new w 23 (u8s a)).alloc _, Blk.new2 w _ 23 (u8s l), ((Below.refl _ _).alloc (Nat.le_refl _) _).alloc (by simp) _⟩)
  clear ha hl hp
  go_enter Tryz.func14, Tryz.ntmps14
  go_upto_region 1 with (fail)
  refine world_is (fun W => TX w W a l) X0.out ?_
  rintro W x1
  have X1 := Lib.hid (x1.below (show Below W.heap.size W W.drew from (Below.refl _ _).drew))
  clear x1 X0
  refine wp_region_held (S := fun _ => True) (by kernel_rfl) ?_
  change wpAnyH _ _ _ _ _ _ _ _ W.drew
  obtain ⟨V, hV⟩ : ∃ V, W.drew = V := ⟨_, rfl⟩
  rw [hV] at X1 ⊢
  clear hV
  refine wpAnyH_take (i := 2) (v := ?_) rfl (by kernel_rfl) (by kernel_rfl) (by kernel_rfl) (fun _ _ _ h => h) (Or.inl ⟨by kernel_rfl, ?_⟩) trivial ?_
  rotate_left 1
  · (intro w hS; clear hS; go_simp; try (with_reducible rfl))
  refine wpAnyH_take (i := 3) (v := ?_) rfl (by kernel_rfl) (by kernel_rfl) (by kernel_rfl) (fun _ _ _ h => h) (Or.inl ⟨by kernel_rfl, ?_⟩) trivial ?_
  rotate_left 1
  · (intro w hS; clear hS; go_simp; try (with_reducible rfl))
  refine wpAnyH_take (i := 4) (v := ?_) rfl (by kernel_rfl) (by kernel_rfl) (by kernel_rfl) (fun _ _ _ h => h) (Or.inl ⟨by kernel_rfl, ?_⟩) trivial ?_
  rotate_left 1
  · (intro w hS; clear hS; go_simp; try (with_reducible rfl))
  refine wpAnyH_take (i := 6) (v := ?_) rfl (by kernel_rfl) (by kernel_rfl) (by kernel_rfl) (fun _ _ _ h => h) (Or.inl ⟨by kernel_rfl, ?_⟩) trivial ?_
  rotate_left 1
  · (intro w hS; clear hS; go_simp; try (with_reducible rfl))
  refine wpAnyH_ready (rs := [0, 5]) (by kernel_rfl) (by simp) ?_
  refine AllReadyH.cons rfl (fun K hK => ?_) (AllReadyH.cons rfl (fun K hK => ?_) AllReadyH.nil)
  · skip
    go_simp
    have bg := Blk.new V 5 (u8s [86, 79, 84, 69])
    have bq := (Below.refl (V).heap.size V).alloc (Nat.le_refl _) (.cells (u8s [86, 79, 84, 69]).toArray 5)
    have X2 := Lib.hid (X1.out.below bq)
    refine hK.out _ _ trivial (fun _ => ?_)
    clear hK K
    change wpAnyH _ _ _ _ _ _ _ _ ((V).alloc (.cells (u8s [86, 79, 84, 69]).toArray 5))
    obtain ⟨U, hU⟩ : ∃ U, (V).alloc (.cells (u8s [86, 79, 84, 69]).toArray 5) = U := ⟨_, rfl⟩
    rw [hU] at bg bq X2 ⊢
    obtain ⟨gl, hgl⟩ : ∃ z, (V).heap.size = z := ⟨_, rfl⟩
    rw [hgl] at bg ⊢
    have BG := Lib.hid bg; have BQ := Lib.hid bq
    have HGL := Lib.hid (show w.heap.size + 1 < gl from by rw [← hgl]; exact X1.out.l.lt)
    have HGE := Lib.hid hgl
    clear bg bq hU hgl X1
    refine wpAnyH_ready (rs := [1, 5]) (by kernel_rfl) (by simp) ?_
    refine AllReadyH.cons rfl (fun K hK => ?_) (AllReadyH.cons rfl (fun K hK => ?_) AllReadyH.nil)
    · skip
      obtain ⟨Y, hr, hg, hk⟩ := frz_run (P := Tryz.prog) U 24 5 gl (u8s [86, 79, 84, 69]).toArray 4 4 Tryz.underlying24 Tryz.underlying5 BG.out
      go_simp
      have SL := Lib.hid (sr_marked hg)
      have X3 := Lib.hid (show TX w Y a l from ⟨X2.out.a.kept hk (by have := HGL.out; omega), X2.out.l.kept hk (by have := HGL.out; omega), ⟨hk.os.trans X2.out.bel.os, hk.tape.trans X2.out.bel.tape, hk.output.trans X2.out.bel.output, Nat.le_trans X2.out.bel.size hk.size, fun k h => (hk.block k (Nat.lt_of_lt_of_le h X2.out.bel.size) (by have := HGL.out; omega)).trans (X2.out.bel.block k h)⟩⟩)
      refine hK.out _ _ trivial (fun _ => ?_)
      clear hK K hr hg hk BG BQ X2
      refine wpAnyH_ready (rs := [5]) (by kernel_rfl) (by simp) ?_
      refine AllReadyH.cons rfl (fun K hK => ?_) AllReadyH.nil
      go_simp
      refine (refnum_t q 4 Y (by decide) (by decide)).mono ?_
      rintro e w5 ⟨u5, rfl, f5⟩
      obtain ⟨An, cn, rfl, hcn, sn, b5⟩ := fresh_opK f5
      rw [beN_length] at hcn ⊢
      have X5 := Lib.hid (X3.out.below b5); have SN := Lib.hid sn
      have SL := Lib.hid (SL.out.below b5)
      refine hK.out _ _ trivial (fun _ => ?_)
      clear hK K f5 hcn sn b5 X3
      have bx := (Below.refl (w5).heap.size w5).alloc (Nat.le_refl _) (.cells (partsK [⟨some ⟨gl, 0, none⟩, 4, [86, 79, 84, 69]⟩, ⟨some ⟨w.heap.size, 0, none⟩, 32, a⟩, ⟨An, cn, beN q 4⟩, ⟨some ⟨w.heap.size + 1, 0, none⟩, 32, l⟩]).toArray 24)
      have XB7 := Lib.hid (X5.out.below bx)
      have SX := Lib.hid (show ∀ z ∈ ([⟨some ⟨gl, 0, none⟩, 4, [86, 79, 84, 69]⟩, ⟨some ⟨w.heap.size, 0, none⟩, 32, a⟩, ⟨An, cn, beN q 4⟩, ⟨some ⟨w.heap.size + 1, 0, none⟩, 32, l⟩] : List PartK), Sr ((w5).alloc (.cells (partsK [⟨some ⟨gl, 0, none⟩, 4, [86, 79, 84, 69]⟩, ⟨some ⟨w.heap.size, 0, none⟩, 32, a⟩, ⟨An, cn, beN q 4⟩, ⟨some ⟨w.heap.size + 1, 0, none⟩, 32, l⟩]).toArray 24)) z.A z.X by
        intro z hz
        simp only [List.mem_cons, List.not_mem_nil, or_false] at hz
        rcases hz with rfl | rfl | rfl | rfl
        · exact SL.out.below bx
        · exact (Sr.of_blk (rest := []) X5.out.a (by simp)).below bx
        · exact SN.out.below bx
        · exact (Sr.of_blk (rest := []) X5.out.l (by simp)).below bx)
      have BKP := Lib.hid (Blk.new w5 24 (partsK [⟨some ⟨gl, 0, none⟩, 4, [86, 79, 84, 69]⟩, ⟨some ⟨w.heap.size, 0, none⟩, 32, a⟩, ⟨An, cn, beN q 4⟩, ⟨some ⟨w.heap.size + 1, 0, none⟩, 32, l⟩]))
      have HCX := Lib.hid (HCE.out (some ⟨gl, 0, none⟩) (some ⟨w.heap.size, 0, none⟩) An (some ⟨w.heap.size + 1, 0, none⟩) 4 32 cn 32)
      have HPV := Lib.hid (show partsK [⟨some ⟨gl, 0, none⟩, 4, [86, 79, 84, 69]⟩, ⟨some ⟨w.heap.size, 0, none⟩, 32, a⟩, ⟨An, cn, beN q 4⟩, ⟨some ⟨w.heap.size + 1, 0, none⟩, 32, l⟩] = [.slice (some ⟨gl, 0, none⟩) 4 4, .slice (some ⟨w.heap.size, 0, none⟩) 32 32, .slice An 4 cn, .slice (some ⟨w.heap.size + 1, 0, none⟩) 32 32] by simp only [partsK, List.map_cons, List.map_nil, beN_length, HA.out, HL.out]; rfl)
      rw [HPV.out] at XB7 SX BKP
      clear bx SL SN X5
      refine wpAnyH_ready (rs := [7]) (by kernel_rfl) (by simp) ?_
      refine AllReadyH.cons rfl (fun K hK => ?_) AllReadyH.nil
      go_simp
      refine hK.out _ _ trivial (fun _ => ?_)
      clear hK K
      refine wpAnyH_ready (rs := [8]) (by kernel_rfl) (by simp) ?_
      refine AllReadyH.cons rfl (fun K hK => ?_) AllReadyH.nil
      go_simp
      refine (catK_t [⟨some ⟨gl, 0, none⟩, 4, [86, 79, 84, 69]⟩, ⟨some ⟨w.heap.size, 0, none⟩, 32, a⟩, ⟨An, cn, beN q 4⟩, ⟨some ⟨w.heap.size + 1, 0, none⟩, 32, l⟩] (w5).heap.size 4 4 24 _ rfl (by rw [HPV.out]; exact BKP.out) SX.out (by rw [HCX.out, HTL.out]; decide) (by decide)).mono ?_
      rintro e w9 ⟨v9, rfl, f9⟩
      rw [HCX.out] at f9
      have F9 := Lib.hid (show Fresh 5 w w9 v9 T from ⟨own_base f9.1 (fun k e => Nat.le_trans XB7.out.bel.size (f9.1.lt k e).1), XB7.out.bel.trans (f9.2.mono XB7.out.bel.size)⟩)
      clear f9 SX BKP HPV XB7
      refine hK.out _ _ trivial (fun _ => ?_)
      clear hK K
      refine wpAnyH_take (i := 9) (v := ?_) rfl (by kernel_rfl) (by kernel_rfl) (by kernel_rfl) (fun _ _ _ h => h) (Or.inl ⟨by kernel_rfl, ?_⟩) trivial ?_
      rotate_left 1
      · (intro w hS; clear hS; go_simp; try (with_reducible rfl))
      refine wpAnyH_done (by kernel_rfl) ?_ _
      go_simp
      go_wp2_with fail
      go_ret
      exact ⟨v9, rfl, F9.out⟩
    · skip
      go_simp
      refine (refnum_t q 4 U (by decide) (by decide)).mono ?_
      rintro e w5 ⟨u5, rfl, f5⟩
      obtain ⟨An, cn, rfl, hcn, sn, b5⟩ := fresh_opK f5
      have hab : ∀ ad : Addr, An = some ad → U.heap.size ≤ ad.block := fun ad e => by subst e; exact (f5.1.lt ad.block rfl).1
      have hgu := BG.out.lt
      rw [beN_length] at hcn ⊢
      have X5 := Lib.hid (X2.out.below b5)
      have BG := Lib.hid (BG.out.below b5 BG.out.lt)
      refine hK.out _ _ trivial (fun _ => ?_)
      clear hK K f5 hcn b5 X2 BQ
      refine wpAnyH_ready (rs := [1]) (by kernel_rfl) (by simp) ?_
      refine AllReadyH.cons rfl (fun K hK => ?_) AllReadyH.nil
      obtain ⟨Y, hr, hg, hk⟩ := frz_run (P := Tryz.prog) w5 24 5 gl (u8s [86, 79, 84, 69]).toArray 4 4 Tryz.underlying24 Tryz.underlying5 BG.out
      go_simp
      have SL := Lib.hid (sr_marked hg)
      have X6 := Lib.hid (show TX w Y a l from ⟨X5.out.a.kept hk (by have := HGL.out; omega), X5.out.l.kept hk (by have := HGL.out; omega), ⟨hk.os.trans X5.out.bel.os, hk.tape.trans X5.out.bel.tape, hk.output.trans X5.out.bel.output, Nat.le_trans X5.out.bel.size hk.size, fun k h => (hk.block k (Nat.lt_of_lt_of_le h X5.out.bel.size) (by have := HGL.out; omega)).trans (X5.out.bel.block k h)⟩⟩)
      have SN := Lib.hid (sn.kept hk (fun _ ad e q => by have h1 := hab ad e; have h2 : ad.block = gl := q; omega))
      refine hK.out _ _ trivial (fun _ => ?_)
      clear hK K hr hg hk BG X5 sn hab hgu
      have bx := (Below.refl (Y).heap.size Y).alloc (Nat.le_refl _) (.cells (partsK [⟨some ⟨gl, 0, none⟩, 4, [86, 79, 84, 69]⟩, ⟨some ⟨w.heap.size, 0, none⟩, 32, a⟩, ⟨An, cn, beN q 4⟩, ⟨some ⟨w.heap.size + 1, 0, none⟩, 32, l⟩]).toArray 24)
      have XB7 := Lib.hid (X6.out.below bx)
      have SX := Lib.hid (show ∀ z ∈ ([⟨some ⟨gl, 0, none⟩, 4, [86, 79, 84, 69]⟩, ⟨some ⟨w.heap.size, 0, none⟩, 32, a⟩, ⟨An, cn, beN q 4⟩, ⟨some ⟨w.heap.size + 1, 0, none⟩, 32, l⟩] : List PartK), Sr ((Y).alloc (.cells (partsK [⟨some ⟨gl, 0, none⟩, 4, [86, 79, 84, 69]⟩, ⟨some ⟨w.heap.size, 0, none⟩, 32, a⟩, ⟨An, cn, beN q 4⟩, ⟨some ⟨w.heap.size + 1, 0, none⟩, 32, l⟩]).toArray 24)) z.A z.X by
        intro z hz
        simp only [List.mem_cons, List.not_mem_nil, or_false] at hz
        rcases hz with rfl | rfl | rfl | rfl
        · exact SL.out.below bx
        · exact (Sr.of_blk (rest := []) X6.out.a (by simp)).below bx
        · exact SN.out.below bx
        · exact (Sr.of_blk (rest := []) X6.out.l (by simp)).below bx)
      have BKP := Lib.hid (Blk.new Y 24 (partsK [⟨some ⟨gl, 0, none⟩, 4, [86, 79, 84, 69]⟩, ⟨some ⟨w.heap.size, 0, none⟩, 32, a⟩, ⟨An, cn, beN q 4⟩, ⟨some ⟨w.heap.size + 1, 0, none⟩, 32, l⟩]))
      have HCX := Lib.hid (HCE.out (some ⟨gl, 0, none⟩) (some ⟨w.heap.size, 0, none⟩) An (some ⟨w.heap.size + 1, 0, none⟩) 4 32 cn 32)
      have HPV := Lib.hid (show partsK [⟨some ⟨gl, 0, none⟩, 4, [86, 79, 84, 69]⟩, ⟨some ⟨w.heap.size, 0, none⟩, 32, a⟩, ⟨An, cn, beN q 4⟩, ⟨some ⟨w.heap.size + 1, 0, none⟩, 32, l⟩] = [.slice (some ⟨gl, 0, none⟩) 4 4, .slice (some ⟨w.heap.size, 0, none⟩) 32 32, .slice An 4 cn, .slice (some ⟨w.heap.size + 1, 0, none⟩) 32 32] by simp only [partsK, List.map_cons, List.map_nil, beN_length, HA.out, HL.out]; rfl)
      rw [HPV.out] at XB7 SX BKP
      clear bx SL SN X6
      refine wpAnyH_ready (rs := [7]) (by kernel_rfl) (by simp) ?_
      refine AllReadyH.cons rfl (fun K hK => ?_) AllReadyH.nil
      go_simp
      refine hK.out _ _ trivial (fun _ => ?_)
      clear hK K
      refine wpAnyH_ready (rs := [8]) (by kernel_rfl) (by simp) ?_
      refine AllReadyH.cons rfl (fun K hK => ?_) AllReadyH.nil
      go_simp
      refine (catK_t [⟨some ⟨gl, 0, none⟩, 4, [86, 79, 84, 69]⟩, ⟨some ⟨w.heap.size, 0, none⟩, 32, a⟩, ⟨An, cn, beN q 4⟩, ⟨some ⟨w.heap.size + 1, 0, none⟩, 32, l⟩] (Y).heap.size 4 4 24 _ rfl (by rw [HPV.out]; exact BKP.out) SX.out (by rw [HCX.out, HTL.out]; decide) (by decide)).mono ?_
      rintro e w9 ⟨v9, rfl, f9⟩
      rw [HCX.out] at f9
      have F9 := Lib.hid (show Fresh 5 w w9 v9 T from ⟨own_base f9.1 (fun k e => Nat.le_trans XB7.out.bel.size (f9.1.lt k e).1), XB7.out.bel.trans (f9.2.mono XB7.out.bel.size)⟩)
      clear f9 SX BKP HPV XB7
      refine hK.out _ _ trivial (fun _ => ?_)
      clear hK K
      refine wpAnyH_take (i := 9) (v := ?_) rfl (by kernel_rfl) (by kernel_rfl) (by kernel_rfl) (fun _ _ _ h => h) (Or.inl ⟨by kernel_rfl, ?_⟩) trivial ?_
      rotate_left 1
      · (intro w hS; clear hS; go_simp; try (with_reducible rfl))
      refine wpAnyH_done (by kernel_rfl) ?_ _
      go_simp
      go_wp2_with fail
      go_ret
      exact ⟨v9, rfl, F9.out⟩
  · skip
    rw [if_pos (by kernel_rfl)]
    go_simp
    refine (refnum_t q 4 V (by decide) (by decide)).mono ?_
    rintro e w5 ⟨u5, rfl, f5⟩
    obtain ⟨An, cn, rfl, hcn, sn, b5⟩ := fresh_opK f5
    rw [beN_length] at hcn ⊢
    have X5 := Lib.hid (X1.out.below b5); have SN5 := Lib.hid sn
    refine hK.out _ _ trivial (fun _ => ?_)
    clear hK K f5 hcn sn b5 X1
    refine wpAnyH_ready (rs := [0]) (by kernel_rfl) (by simp) ?_
    refine AllReadyH.cons rfl (fun K hK => ?_) AllReadyH.nil
    go_simp
    have bg := Blk.new w5 5 (u8s [86, 79, 84, 69])
    have bq := (Below.refl (w5).heap.size w5).alloc (Nat.le_refl _) (.cells (u8s [86, 79, 84, 69]).toArray 5)
    have X6 := Lib.hid (X5.out.below bq)
    refine hK.out _ _ trivial (fun _ => ?_)
    clear hK K
    change wpAnyH _ _ _ _ _ _ _ _ ((w5).alloc (.cells (u8s [86, 79, 84, 69]).toArray 5))
    obtain ⟨U, hU⟩ : ∃ U, (w5).alloc (.cells (u8s [86, 79, 84, 69]).toArray 5) = U := ⟨_, rfl⟩
    rw [hU] at bg bq X6 ⊢
    obtain ⟨gl, hgl⟩ : ∃ z, (w5).heap.size = z := ⟨_, rfl⟩
    rw [hgl] at bg ⊢
    have BG := Lib.hid bg; have BQ := Lib.hid bq
    have HGL := Lib.hid (show w.heap.size + 1 < gl from by rw [← hgl]; exact X5.out.l.lt)
    have HGE := Lib.hid hgl
    clear bg bq hU hgl X5
    refine wpAnyH_ready (rs := [1]) (by kernel_rfl) (by simp) ?_
    refine AllReadyH.cons rfl (fun K hK => ?_) AllReadyH.nil
    obtain ⟨Y, hr, hg, hk⟩ := frz_run (P := Tryz.prog) U 24 5 gl (u8s [86, 79, 84, 69]).toArray 4 4 Tryz.underlying24 Tryz.underlying5 BG.out
    go_simp
    have SL := Lib.hid (sr_marked hg)
    have X7 := Lib.hid (show TX w Y a l from ⟨X6.out.a.kept hk (by have := HGL.out; omega), X6.out.l.kept hk (by have := HGL.out; omega), ⟨hk.os.trans X6.out.bel.os, hk.tape.trans X6.out.bel.tape, hk.output.trans X6.out.bel.output, Nat.le_trans X6.out.bel.size hk.size, fun k h => (hk.block k (Nat.lt_of_lt_of_le h X6.out.bel.size) (by have := HGL.out; omega)).trans (X6.out.bel.block k h)⟩⟩)
    have SN := Lib.hid ((SN5.out.below BQ.out).kept hk (fun hx ad e q => by have h1 := SN5.out.lt hx ad e; have h2 : ad.block = gl := q; have h3 := HGE.out; omega))
    refine hK.out _ _ trivial (fun _ => ?_)
    clear hK K hr hg hk BG BQ X6 SN5
    have bx := (Below.refl (Y).heap.size Y).alloc (Nat.le_refl _) (.cells (partsK [⟨some ⟨gl, 0, none⟩, 4, [86, 79, 84, 69]⟩, ⟨some ⟨w.heap.size, 0, none⟩, 32, a⟩, ⟨An, cn, beN q 4⟩, ⟨some ⟨w.heap.size + 1, 0, none⟩, 32, l⟩]).toArray 24)
    have XB7 := Lib.hid (X7.out.below bx)
    have SX := Lib.hid (show ∀ z ∈ ([⟨some ⟨gl, 0, none⟩, 4, [86, 79, 84, 69]⟩, ⟨some ⟨w.heap.size, 0, none⟩, 32, a⟩, ⟨An, cn, beN q 4⟩, ⟨some ⟨w.heap.size + 1, 0, none⟩, 32, l⟩] : List PartK), Sr ((Y).alloc (.cells (partsK [⟨some ⟨gl, 0, none⟩, 4, [86, 79, 84, 69]⟩, ⟨some ⟨w.heap.size, 0, none⟩, 32, a⟩, ⟨An, cn, beN q 4⟩, ⟨some ⟨w.heap.size + 1, 0, none⟩, 32, l⟩]).toArray 24)) z.A z.X by
      intro z hz
      simp only [List.mem_cons, List.not_mem_nil, or_false] at hz
      rcases hz with rfl | rfl | rfl | rfl
      · exact SL.out.below bx
      · exact (Sr.of_blk (rest := []) X7.out.a (by simp)).below bx
      · exact SN.out.below bx
      · exact (Sr.of_blk (rest := []) X7.out.l (by simp)).below bx)
    have BKP := Lib.hid (Blk.new Y 24 (partsK [⟨some ⟨gl, 0, none⟩, 4, [86, 79, 84, 69]⟩, ⟨some ⟨w.heap.size, 0, none⟩, 32, a⟩, ⟨An, cn, beN q 4⟩, ⟨some ⟨w.heap.size + 1, 0, none⟩, 32, l⟩]))
    have HCX := Lib.hid (HCE.out (some ⟨gl, 0, none⟩) (some ⟨w.heap.size, 0, none⟩) An (some ⟨w.heap.size + 1, 0, none⟩) 4 32 cn 32)
    have HPV := Lib.hid (show partsK [⟨some ⟨gl, 0, none⟩, 4, [86, 79, 84, 69]⟩, ⟨some ⟨w.heap.size, 0, none⟩, 32, a⟩, ⟨An, cn, beN q 4⟩, ⟨some ⟨w.heap.size + 1, 0, none⟩, 32, l⟩] = [.slice (some ⟨gl, 0, none⟩) 4 4, .slice (some ⟨w.heap.size, 0, none⟩) 32 32, .slice An 4 cn, .slice (some ⟨w.heap.size + 1, 0, none⟩) 32 32] by simp only [partsK, List.map_cons, List.map_nil, beN_length, HA.out, HL.out]; rfl)
    rw [HPV.out] at XB7 SX BKP
    clear bx SL SN X7
    refine wpAnyH_ready (rs := [7]) (by kernel_rfl) (by simp) ?_
    refine AllReadyH.cons rfl (fun K hK => ?_) AllReadyH.nil
    go_simp
    refine hK.out _ _ trivial (fun _ => ?_)
    clear hK K
    refine wpAnyH_ready (rs := [8]) (by kernel_rfl) (by simp) ?_
    refine AllReadyH.cons rfl (fun K hK => ?_) AllReadyH.nil
    go_simp
    refine (catK_t [⟨some ⟨gl, 0, none⟩, 4, [86, 79, 84, 69]⟩, ⟨some ⟨w.heap.size, 0, none⟩, 32, a⟩, ⟨An, cn, beN q 4⟩, ⟨some ⟨w.heap.size + 1, 0, none⟩, 32, l⟩] (Y).heap.size 4 4 24 _ rfl (by rw [HPV.out]; exact BKP.out) SX.out (by rw [HCX.out, HTL.out]; decide) (by decide)).mono ?_
    rintro e w9 ⟨v9, rfl, f9⟩
    rw [HCX.out] at f9
    have F9 := Lib.hid (show Fresh 5 w w9 v9 T from ⟨own_base f9.1 (fun k e => Nat.le_trans XB7.out.bel.size (f9.1.lt k e).1), XB7.out.bel.trans (f9.2.mono XB7.out.bel.size)⟩)
    clear f9 SX BKP HPV XB7
    refine hK.out _ _ trivial (fun _ => ?_)
    clear hK K
    refine wpAnyH_take (i := 9) (v := ?_) rfl (by kernel_rfl) (by kernel_rfl) (by kernel_rfl) (fun _ _ _ h => h) (Or.inl ⟨by kernel_rfl, ?_⟩) trivial ?_
    rotate_left 1
    · (intro w hS; clear hS; go_simp; try (with_reducible rfl))
    refine wpAnyH_done (by kernel_rfl) ?_ _
    go_simp
    go_wp2_with fail
    go_ret
    exact ⟨v9, rfl, F9.out⟩
end Go.Proofs.YtidklgicmhdapaaGreatDoor
