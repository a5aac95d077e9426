/-
  THE REFERENCE: New, without, tell.
-/
import Derived.Test.YtojianpbjckipaaDoorSrC
namespace Go.Proofs.YtojianpbjckipaaDoor
open Go Go.RowKit Sh
variable {E : Nat → Prop}

set_option maxRecDepth 100000 in
set_option maxHeartbeats 4000000 in
theorem reftell_t (w0 : World) (gg k : Nat) (x : Spv) (q : Option Addr) (c : Nat) (R : List Rpv) (r : Rv) (kd : Int) (tp : Option Addr) (t : List Fld) (tc : Nat) (W : World) (h : GW E w0 W gg x q c R) (hc : r.r.cl = (k : Int)) (h4 : k < 4) (ht : TR W tp t) (hto : OffT (GF gg q) tp t) (hte : OffT E tp t) (hn : R.length ≤ 1000) :
    Calls Tryd.prog 32 #[.pointer (some ⟨gg, 0, none⟩), .agg (rv r).toArray, .int .i64 kd, .slice tp t.length tc] W fun e W' => e = .returned (.tuple #[]) ∧ ∃ q' c', GW E w0 W' gg { x with last := x.last.set k ⟨⟨r.r.cl, r.r.sq, kd, t, false⟩, tp, tc⟩ } q' c' (R ++ [⟨⟨r.r.cl, r.r.sq, kd, t, false⟩, tp, tc⟩]) ∧ Kept (GF gg q) W W' ∧ ∀ b, OB q' b → OB q b ∨ W.heap.size ≤ b := by
  obtain ⟨y, hy⟩ : ∃ y : Rpv, ⟨⟨r.r.cl, r.r.sq, kd, t, false⟩, tp, tc⟩ = y := ⟨_, rfl⟩
  have TY := Lib.hid (show TR W y.p y.r.t by rw [← hy]; exact ht)
  have OY := Lib.hid (show OffT (GF gg q) y.p y.r.t by rw [← hy]; exact hto)
  have OYE := Lib.hid (show OffT E y.p y.r.t by rw [← hy]; exact hte)
  rw [hy]
  have H := Lib.hid h; have HN := Lib.hid hn; have HC := Lib.hid hc; have HY := Lib.hid hy
  have HGL := Lib.hid h.box.lt
  have c4 : (k : Int) < 4 := by omega
  have FY := Lib.hid (pv_size y); have F1 := Lib.hid (pv_oneA y)
  obtain ⟨V, hV⟩ : ∃ V, (W.alloc (.cells (rv r).toArray 35)).alloc (.cells (pv y).toArray 28) = V := ⟨_, rfl⟩
  have B0 := Lib.hid (show Below W.heap.size W V from by
    rw [← hV]
    exact ((Below.refl _ _).alloc (Nat.le_refl _) _).alloc (by simp) _)
  have BR := Lib.hid (show Blk V W.heap.size 35 (rv r) from by rw [← hV]; exact (Blk.new W 35 (rv r)).alloc _)
  have BY := Lib.hid (show Blk V (W.heap.size + 1) 28 (pv y) from by rw [← hV]; exact Blk.new2 W _ 28 (pv y))
  have HV := Lib.hid hV
  have BRc := Lib.hid (rv_cells ((Blk.new W 35 (rv r))))
  clear h ht hto hte hy hn hc hV
  go_enter Tryd.func32, Tryd.ntmps32
  obtain ⟨d0, d1, _, _, _, _⟩ := BRc.out
  go_upto_region 2 with (fail)
  have hV := HV.out
  rw [← HY.out] at hV
  change (W.alloc (.cells (rv r).toArray 35)).alloc (.cells #[.int .i64 r.r.cl, .int .i64 r.r.sq, .int .i64 kd, .slice tp t.length tc, .bool false] 28) = V at hV
  rw [hV]
  clear hV HV BRc d0 d1
  obtain ⟨U, hU⟩ : ∃ U, V.drew = U := ⟨_, rfl⟩
  have BU := Lib.hid (show Below W.heap.size W U from by rw [← hU]; exact B0.out.drew)
  have M1 := Lib.hid (H.out.below BU.out)
  have s0 : Blk U W.heap.size 35 (rv r) ∧ Blk U (W.heap.size + 1) 28 (pv y) := by rw [← hU]; exact ⟨BR.out.below (Below.refl _ _).drew BR.out.lt, BY.out.below (Below.refl _ _).drew BY.out.lt⟩
  have K1 := Lib.hid (show Kept (GF gg q) W U from Kept.of_below BU.out)
  obtain ⟨z, hz⟩ : ∃ z, x.last[k]? = some z := ⟨_, List.getElem?_eq_getElem (by rw [H.out.sp.l4]; exact h4)⟩
  have HZ := Lib.hid hz
  have BB := Lib.hid (show Blk U gg 68 (svL x k ++ (pv z ++ (svR x k ++ [.slice q R.length c]))) from by rw [← gB_at x k z q R.length c hz]; exact M1.out.box)
  have LL := Lib.hid (svL_len x k (by rw [H.out.sp.l4]; omega))
  clear B0 BR BY hz
  refine wp_region_held (S := fun Y => Blk Y W.heap.size 35 (rv r) ∧ Blk Y (W.heap.size + 1) 28 (pv y)) (by kernel_rfl) ?_
  change wpAnyH _ _ _ _ _ _ _ _ V.drew
  rw [hU]
  clear hU
  refine wpAnyH_take (i := 0) (v := ?_) rfl (by kernel_rfl) (by kernel_rfl) (by kernel_rfl) (fun _ _ _ h => h) (Or.inl ⟨by kernel_rfl, ?_⟩) s0 ?_
  rotate_left 1
  · (intro w hS; clear hS; go_simp; try (with_reducible rfl))
  refine wpAnyH_take (i := 1) (v := ?_) rfl (by kernel_rfl) (by kernel_rfl) (by kernel_rfl) (fun _ _ _ h => h) (Or.inl ⟨by kernel_rfl, ?_⟩) s0 ?_
  rotate_left 1
  · (intro w hS; clear hS; go_simp; try (with_reducible rfl))
  refine wpAnyH_take (i := 2) (v := ?_) rfl (by kernel_rfl) (by kernel_rfl) (by kernel_rfl) (fun _ _ _ h => h) (Or.inl ⟨by kernel_rfl, ?_⟩) s0 ?_
  rotate_left 1
  · (intro w hS; have hs := ((rv_cells hS.1).1.trans (by rw [HC.out])); clear hS; go_simp; try (with_reducible rfl))
  refine wpAnyH_take (i := 3) (v := .agg (pv y).toArray) rfl (by kernel_rfl) (by kernel_rfl) (by kernel_rfl) (fun _ _ _ h => h) (yieldsIf_load_mid (by kernel_rfl) 28 (.tmp 8) rfl (W.heap.size + 1) 0 (by go_simp) (pv y) _ (fun _ h => rows_of_blk h.2) Tryd.underlying28 rfl (FY.out)) s0 ?_
  refine wpAnyH_take (i := 4) (v := ?_) rfl (by kernel_rfl) (by kernel_rfl) (by kernel_rfl) (fun _ _ _ h => h) (Or.inl ⟨by kernel_rfl, ?_⟩) s0 ?_
  rotate_left 1
  · (intro w hS; clear hS; go_simp; try (with_reducible rfl))
  refine wpAnyH_take (i := 5) (v := ?_) rfl (by kernel_rfl) (by kernel_rfl) (by kernel_rfl) (fun _ _ _ h => h) (Or.inl ⟨by kernel_rfl, ?_⟩) s0 ?_
  rotate_left 1
  · (intro w hS; clear hS; go_simp; try (with_reducible rfl))
  refine wpAnyH_take (i := 6) (v := ?_) rfl (by kernel_rfl) (by kernel_rfl) (by kernel_rfl) (fun _ _ _ h => h) (Or.inl ⟨by kernel_rfl, ?_⟩) s0 ?_
  rotate_left 1
  · (intro w hS; clear hS; go_simp; try (with_reducible rfl))
  refine wpAnyH_ready (rs := [7]) (by kernel_rfl) (by simp) ?_
  refine AllReadyH.cons rfl (fun K hK => ?_) AllReadyH.nil
  rw [if_pos (by kernel_rfl)]
  go_simp
  refine hK.out _ _ s0 (fun _ => ?_)
  clear hK K
  refine wpAnyH_ready (rs := [8]) (by kernel_rfl) (by simp) ?_
  refine AllReadyH.cons rfl (fun K hK => ?_) AllReadyH.nil
  rw [if_pos (by kernel_rfl)]
  refine wstore_part 28 (.tmp 23) (.tmp 19) gg (5 + k * 5) 68 (svL x k) (pv z) (svR x k ++ [.slice q R.length c]) (pv y) rfl BB.out LL.out.symm rfl FY.out F1.out (by go_simp) (by go_simp) ?_
  intro w3 a1 a2 a3
  have KG := Lib.hid (show Kept (fun b => b = gg) U w3 from a2.out.keptOne rfl)
  have M2 := Lib.hid (M1.out.last (z := y) (k := k) ((TY.out.below BU.out)) OY.out OYE.out KG.out (by rw [← gB_put x k z y q R.length c HZ.out]; exact a1.out))
  have K2 := Lib.hid (show Kept (GF gg q) W w3 from K1.out.trans (KG.out.mono fun b e => .inl e))
  have s3 : Blk w3 W.heap.size 35 (rv r) ∧ Blk w3 (W.heap.size + 1) 28 (pv y) := ⟨s0.1.kept KG.out (by have := HGL.out; omega), s0.2.kept KG.out (by have := HGL.out; omega)⟩
  have BY3 := Lib.hid s3.2
  refine hK.out _ _ s3 (fun _ => ?_)
  clear hK K a1 a2 a3 s0 KG BB LL M1 K1 s3
  refine wpAnyH_done (by kernel_rfl) ?_ _
  go_simp
  go_upto_region 3 with (fail)
  obtain ⟨U3, hU⟩ : ∃ U, w3.drew = U := ⟨_, rfl⟩
  have BU3 := Lib.hid (show Below w3.heap.size w3 U3 from by rw [← hU]; exact (Below.refl _ _).drew)
  have M3 := Lib.hid (M2.out.below BU3.out)
  have K3 := Lib.hid (K2.out.trans (Kept.of_below BU3.out))
  have TY3 := Lib.hid (show TR U3 y.p y.r.t from TY.out.keptF K3.out OY.out)
  have s1 : U3.cell? ⟨gg, 25, none⟩ = some (.slice q R.length c) ∧ Blk U3 (W.heap.size + 1) 28 (pv y) := ⟨M3.out.out, BY3.out.below BU3.out BY3.out.lt⟩
  clear M2 K2 BY3
  refine wp_region_E (fun Y => Y.cell? ⟨gg, 25, none⟩ = some (.slice q R.length c) ∧ Blk Y (W.heap.size + 1) 28 (pv y)) (fun i => i == 10) (by kernel_rfl) ?_
  change wpAnyE _ _ _ _ _ _ _ _ _ w3.drew
  rw [hU]
  clear hU
  refine wpAnyE_take (i := 0) (v := ?_) rfl (by kernel_rfl) (by kernel_rfl) (by kernel_rfl) (by kernel_rfl) (fun _ _ _ h => h) (Or.inl ⟨by kernel_rfl, ?_⟩) s1 ?_
  rotate_left 1
  · (intro w hS; clear hS; go_simp; try (with_reducible rfl))
  refine wpAnyE_take (i := 1) (v := ?_) rfl (by kernel_rfl) (by kernel_rfl) (by kernel_rfl) (by kernel_rfl) (fun _ _ _ h => h) (Or.inl ⟨by kernel_rfl, ?_⟩) s1 ?_
  rotate_left 1
  · (intro w hS; clear hS; go_simp; try (with_reducible rfl))
  refine wpAnyE_take (i := 2) (v := ?_) rfl (by kernel_rfl) (by kernel_rfl) (by kernel_rfl) (by kernel_rfl) (fun _ _ _ h => h) (Or.inl ⟨by kernel_rfl, ?_⟩) s1 ?_
  rotate_left 1
  · (intro w hS; clear hS; go_simp; try (with_reducible rfl))
  refine wpAnyE_take (i := 3) (v := ?_) rfl (by kernel_rfl) (by kernel_rfl) (by kernel_rfl) (by kernel_rfl) (fun _ _ _ h => h) (Or.inl ⟨by kernel_rfl, ?_⟩) s1 ?_
  rotate_left 1
  · (intro w hS; clear hS; go_simp; try (with_reducible rfl))
  refine wpAnyE_take (i := 4) (v := ?_) rfl (by kernel_rfl) (by kernel_rfl) (by kernel_rfl) (by kernel_rfl) (fun _ _ _ h => h) (Or.inl ⟨by kernel_rfl, ?_⟩) s1 ?_
  rotate_left 1
  · (intro w hS; have hs := hS.1; clear hS; go_simp; try (with_reducible rfl))
  refine wpAnyE_take (i := 5) (v := .agg (pv y).toArray) rfl (by kernel_rfl) (by kernel_rfl) (by kernel_rfl) (by kernel_rfl) (fun _ _ _ h => h) (yieldsIf_load_mid (by kernel_rfl) 28 (.tmp 8) rfl (W.heap.size + 1) 0 (by go_simp) (pv y) _ (fun _ h => rows_of_blk h.2) Tryd.underlying28 rfl (FY.out)) s1 ?_
  have BA := Lib.hid ((Below.refl U3.heap.size U3).alloc (Nat.le_refl _) (.cells (pv y).toArray 28))
  have M4 := Lib.hid (M3.out.below BA.out)
  have K4 := Lib.hid (K3.out.trans (Kept.of_below BA.out))
  have R1 := Lib.hid (row_one pv 5 y U3 28)
  have s2 : (U3.alloc (.cells (pv y).toArray 28)).cell? ⟨gg, 25, none⟩ = some (.slice q R.length c) ∧ Blk (U3.alloc (.cells (pv y).toArray 28)) (W.heap.size + 1) 28 (pv y) := ⟨M4.out.out, s1.2.alloc _⟩
  have TY4 := Lib.hid (TY3.out.below BA.out)
  refine wpAnyE_one (i := 6) (by kernel_rfl) rfl (by kernel_rfl) (fun K hK => ?_)
  refine wp_build1 39 28 (.tmp 29) rfl (pv y) rfl (build_pv y _) ?_
  refine hK.out _ _ (.inr s2) ?_
  clear hK K
  obtain ⟨U4, hU4⟩ : ∃ U', U3.alloc (.cells (pv y).toArray 28) = U' := ⟨_, rfl⟩
  rw [hU4] at BA M4 K4 R1 s2 TY4 ⊢
  clear hU4 s1 M3 K3 TY3
  refine wpAnyE_one (i := 7) (by kernel_rfl) rfl (by kernel_rfl) (fun K hK => ?_)
  refine wp_append_rows (.tmp 28) (.tmp 30) 39 ?_ 28 Tryd.underlying39 infoP rfl (by decide) (by decide) pv_len pv_one w0.heap.size (.slice q R.length c) R.length (R.flatMap pv) ?_ M4.out.ro (some ⟨U3.heap.size, 0, none⟩) 1 1 ?_ [y] rfl R1.out (by have := HN.out; omega) M4.out.bel.size ?_
  · rfl
  · go_simp
  · go_simp
  intro v1 w5 h2 h3 h5 h6
  obtain ⟨q9, c9, hv, _⟩ := own_form h2.out
  subst hv
  obtain ⟨M6, K6, Q6⟩ := M4.out.more TY4.out OY.out h2.out h3.out h5.out
  have M6H := Lib.hid M6; have K6H := Lib.hid (K4.out.trans K6); have Q6H := Lib.hid Q6
  have HSZ := Lib.hid (Nat.le_trans K4.out.size (Nat.le_refl U4.heap.size))
  have ct5 : w5.cell? ⟨gg, 25, none⟩ = some (.slice q R.length c) := ((own_grown_blk M4.out.ro h3.out M4.out.box (by decide)).cell 25).trans (gB_25 M4.out.sp.l4)
  have fg5 := (own_grown_blk M4.out.ro h3.out M4.out.box (by decide)).frozen 25
  have s5 : w5.cell? ⟨gg, 25, none⟩ = some (.slice q R.length c) ∧ Blk w5 (W.heap.size + 1) 28 (pv y) := ⟨ct5, (h3.out.block _ s2.2.lt (fun e => by have := (H.out.ro.lt _ e.symm).2; omega)).trans s2.2⟩
  refine hK.out _ _ (.inr s5) ?_
  clear hK K M6 K6 Q6 h2 h3 h5 h6 s2 M4 BA R1 TY4
  refine wpAnyE_one (i := 8) (by kernel_rfl) rfl (by kernel_rfl) (fun K hK => ?_)
  go_simp
  refine hK.out _ _ (.inr s5) ?_
  clear hK K
  refine wpAnyE_one (i := 9) (by kernel_rfl) rfl (by kernel_rfl) (fun K hK => ?_)
  go_simp
  refine hK.out _ _ (.inr s5) ?_
  clear hK K
  refine wpAnyE_one (i := 10) (by kernel_rfl) rfl (by kernel_rfl) (fun K hK => ?_)
  go_simp
  refine hK.out _ _ (.inl rfl) ?_
  clear hK K
  refine wpAnyE_done (by kernel_rfl) ?_ _
  go_simp
  go_wp2_with fail
  go_end0
  exact ⟨rfl, q9, c9, M6H.out, K6H.out, fun b hb => (Q6H.out b hb).imp id (fun e => Nat.le_trans HSZ.out e)⟩
end Go.Proofs.YtojianpbjckipaaDoor
