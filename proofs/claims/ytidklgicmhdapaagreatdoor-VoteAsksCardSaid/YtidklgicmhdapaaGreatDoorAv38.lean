/-
  LAYER 13's laws
-/
import Derived.Test.YtidklgicmhdapaaGreatDoorAv37
namespace Go.Proofs.YtidklgicmhdapaaGreatDoor
open Go Go.RowKit Sh

structure TV (w0 W : World) (g1 g4 : Nat) (x y : Vv) : Prop where
  a : Blk W g1 26 (vv x)
  b : Blk W g4 26 (vv y)
  rx : VvW W x
  ry : VvW W y
  bel : Below w0.heap.size w0 W
theorem TV.below {w0 W W' : World} {g1 g4 : Nat} {x y : Vv} (h : TV w0 W g1 g4 x y) (hb : Below W.heap.size W W') : TV w0 W' g1 g4 x y := ⟨h.a.below hb h.a.lt, h.b.below hb h.b.lt, h.rx.below hb, h.ry.below hb, h.bel.trans (hb.mono h.bel.size)⟩
def z7v : Vv := ⟨0, 7, List.replicate 32 0, none, 0, []⟩
theorem z7v_w (W : World) : VvW W z7v := ⟨rfl, zerosV 32, Sr.nil, nil_bytes, Nat.zero_le _⟩
theorem z7v_lit : vv z7v = [.int .i64 0, .int .i64 7, .int .u8 0, .int .u8 0, .int .u8 0, .int .u8 0, .int .u8 0, .int .u8 0, .int .u8 0, .int .u8 0, .int .u8 0, .int .u8 0, .int .u8 0, .int .u8 0, .int .u8 0, .int .u8 0, .int .u8 0, .int .u8 0, .int .u8 0, .int .u8 0, .int .u8 0, .int .u8 0, .int .u8 0, .int .u8 0, .int .u8 0, .int .u8 0, .int .u8 0, .int .u8 0, .int .u8 0, .int .u8 0, .int .u8 0, .int .u8 0, .int .u8 0, .int .u8 0, .slice none 0 0] := rfl
theorem one_bytesV (x : Nat) (hx : x < 256) : Bytes [x] := sl_bytes (fun y hy => by obtain rfl := List.mem_singleton.1 hy; exact hx)
set_option maxRecDepth 100000 in
set_option maxHeartbeats 4000000 in
theorem told13_t (w : World) (hi : KI w) (hk : KAt w) : Calls Tryz.prog 4 #[] w fun e w' => e = .returned (.bool true) ∧ Below w.heap.size w w' := by
  have HI := Lib.hid hi; have HK := Lib.hid hk; have HG := Lib.hid hk.lt
  clear hi hk
  obtain ⟨w1, hw1⟩ : ∃ V, w.alloc (.cells (u8s [115]).toArray 5 (1, 2)) = V := ⟨_, rfl⟩
  have B1 := Lib.hid (show Below w.heap.size w w1 from by rw [← hw1]; exact (Below.refl _ _).alloc (Nat.le_refl _) _)
  have S1 := Lib.hid (show Sr w1 (some ⟨w.heap.size, 0, none⟩) [115] from by rw [← hw1]; exact Sr.made [115] w 5 (1, 2))
  obtain ⟨x, hx⟩ : ∃ q : Vv, (⟨3, 2, List.replicate 32 0, some ⟨w.heap.size, 0, none⟩, 1, [115]⟩ : Vv) = q := ⟨_, rfl⟩
  have WX := Lib.hid (show VvW w1 x from by rw [← hx]; exact ⟨rfl, zerosV 32, S1.out, one_bytesV 115 (by decide), by show (1 : Nat) ≤ _; decide⟩)
  have HXV := Lib.hid (show vv x = [.int .i64 3, .int .i64 2, .int .u8 0, .int .u8 0, .int .u8 0, .int .u8 0, .int .u8 0, .int .u8 0, .int .u8 0, .int .u8 0, .int .u8 0, .int .u8 0, .int .u8 0, .int .u8 0, .int .u8 0, .int .u8 0, .int .u8 0, .int .u8 0, .int .u8 0, .int .u8 0, .int .u8 0, .int .u8 0, .int .u8 0, .int .u8 0, .int .u8 0, .int .u8 0, .int .u8 0, .int .u8 0, .int .u8 0, .int .u8 0, .int .u8 0, .int .u8 0, .int .u8 0, .int .u8 0, .slice (some ⟨w.heap.size, 0, none⟩) 1 1] from by rw [← hx]; rfl)
  have HVT := Lib.hid (show x.p = 3 ∧ x.f = 2 ∧ x.s = [115] ∧ mayVo x.vt = true from by rw [← hx]; exact ⟨rfl, rfl, rfl, rfl⟩)
  have kc := fun (w : World) (C : Array Value) (n c : Nat) => Lib.run_convert_bytes_const (P := Tryz.prog) w 24 5 C n c Tryz.underlying24 Tryz.underlying5
  have hw1' : w.alloc (.cells #[.int .u8 115] 5 (1, 2)) = w1 := hw1
  clear hx S1 hw1
  go_enter Tryz.func4, Tryz.ntmps4
  go_upto_region 1 with (fail)
  have FX_x := Lib.hid (vv_size (x := x) WX.out.ll); have FO_x := Lib.hid (vv_one x)
  have L_x := Lib.hid (show (vv zVv).length = (vv x).length from by rw [vv_len WX.out.ll, vv_len (x := zVv) rfl])
  have Z_x := Lib.hid (Blk.new w1 26 (vv zVv))
  have K_x := Lib.hid (Z_x.out.setRow (vv x))
  have B_x := Lib.hid (below_setRow ((Below.refl (w1).heap.size w1).alloc (Nat.le_refl _) (.cells (vv zVv).toArray 26)) (Nat.le_refl _) (vv x).toArray)
  go_upto_region 2 with ((with_reducible refine at_op (.store 26 (.tmp 1) (.tmp 10)) rfl ?_); go_must (refine store_blk 26 (.tmp 1) (.tmp 10) (w1).heap.size 26 (vv zVv) (vv x) rfl rfl Z_x.out L_x.out FX_x.out FO_x.out rfl (by rw [HXV.out]; rfl) ?_))
  obtain ⟨V1, hV1⟩ : ∃ V, ((w1).alloc (.cells (vv zVv).toArray 26)).setRow (w1).heap.size (vv x).toArray = V := ⟨_, rfl⟩
  change Code.wp _ _ _ _ (((w1).alloc (.cells (vv zVv).toArray 26)).setRow (w1).heap.size (vv x).toArray)
  rw [hV1] at K_x B_x ⊢
  clear hV1 Z_x FO_x L_x
  clear kc hw1' HXV
  obtain ⟨g1, hg1⟩ : ∃ g, w1.heap.size = g := ⟨_, rfl⟩
  rw [hg1] at K_x ⊢
  have BX := Lib.hid (B1.out.trans (B_x.out.mono B1.out.size))
  have WX1 := Lib.hid (WX.out.below B_x.out)
  clear hg1 B_x B1 WX
  have PT := Lib.hid (vPut_t x V1 WX1.out)
  unfold erV byV at PT
  rw [HVT.out.2.2.2, if_pos rfl, if_pos rfl] at PT
  go_wp2_with ((with_reducible refine load_blk 26 (.tmp 1) g1 26 (vv x) _ rfl rfl ?_ Tryz.underlying26 ?_ ?_ ?_ ?_); exact K_x.out; exact rfl; exact FX_x.out; exact rfl)
  refine PT.out.mono ?_
  rintro e w2 ⟨u, rfl, fr⟩
  have PL := Lib.hid (show (putV x.vt).length = 42 from by rw [putV_le WX1.out.ll]; show 41 + x.s.length = 42; rw [HVT.out.2.2.1]; rfl)
  have PB := Lib.hid (show Bytes (putV x.vt) from app_bytes (beN_bytes _ _) (app_bytes (beN_bytes _ _) (app_bytes WX1.out.lb (app_bytes (beN_bytes _ _) WX1.out.sb))))
  have FO := Lib.hid (frontV_ok HVT.out.2.2.2 (show x.vt.l.length = 32 from WX1.out.ll))
  obtain ⟨xs, hxs⟩ : ∃ l, putV x.vt = l := ⟨_, rfl⟩
  rw [hxs] at fr PL PB FO
  have fr1 := fr.1
  rw [PL.out] at fr1
  obtain ⟨Ab, cb, hu, _⟩ := own_form fr1
  subst hu
  have S2 := Lib.hid (Sr.of_own fr1)
  have K2 := Lib.hid (K_x.out.below fr.2 K_x.out.lt); have W2 := Lib.hid (WX1.out.below fr.2); have B2 := Lib.hid (BX.out.trans (fr.2.mono BX.out.size))
  clear fr fr1 PT K_x WX1 BX hxs
  have GT := Lib.hid (vGet_t xs Ab 42 cb w2 PL.out S2.out PB.out (by decide))
  go_wp2_with fail
  refine GT.out.mono ?_
  rintro e w3 ⟨b3, hh⟩
  obtain ⟨y, hy, rfl, wy⟩ : ∃ y : Vv, y.vt = x.vt ∧ e = .returned (.tuple #[.agg (vv y).toArray, .int .i64 0]) ∧ VvW w3 y := by
    rcases hh with ⟨h1, _⟩ | ⟨_, y, h1, h2, h3⟩
    · rw [FO.out.2] at h1; cases h1
    · exact ⟨y, h1.trans FO.out.1, h2, h3⟩
  have K3 := Lib.hid (K2.out.below b3 K2.out.lt); have W3 := Lib.hid (W2.out.below b3); have B3 := Lib.hid (B2.out.trans (b3.mono B2.out.size)); have HY := Lib.hid hy; have WY := Lib.hid wy
  clear hh GT b3 hy wy K2 W2 B2 S2 FO PL PB
  have FX_y := Lib.hid (vv_size (x := y) WY.out.ll); have FO_y := Lib.hid (vv_one y)
  have L_y := Lib.hid (show (vv zVv).length = (vv y).length from by rw [vv_len WY.out.ll, vv_len (x := zVv) rfl])
  have Z_y := Lib.hid (Blk.new w3 26 (vv zVv))
  have K_y := Lib.hid (Z_y.out.setRow (vv y))
  have B_y := Lib.hid (below_setRow ((Below.refl (w3).heap.size w3).alloc (Nat.le_refl _) (.cells (vv zVv).toArray 26)) (Nat.le_refl _) (vv y).toArray)
  go_upto_region 4 with ((with_reducible refine at_op (.store 26 (.tmp 4) (.tmp 19)) rfl ?_); go_must (refine store_blk 26 (.tmp 4) (.tmp 19) (w3).heap.size 26 (vv zVv) (vv y) rfl rfl Z_y.out L_y.out FX_y.out FO_y.out rfl rfl ?_))
  obtain ⟨V3, hV3⟩ : ∃ V, ((w3).alloc (.cells (vv zVv).toArray 26)).setRow (w3).heap.size (vv y).toArray = V := ⟨_, rfl⟩
  change Code.wp _ _ _ _ (((w3).alloc (.cells (vv zVv).toArray 26)).setRow (w3).heap.size (vv y).toArray)
  rw [hV3] at K_y B_y ⊢
  clear hV3 Z_y FO_y L_y
  obtain ⟨g4, hg4⟩ : ∃ g, w3.heap.size = g := ⟨_, rfl⟩
  rw [hg4] at K_y ⊢
  have T4 := Lib.hid (show TV w V3 g1 g4 x y from ⟨K3.out.below B_y.out K3.out.lt, K_y.out, W3.out.below B_y.out, WY.out.below B_y.out, B3.out.trans (B_y.out.mono B3.out.size)⟩)
  clear hg4 B_y K_y K3 W3 WY B3
  have PZ := Lib.hid (vPut_t z7v V3 (z7v_w V3))
  rw [z7v_lit, show erV z7v = 1 from rfl] at PZ
  go_wp2_with fail
  refine PZ.out.mono ?_
  rintro e w5 ⟨u, rfl, fr⟩
  have T5 := Lib.hid (T4.out.below fr.2)
  clear fr PZ T4
  go_upto_region 5 with (fail)
  obtain ⟨U, hU⟩ : ∃ U, w5.drew = U := ⟨_, rfl⟩
  have TU := Lib.hid (T5.out.below (show Below w5.heap.size w5 U from by rw [← hU]; exact (Below.refl _ _).drew))
  clear T5
  have SU := Lib.hid (fun (Y : World) (h : TV w Y g1 g4 x y) => show Blk Y g1 26 (vv x) ∧ Blk Y g4 26 (vv y) from ⟨h.a, h.b⟩)
  have SM := Lib.hid (fun (Y : World) (h : TV w Y g1 g4 x y) => vSame_t y x Y h.ry h.rx)
  rw [HY.out, sameV_iff.2 rfl] at SM
  have BZ := built_hz
  have BGZ := built_gz
  have s0 := SU.out U TU.out
  refine wp_region_held (S := fun Y => Blk Y g1 26 (vv x) ∧ Blk Y g4 26 (vv y)) (by kernel_rfl) ?_
  change wpAnyH _ _ _ _ _ _ _ _ w5.drew
  rw [hU]
  clear hU
  refine wpAnyH_take (i := 0) (v := ?_) rfl (by kernel_rfl) (by kernel_rfl) (by kernel_rfl) (fun _ _ _ h => h) (Or.inl ⟨by kernel_rfl, ?_⟩) s0 ?_
  rotate_left 1
  · (intro w hS; clear hS; go_simp; try (with_reducible rfl))
  refine wpAnyH_take (i := 1) (v := ?_) rfl (by kernel_rfl) (by kernel_rfl) (by kernel_rfl) (fun _ _ _ h => h) (Or.inl ⟨by kernel_rfl, ?_⟩) s0 ?_
  rotate_left 1
  · (intro w hS; clear hS; go_simp; try (with_reducible rfl))
  have TX := Lib.hid (vText_t zH zH 3 U rfl rfl (by decide))
  refine wpAnyH_ready (rs := [2]) (by kernel_rfl) (by simp) ?_
  refine AllReadyH.cons rfl (fun K hK => ?_) AllReadyH.nil
  rw [if_pos (by kernel_rfl)]
  go_simp
  refine TX.out.mono ?_
  rintro e w6 ⟨u, rfl, fr⟩
  have fr1 := fr.1
  rw [textV_len (a := zH) (l := zH) (q := 3) rfl rfl] at fr1
  obtain ⟨At, ct, hu, _⟩ := own_form fr1
  subst hu
  have T6 := Lib.hid (TU.out.below fr.2)
  have s0 := SU.out _ T6.out
  refine hK.out _ _ s0 (fun _ => ?_)
  clear hK K fr fr1 TX TU
  refine wpAnyH_take (i := 3) (v := ?_) rfl (by kernel_rfl) (by kernel_rfl) (by kernel_rfl) (fun _ _ _ h => h) (Or.inl ⟨by kernel_rfl, ?_⟩) s0 ?_
  rotate_left 1
  · (intro w hS; clear hS; go_simp; try (with_reducible rfl))
  refine wpAnyH_take (i := 4) (v := ?_) rfl (by kernel_rfl) (by kernel_rfl) (by kernel_rfl) (fun _ _ _ h => h) (Or.inl ⟨by kernel_rfl, ?_⟩) s0 ?_
  rotate_left 1
  · (intro w hS; clear hS; go_simp; try (with_reducible rfl))
  refine wpAnyH_take (i := 5) (v := ?_) rfl (by kernel_rfl) (by kernel_rfl) (by kernel_rfl) (fun _ _ _ h => h) (Or.inl ⟨by kernel_rfl, ?_⟩) s0 ?_
  rotate_left 1
  · (intro w hS; clear hS; go_simp; try (with_reducible rfl))
  refine wpAnyH_take (i := 6) (v := ?_) rfl (by kernel_rfl) (by kernel_rfl) (by kernel_rfl) (fun _ _ _ h => h) (Or.inl ⟨by kernel_rfl, ?_⟩) s0 ?_
  rotate_left 1
  · (intro w hS; clear hS; go_simp; try (with_reducible rfl))
  refine wpAnyH_take (i := 7) (v := ?_) rfl (by kernel_rfl) (by kernel_rfl) (by kernel_rfl) (fun _ _ _ h => h) (Or.inl ⟨by kernel_rfl, ?_⟩) s0 ?_
  rotate_left 1
  · (intro w hS; clear hS; go_simp; try (with_reducible rfl))
  refine wpAnyH_take (i := 8) (v := ?_) rfl (by kernel_rfl) (by kernel_rfl) (by kernel_rfl) (fun _ _ _ h => h) (Or.inl ⟨by kernel_rfl, ?_⟩) s0 ?_
  rotate_left 1
  · (intro w hS; clear hS; go_simp; try (with_reducible rfl))
  refine wpAnyH_take (i := 9) (v := ?_) rfl (by kernel_rfl) (by kernel_rfl) (by kernel_rfl) (fun _ _ _ h => h) (Or.inl ⟨by kernel_rfl, ?_⟩) s0 ?_
  rotate_left 1
  · (intro w hS; clear hS; go_simp; try (with_reducible rfl))
  refine wpAnyH_take (i := 10) (v := ?_) rfl (by kernel_rfl) (by kernel_rfl) (by kernel_rfl) (fun _ _ _ h => h) (Or.inl ⟨by kernel_rfl, ?_⟩) s0 ?_
  rotate_left 1
  · (intro w hS; clear hS; go_simp; try (with_reducible rfl))
  refine wpAnyH_take (i := 11) (v := ?_) rfl (by kernel_rfl) (by kernel_rfl) (by kernel_rfl) (fun _ _ _ h => h) (Or.inl ⟨by kernel_rfl, ?_⟩) s0 ?_
  rotate_left 1
  · (intro w hS; clear hS; go_simp; try (with_reducible rfl))
  refine wpAnyH_take (i := 12) (v := ?_) rfl (by kernel_rfl) (by kernel_rfl) (by kernel_rfl) (fun _ _ _ h => h) (Or.inl ⟨by kernel_rfl, ?_⟩) s0 ?_
  rotate_left 1
  · (intro w hS; clear hS; go_simp; try (with_reducible rfl))
  refine wpAnyH_take (i := 13) (v := ?_) rfl (by kernel_rfl) (by kernel_rfl) (by kernel_rfl) (fun _ _ _ h => h) (Or.inl ⟨by kernel_rfl, ?_⟩) s0 ?_
  rotate_left 1
  · (intro w hS; clear hS; go_simp; try (with_reducible rfl))
  refine wpAnyH_take (i := 14) (v := .agg (vv y).toArray) rfl (by kernel_rfl) (by kernel_rfl) (by kernel_rfl) (fun _ _ _ h => h) (yieldsIf_load_mid (by kernel_rfl) 26 (.tmp 4) rfl g4 0 (by go_simp) (vv y) _ (fun _ h => rows_of_blk h.2) Tryz.underlying26 rfl (FX_y.out)) s0 ?_
  refine wpAnyH_take (i := 15) (v := .agg (vv x).toArray) rfl (by kernel_rfl) (by kernel_rfl) (by kernel_rfl) (fun _ _ _ h => h) (yieldsIf_load_mid (by kernel_rfl) 26 (.tmp 1) rfl g1 0 (by go_simp) (vv x) _ (fun _ h => rows_of_blk h.1) Tryz.underlying26 rfl (FX_x.out)) s0 ?_
  try go_simp
  refine wpAnyH_ready (rs := [16]) (by kernel_rfl) (by simp) ?_
  refine AllReadyH.cons rfl (fun K hK => ?_) AllReadyH.nil
  rw [if_pos (by kernel_rfl)]
  go_simp
  refine (SM.out w6 T6.out).mono ?_
  rintro e w7 ⟨rfl, b_⟩
  have T7 := Lib.hid (T6.out.below b_)
  have s0 := SU.out _ T7.out
  refine hK.out _ _ s0 (fun _ => ?_)
  clear hK K b_
  refine wpAnyH_take (i := 17) (v := ?_) rfl (by kernel_rfl) (by kernel_rfl) (by kernel_rfl) (fun _ _ _ h => h) (Or.inl ⟨by kernel_rfl, ?_⟩) s0 ?_
  rotate_left 1
  · (intro w hS; clear hS; go_simp; try (with_reducible rfl))
  refine wpAnyH_take (i := 18) (v := ?_) rfl (by kernel_rfl) (by kernel_rfl) (by kernel_rfl) (fun _ _ _ h => h) (Or.inl ⟨by kernel_rfl, ?_⟩) s0 ?_
  rotate_left 1
  · (intro w hS; clear hS; go_simp; try (with_reducible rfl))
  refine wpAnyH_take (i := 19) (v := ?_) rfl (by kernel_rfl) (by kernel_rfl) (by kernel_rfl) (fun _ _ _ h => h) (Or.inl ⟨by kernel_rfl, ?_⟩) s0 ?_
  rotate_left 1
  · (intro w hS; clear hS; go_simp; try (with_reducible rfl))
  refine wpAnyH_take (i := 20) (v := ?_) rfl (by kernel_rfl) (by kernel_rfl) (by kernel_rfl) (fun _ _ _ h => h) (Or.inl ⟨by kernel_rfl, ?_⟩) s0 ?_
  rotate_left 1
  · (intro w hS; clear hS; go_simp; try (with_reducible rfl))
  refine wpAnyH_take (i := 21) (v := ?_) rfl (by kernel_rfl) (by kernel_rfl) (by kernel_rfl) (fun _ _ _ h => h) (Or.inl ⟨by kernel_rfl, ?_⟩) s0 ?_
  rotate_left 1
  · (intro w hS; clear hS; go_simp; try (with_reducible rfl))
  refine wpAnyH_take (i := 22) (v := ?_) rfl (by kernel_rfl) (by kernel_rfl) (by kernel_rfl) (fun _ _ _ h => h) (Or.inl ⟨by kernel_rfl, ?_⟩) s0 ?_
  rotate_left 1
  · (intro w hS; clear hS; go_simp; try (with_reducible rfl))
  refine wpAnyH_take (i := 23) (v := ?_) rfl (by kernel_rfl) (by kernel_rfl) (by kernel_rfl) (fun _ _ _ h => h) (Or.inl ⟨by kernel_rfl, ?_⟩) s0 ?_
  rotate_left 1
  · (intro w hS; clear hS; go_simp; try (with_reducible rfl))
  refine wpAnyH_take (i := 24) (v := .agg (vv x).toArray) rfl (by kernel_rfl) (by kernel_rfl) (by kernel_rfl) (fun _ _ _ h => h) (yieldsIf_load_mid (by kernel_rfl) 26 (.tmp 1) rfl g1 0 (by go_simp) (vv x) _ (fun _ h => rows_of_blk h.1) Tryz.underlying26 rfl (FX_x.out)) s0 ?_
  try go_simp
  refine wpAnyH_ready (rs := [25]) (by kernel_rfl) (by simp) ?_
  refine AllReadyH.cons rfl (fun K hK => ?_) AllReadyH.nil
  rw [if_pos (by kernel_rfl)]
  go_simp
  refine (vCheck_no zGv x w7 (zGv_w w7) T7.out.rx (HI.out.kept T7.out.bel) zG_no).mono ?_
  rintro e w8 ⟨rfl, b_⟩
  have T8 := Lib.hid (T7.out.below b_)
  have s0 := SU.out _ T8.out
  refine hK.out _ _ s0 (fun _ => ?_)
  clear hK K b_
  refine wpAnyH_take (i := 26) (v := ?_) rfl (by kernel_rfl) (by kernel_rfl) (by kernel_rfl) (fun _ _ _ h => h) (Or.inl ⟨by kernel_rfl, ?_⟩) s0 ?_
  rotate_left 1
  · (intro w hS; clear hS; go_simp; try (with_reducible rfl))
  refine wpAnyH_take (i := 27) (v := ?_) rfl (by kernel_rfl) (by kernel_rfl) (by kernel_rfl) (fun _ _ _ h => h) (Or.inl ⟨by kernel_rfl, ?_⟩) s0 ?_
  rotate_left 1
  · (intro w hS; clear hS; go_simp; try (with_reducible rfl))
  refine wpAnyH_take (i := 28) (v := ?_) rfl (by kernel_rfl) (by kernel_rfl) (by kernel_rfl) (fun _ _ _ h => h) (Or.inl ⟨by kernel_rfl, ?_⟩) s0 ?_
  rotate_left 1
  · (intro w hS; clear hS; go_simp; try (with_reducible rfl))
  refine wpAnyH_take (i := 30) (v := .agg (vv x).toArray) rfl (by kernel_rfl) (by kernel_rfl) (by kernel_rfl) (fun _ _ _ h => h) (yieldsIf_load_mid (by kernel_rfl) 26 (.tmp 1) rfl g1 0 (by go_simp) (vv x) _ (fun _ h => rows_of_blk h.1) Tryz.underlying26 rfl (FX_x.out)) s0 ?_
  have FK := Lib.hid (fake_t 1 0 0 (by decide) w8)
  refine wpAnyH_ready (rs := [29]) (by kernel_rfl) (by simp) ?_
  refine AllReadyH.cons rfl (fun K hK => ?_) AllReadyH.nil
  rw [if_pos (by kernel_rfl)]
  go_simp
  refine FK.out.mono ?_
  rintro e w9 ⟨gk, hgk, rfl, wgk, b9⟩
  have T9 := Lib.hid (T8.out.below b9)
  have WG := Lib.hid wgk
  have HGK := Lib.hid (show gk.ge = fakeE 1 0 0 from hgk)
  have s0 := SU.out _ T9.out
  refine hK.out _ _ s0 (fun _ => ?_)
  clear hK K b9 FK hgk wgk T8
  have MB := Lib.hid (show begB gk = true from by rw [begB_Q, HGK.out]; exact fakeE_ok 1 0 0 (by decide) rfl rfl)
  have KL := Lib.hid (show gk.ks.length = 4 from by
    have h := congrArg (fun e => e.ks.length) HGK.out
    simpa [Gv.ge, fakeE] using h)
  obtain ⟨ky, hky⟩ : ∃ z, gk.ks[2]? = some z := ⟨_, List.getElem?_eq_getElem (by rw [KL.out]; decide)⟩
  try go_simp
  refine wpAnyH_ready (rs := [31]) (by kernel_rfl) (by simp) ?_
  refine AllReadyH.cons rfl (fun K hK => ?_) AllReadyH.nil
  rw [if_pos (by kernel_rfl)]
  go_simp
  refine (vCheck_short gk x 4 2 3 ky w9 WG.out T9.out.rx (HI.out.kept T9.out.bel) (HK.out.below T9.out.bel HG.out) MB.out KL.out HVT.out.2.1 (by decide) HVT.out.1 (by decide) (by decide) hky (by rw [HVT.out.2.2.1]; decide)).mono ?_
  rintro e wA ⟨rfl, b_⟩
  have TA := Lib.hid (T9.out.below b_)
  have s0 := SU.out _ TA.out
  refine hK.out _ _ s0 (fun _ => ?_)
  clear hK K b_
  refine wpAnyH_take (i := 32) (v := ?_) rfl (by kernel_rfl) (by kernel_rfl) (by kernel_rfl) (fun _ _ _ h => h) (Or.inl ⟨by kernel_rfl, ?_⟩) s0 ?_
  rotate_left 1
  · (intro w hS; clear hS; go_simp; try (with_reducible rfl))
  refine wpAnyH_take (i := 33) (v := ?_) rfl (by kernel_rfl) (by kernel_rfl) (by kernel_rfl) (fun _ _ _ h => h) (Or.inl ⟨by kernel_rfl, ?_⟩) s0 ?_
  rotate_left 1
  · (intro w hS; clear hS; go_simp; try (with_reducible rfl))
  refine wpAnyH_take (i := 34) (v := ?_) rfl (by kernel_rfl) (by kernel_rfl) (by kernel_rfl) (fun _ _ _ h => h) (Or.inl ⟨by kernel_rfl, ?_⟩) s0 ?_
  rotate_left 1
  · (intro w hS; clear hS; go_simp; try (with_reducible rfl))
  refine wpAnyH_done (by kernel_rfl) ?_ _
  go_simp
  go_wp2_with fail
  go_ret
  exact ⟨rfl, TA.out.bel⟩
end Go.Proofs.YtidklgicmhdapaaGreatDoor
