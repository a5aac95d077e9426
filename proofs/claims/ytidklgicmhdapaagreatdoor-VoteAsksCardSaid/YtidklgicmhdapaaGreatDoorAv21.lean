/-
  PACKAGE state
-/
import Derived.Test.YtidklgicmhdapaaGreatDoorAv20
import Derived.Laws.ResultCell
namespace Go.Proofs.YtidklgicmhdapaaGreatDoor
open Go Go.RowKit Sh

theorem But.keptOneS {B g : Nat} {w w' : World} (h : But B g w w') (hB : B = w.heap.size) : Kept (fun k => k = g) w w' := ⟨h.os, h.tape, h.output, h.size, fun b h1 h2 => h.block b (by omega) h2⟩
structure CB (W : World) (gb gs g : Nat) : Prop where
  c : W.cell? ⟨gb, 0, none⟩ = some (.pointer (some ⟨gs, 0, none⟩))
  lt : gb < W.heap.size
  ns : gb ≠ gs
  ng : gb ≠ g
theorem CB.kept {W W' : World} {gb gs g : Nat} (h : CB W gb gs g) (hk : Kept (fun k => k = g ∨ k = gs) W W') : CB W' gb gs g :=
  ⟨(hk.cell (p := ⟨gb, 0, none⟩) h.lt (fun e => e.elim h.ng h.ns)).trans h.c, Nat.lt_of_lt_of_le h.lt hk.size, h.ns, h.ng⟩
theorem CB.below {W W' : World} {gb gs g : Nat} (h : CB W gb gs g) (hb : Below W.heap.size W W') : CB W' gb gs g := h.kept (Kept.of_below hb)
theorem gFl_len (s : Src) : (gFl s).2.xs.length ≤ s.xs.length := by
  unfold gFl sTxt rTxt
  dsimp only
  split
  · simp only [List.length_drop]; omega
  · simp
theorem gFlag_len (s : Src) : (gFlag s).2.xs.length ≤ s.xs.length := gNum_len s 1
theorem gIt_len (s : Src) : (gIt s).2.xs.length ≤ s.xs.length := Nat.le_trans (gFl_len _) (Nat.le_trans (gNum_len _ 8) (gNum_len _ 1))
theorem gWt_len (s : Src) : (gWt s).2.xs.length ≤ s.xs.length := Nat.le_trans (gFl_len _) (Nat.le_trans (gFlag_len _) (Nat.le_trans (gNum_len _ 4) (gNum_len _ 1)))
theorem gLa_len (c : Int) (s : Src) : (gLa c s).2.xs.length ≤ s.xs.length := Nat.le_trans (gFl_len _) (Nat.le_trans (gFlag_len _) (Nat.le_trans (gNum_len _ 1) (gNum_len _ 4)))
theorem gNum_lt {s : Src} {n : Nat} (hb : Bytes s.xs) : (gNum s n).1 < 256 ^ n := (rNum_bytes s.xs s.bad n hb).2.2
theorem i64N_small {v : Nat} (h : v < 9223372036854775808) : i64N v = (v : Int) := by unfold i64N; exact IntWalk.i64_in _ (by omega)
structure CS (B : Nat) (w0 W : World) (gb gs g : Nat) (s : Src) (t : TypeId) (cs : List Value) : Prop where
  sr : SR B W gs g s
  cb : CB W gb gs g
  res : Blk W w0.heap.size t cs
  kp : Kept (fun k => k = g ∨ k = gs) w0 W
  gl : g < w0.heap.size
  sl : gs < w0.heap.size
theorem CS.new {w0 U : World} {B gb gs g : Nat} {s : Src} {t : TypeId} {cs : List Value} (h : SR B w0 gs g s) (hc : CB w0 gb gs g) (hb : Below w0.heap.size w0 U) (hr : Blk U w0.heap.size t cs) : CS B w0 U gb gs g s t cs :=
  ⟨h.below hb, hc.below hb, hr, Kept.of_below hb, h.rd.rd.lt, h.bx.lt⟩
theorem CS.step {w0 W W' : World} {B gb gs g : Nat} {s s' : Src} {t : TypeId} {cs : List Value} (h : CS B w0 W gb gs g s t cs) (hs : SR B W' gs g s') (hk : Kept (fun k => k = g ∨ k = gs) W W') : CS B w0 W' gb gs g s' t cs :=
  ⟨hs, h.cb.kept hk, h.res.kept hk (fun e => by have := h.gl; have := h.sl; omega), h.kp.trans hk, h.gl, h.sl⟩
theorem CS.fin {w0 W W' : World} {B gb gs g : Nat} {s : Src} {t : TypeId} {cs : List Value} (h : CS B w0 W gb gs g s t cs) (hk : Kept (fun k => k = w0.heap.size) W W') : SR B W' gs g s ∧ Kept (fun k => k = g ∨ k = gs) w0 W' := by
  have h1 := h.gl; have h2 := h.sl
  refine ⟨⟨h.sr.bx.kept hk (by omega), h.sr.rd.stays hk (by omega) (fun i hi e => by have := h.sr.lb; omega), h.sr.ne, h.sr.by_, h.sr.lb⟩, ⟨hk.os.trans h.kp.os, hk.tape.trans h.kp.tape, hk.output.trans h.kp.output, Nat.le_trans h.kp.size hk.size, fun k hlt hf => (hk.block k (Nat.lt_of_lt_of_le hlt h.kp.size) (by omega)).trans (h.kp.block k hlt hf)⟩⟩
set_option maxRecDepth 100000 in
set_option maxHeartbeats 1000000 in
theorem itc_t (B gb gs g : Nat) (s : Src) (W : World) (x : SR B W gs g s) (hc : CB W gb gs g) (hl : s.xs.length ≤ 1000000) :
    Calls Tryz.prog 67 #[.pointer (some ⟨gb, 0, none⟩)] W fun e W' => ∃ y : Itv, e = .returned (.agg (iv y).toArray) ∧ y.i = (gIt s).1 ∧ TR W' y.p y.i.t ∧ SR B W' gs g (gIt s).2 ∧ Kept (fun k => k = g ∨ k = gs) W W' ∧ NF W' W.heap.size y.p := by
  obtain ⟨U, hU⟩ : ∃ U, (W.alloc (.cells ([.int .i64 0, .int .i64 0, .slice none 0 0]).toArray 108)).drew = U := ⟨_, rfl⟩
  have BU := Lib.hid (show Below W.heap.size W U from by rw [← hU]; exact ((Below.refl _ _).alloc (Nat.le_refl _) _).drew)
  have C0 := Lib.hid (CS.new (t := 108) (cs := [.int .i64 0, .int .i64 0, .slice none 0 0]) x hc BU.out (by rw [← hU]; exact (Blk.new W 108 ([.int .i64 0, .int .i64 0, .slice none 0 0])).below (Below.refl _ _).drew (Blk.new W 108 ([.int .i64 0, .int .i64 0, .slice none 0 0])).lt))
  have HB := Lib.hid x.by_
  have L1 := gNum_len s 1
  obtain ⟨⟨v1, s1⟩, E1⟩ : ∃ r, gNum s 1 = r := ⟨_, rfl⟩
  obtain ⟨⟨v2, s2⟩, E2⟩ : ∃ r, gNum s1 8 = r := ⟨_, rfl⟩
  obtain ⟨⟨t, s3⟩, E3⟩ : ∃ r, gFl s2 = r := ⟨_, rfl⟩
  have L2 := gNum_len s1 8
  have HV1 := gNum_lt (n := 1) x.by_
  have EG := Lib.hid (show gIt s = (⟨(v1 : Int), i64N v2, t⟩, s3) from by unfold gIt; simp only [E1, E2, E3])
  rw [E1] at L1 HV1
  rw [E2] at L2
  have H1 := Lib.hid E1; have H2 := Lib.hid E2; have H3 := Lib.hid E3
  have e1 : i64N v1 = (v1 : Int) := i64N_small (by have : v1 < 256 := HV1; omega)
  have I1 := Lib.hid e1
  obtain ⟨un, hun⟩ : ∃ z, i64N v2 = z := ⟨_, rfl⟩
  have HUN := Lib.hid hun
  have M1 := Lib.hid (show s1.xs.length ≤ 1000000 from by dsimp only at L1; omega); have M2 := Lib.hid (show s2.xs.length ≤ 1000000 from by dsimp only at L1 L2; omega)
  have hclt := Lib.hid hc.lt
  clear L1 L2 HV1 E1 E2 E3 e1 hun x hc
  go_enter Tryz.func67, Tryz.ntmps67
  go_upto_region 1 with (fail)
  have s0 : U.cell? ⟨gb, 0, none⟩ = some (.pointer (some ⟨gs, 0, none⟩)) := C0.out.cb.c
  refine wp_region_held (S := fun Y => Y.cell? ⟨gb, 0, none⟩ = some (.pointer (some ⟨gs, 0, none⟩))) (by kernel_rfl) ?_
  change wpAnyH _ _ _ _ _ _ _ _ ((W.alloc (.cells ([Value.int .i64 0, .int .i64 0, .slice none 0 0]).toArray 108)).drew)
  rw [hU]
  clear hU
  refine wpAnyH_take (i := 0) (v := ?_) rfl (by kernel_rfl) (by kernel_rfl) (by kernel_rfl) (fun _ _ _ h => h) (Or.inl ⟨by kernel_rfl, ?_⟩) s0 ?_
  rotate_left 1
  · (intro w hS; have hs := hS; clear hS; go_simp; try (with_reducible rfl))
  refine wpAnyH_take (i := 2) (v := ?_) rfl (by kernel_rfl) (by kernel_rfl) (by kernel_rfl) (fun _ _ _ h => h) (Or.inl ⟨by kernel_rfl, ?_⟩) s0 ?_
  rotate_left 1
  · (intro w hS; have hs := hS; clear hS; go_simp; try (with_reducible rfl))
  refine wpAnyH_take (i := 4) (v := ?_) rfl (by kernel_rfl) (by kernel_rfl) (by kernel_rfl) (fun _ _ _ h => h) (Or.inl ⟨by kernel_rfl, ?_⟩) s0 ?_
  rotate_left 1
  · (intro w hS; have hs := hS; clear hS; go_simp; try (with_reducible rfl))
  refine wpAnyH_ready (rs := [1]) (by kernel_rfl) (by simp) ?_
  refine AllReadyH.cons rfl (fun K hK => ?_) AllReadyH.nil
  rw [if_pos (by kernel_rfl)]
  go_simp
  refine (snum_t B gs g 1 s _ C0.out.sr (by decide) (by decide)).mono ?_
  rw [H1.out]
  rintro e w2 ⟨rfl, x2, k2⟩
  have C2 := Lib.hid (C0.out.step x2 (k2.mono fun k e => .inl e))
  refine hK.out _ _ C2.out.cb.c (fun _ => ?_)
  clear hK K x2 k2 C0
  rw [I1.out]
  refine wpAnyH_ready (rs := [3]) (by kernel_rfl) (by simp) ?_
  refine AllReadyH.cons rfl (fun K hK => ?_) AllReadyH.nil
  rw [if_pos (by kernel_rfl)]
  go_simp
  refine (snum_t B gs g 8 s1 _ C2.out.sr (by decide) (by decide)).mono ?_
  rw [H2.out]
  rintro e w3 ⟨rfl, x2, k2⟩
  have C3 := Lib.hid (C2.out.step x2 (k2.mono fun k e => .inl e))
  refine hK.out _ _ C3.out.cb.c (fun _ => ?_)
  clear hK K x2 k2 C2
  rw [HUN.out]
  refine wpAnyH_ready (rs := [5]) (by kernel_rfl) (by simp) ?_
  refine AllReadyH.cons rfl (fun K hK => ?_) AllReadyH.nil
  rw [if_pos (by kernel_rfl)]
  go_simp
  refine (sflds_t B gs g s2 _ C3.out.sr M2.out).mono ?_
  rw [H3.out]
  rintro e w4 ⟨⟨A, c, rfl, t4, n4⟩, x2, k2⟩
  have C4 := Lib.hid (C3.out.step x2 k2); have T4 := Lib.hid t4
  have N4 := Lib.hid (show NF w4 (W.heap.size + 1) A from n4.low (by have h2 := C3.out.res.lt; omega))
  refine hK.out _ _ C4.out.cb.c (fun _ => ?_)
  clear hK K x2 k2 C3 t4 n4
  refine wpAnyH_take (i := 6) (v := ?_) rfl (by kernel_rfl) (by kernel_rfl) (by kernel_rfl) (fun _ _ _ h => h) (Or.inl ⟨by kernel_rfl, ?_⟩) C4.out.cb.c ?_
  rotate_left 1
  · (intro w hS; clear hS; go_simp; try (with_reducible rfl))
  obtain ⟨y, hy⟩ : ∃ y : Itv, (⟨⟨(v1 : Int), un, t⟩, A, c⟩ : Itv) = y := ⟨_, rfl⟩
  have FY := Lib.hid (iv_size y); have FO := Lib.hid (iv_oneA y)
  have HIV := Lib.hid (show iv y = [.int .i64 (v1 : Int), .int .i64 un, .slice A t.length c] from by rw [← hy]; rfl)
  have HY := Lib.hid hy
  clear hy
  refine wpAnyH_ready (rs := [7]) (by kernel_rfl) (by simp) ?_
  refine AllReadyH.cons rfl (fun K hK => ?_) AllReadyH.nil
  rw [if_pos (by kernel_rfl)]
  refine wstore_part 108 (.tmp 1) (.tmp 8) W.heap.size 0 108 [] [.int .i64 0, .int .i64 0, .slice none 0 0] [] (iv y) rfl (by rw [List.nil_append, List.append_nil]; exact C4.out.res) rfl rfl FY.out FO.out (by go_simp) (by go_simp; rw [HIV.out]) ?_
  intro wz a1 a2 a3
  have RZ := Lib.hid (show Blk wz W.heap.size 108 (iv y) by have := a1.out; rwa [List.nil_append, List.append_nil] at this)
  have KZ := a2.out.keptOneS rfl
  have CF := Lib.hid (C4.out.fin KZ)
  have TZ := Lib.hid (show TR wz y.p y.i.t from by rw [← HY.out]; exact T4.out.keptS KZ (fun a ha e => by have := N4.out.ge a ha; omega))
  have NZ := Lib.hid (show NF wz W.heap.size y.p from by rw [← HY.out]; exact (N4.out.kept KZ (fun a ha e => by have := N4.out.ge a ha; omega)).low (Nat.le_succ _))
  have cz : wz.cell? ⟨gb, 0, none⟩ = some (.pointer (some ⟨gs, 0, none⟩)) := (KZ.cell (p := ⟨gb, 0, none⟩) C4.out.cb.lt (by have h1 := hclt.out; show gb ≠ W.heap.size; omega)).trans C4.out.cb.c
  refine hK.out _ _ cz (fun _ => ?_)
  clear hK K a1 a2 a3 KZ cz
  refine wpAnyH_done (by kernel_rfl) ?_ _
  go_simp
  go_wp2_with fail
  exact ret_blk (p := 1) (ty := 108) rfl rfl W.heap.size 108 _ _ rfl RZ.out Tryz.underlying108 rfl (iv_size _) ⟨y, rfl, by rw [EG.out, ← HY.out, ← HUN.out], TZ.out, by rw [EG.out]; exact CF.out.1, CF.out.2, NZ.out⟩
set_option maxRecDepth 100000 in
set_option maxHeartbeats 1000000 in
theorem wtc_t (B gb gs g : Nat) (s : Src) (W : World) (x : SR B W gs g s) (hc : CB W gb gs g) (hl : s.xs.length ≤ 1000000) :
    Calls Tryz.prog 70 #[.pointer (some ⟨gb, 0, none⟩)] W fun e W' => ∃ y : Wtv, e = .returned (.agg (wv y).toArray) ∧ y.x = (gWt s).1 ∧ TR W' y.p y.x.p ∧ SR B W' gs g (gWt s).2 ∧ Kept (fun k => k = g ∨ k = gs) W W' ∧ NF W' W.heap.size y.p := by
  obtain ⟨U, hU⟩ : ∃ U, (W.alloc (.cells ([.int .i64 0, .int .i64 0, .bool false, .slice none 0 0]).toArray 113)).drew = U := ⟨_, rfl⟩
  have BU := Lib.hid (show Below W.heap.size W U from by rw [← hU]; exact ((Below.refl _ _).alloc (Nat.le_refl _) _).drew)
  have C0 := Lib.hid (CS.new (t := 113) (cs := [.int .i64 0, .int .i64 0, .bool false, .slice none 0 0]) x hc BU.out (by rw [← hU]; exact (Blk.new W 113 ([.int .i64 0, .int .i64 0, .bool false, .slice none 0 0])).below (Below.refl _ _).drew (Blk.new W 113 ([.int .i64 0, .int .i64 0, .bool false, .slice none 0 0])).lt))
  have HB := Lib.hid x.by_
  have L1 := gNum_len s 1
  obtain ⟨⟨v1, s1⟩, E1⟩ : ∃ r, gNum s 1 = r := ⟨_, rfl⟩
  obtain ⟨⟨v2, s2⟩, E2⟩ : ∃ r, gNum s1 4 = r := ⟨_, rfl⟩
  obtain ⟨⟨fg, s3⟩, E3⟩ : ∃ r, gFlag s2 = r := ⟨_, rfl⟩
  obtain ⟨⟨t, s4⟩, E4⟩ : ∃ r, gFl s3 = r := ⟨_, rfl⟩
  have L2 := gNum_len s1 4
  have L3 := gFlag_len s2
  have HB1 : Bytes s1.xs := by have := gNum_bytes 1 x.by_; rwa [E1] at this
  have HV2 := gNum_lt (n := 4) HB1
  have HV1 := gNum_lt (n := 1) x.by_
  have EG := Lib.hid (show gWt s = (⟨(v1 : Int), (v2 : Int), fg, t⟩, s4) from by unfold gWt; simp only [E1, E2, E3, E4])
  rw [E1] at L1 HV1
  rw [E2] at L2 HV2
  rw [E3] at L3
  have H1 := Lib.hid E1; have H2 := Lib.hid E2; have H3 := Lib.hid E3; have H4 := Lib.hid E4
  have e1 : i64N v1 = (v1 : Int) := i64N_small (by have : v1 < 256 := HV1; omega)
  have e2 : i64N v2 = (v2 : Int) := i64N_small (by have : v2 < 4294967296 := HV2; omega)
  have I1 := Lib.hid e1; have I2 := Lib.hid e2
  have M3 := Lib.hid (show s3.xs.length ≤ 1000000 from by dsimp only at L1 L2 L3; omega)
  have hclt := Lib.hid hc.lt
  clear L1 L2 L3 HV1 HV2 HB1 E1 E2 E3 E4 e1 e2 x hc
  go_enter Tryz.func70, Tryz.ntmps70
  go_upto_region 1 with (fail)
  have s0 : U.cell? ⟨gb, 0, none⟩ = some (.pointer (some ⟨gs, 0, none⟩)) := C0.out.cb.c
  refine wp_region_held (S := fun Y => Y.cell? ⟨gb, 0, none⟩ = some (.pointer (some ⟨gs, 0, none⟩))) (by kernel_rfl) ?_
  change wpAnyH _ _ _ _ _ _ _ _ ((W.alloc (.cells ([Value.int .i64 0, .int .i64 0, .bool false, .slice none 0 0]).toArray 113)).drew)
  rw [hU]
  clear hU
  refine wpAnyH_take (i := 0) (v := ?_) rfl (by kernel_rfl) (by kernel_rfl) (by kernel_rfl) (fun _ _ _ h => h) (Or.inl ⟨by kernel_rfl, ?_⟩) s0 ?_
  rotate_left 1
  · (intro w hS; have hs := hS; clear hS; go_simp; try (with_reducible rfl))
  refine wpAnyH_take (i := 2) (v := ?_) rfl (by kernel_rfl) (by kernel_rfl) (by kernel_rfl) (fun _ _ _ h => h) (Or.inl ⟨by kernel_rfl, ?_⟩) s0 ?_
  rotate_left 1
  · (intro w hS; have hs := hS; clear hS; go_simp; try (with_reducible rfl))
  refine wpAnyH_take (i := 4) (v := ?_) rfl (by kernel_rfl) (by kernel_rfl) (by kernel_rfl) (fun _ _ _ h => h) (Or.inl ⟨by kernel_rfl, ?_⟩) s0 ?_
  rotate_left 1
  · (intro w hS; have hs := hS; clear hS; go_simp; try (with_reducible rfl))
  refine wpAnyH_take (i := 6) (v := ?_) rfl (by kernel_rfl) (by kernel_rfl) (by kernel_rfl) (fun _ _ _ h => h) (Or.inl ⟨by kernel_rfl, ?_⟩) s0 ?_
  rotate_left 1
  · (intro w hS; have hs := hS; clear hS; go_simp; try (with_reducible rfl))
  refine wpAnyH_ready (rs := [1]) (by kernel_rfl) (by simp) ?_
  refine AllReadyH.cons rfl (fun K hK => ?_) AllReadyH.nil
  rw [if_pos (by kernel_rfl)]
  go_simp
  refine (snum_t B gs g 1 s _ C0.out.sr (by decide) (by decide)).mono ?_
  rw [H1.out]
  rintro e w2 ⟨rfl, x2, k2⟩
  have C2 := Lib.hid (C0.out.step x2 (k2.mono fun k e => .inl e))
  refine hK.out _ _ C2.out.cb.c (fun _ => ?_)
  clear hK K x2 k2 C0
  rw [I1.out]
  refine wpAnyH_ready (rs := [3]) (by kernel_rfl) (by simp) ?_
  refine AllReadyH.cons rfl (fun K hK => ?_) AllReadyH.nil
  rw [if_pos (by kernel_rfl)]
  go_simp
  refine (snum_t B gs g 4 s1 _ C2.out.sr (by decide) (by decide)).mono ?_
  rw [H2.out]
  rintro e w3 ⟨rfl, x2, k2⟩
  have C3 := Lib.hid (C2.out.step x2 (k2.mono fun k e => .inl e))
  refine hK.out _ _ C3.out.cb.c (fun _ => ?_)
  clear hK K x2 k2 C2
  rw [I2.out]
  refine wpAnyH_ready (rs := [5]) (by kernel_rfl) (by simp) ?_
  refine AllReadyH.cons rfl (fun K hK => ?_) AllReadyH.nil
  rw [if_pos (by kernel_rfl)]
  go_simp
  refine (sflag_t B gs g s2 _ C3.out.sr).mono ?_
  rw [H3.out]
  rintro e w9 ⟨rfl, x2, k2⟩
  have C9 := Lib.hid (C3.out.step x2 k2)
  refine hK.out _ _ C9.out.cb.c (fun _ => ?_)
  clear hK K x2 k2 C3
  refine wpAnyH_ready (rs := [7]) (by kernel_rfl) (by simp) ?_
  refine AllReadyH.cons rfl (fun K hK => ?_) AllReadyH.nil
  rw [if_pos (by kernel_rfl)]
  go_simp
  refine (sflds_t B gs g s3 _ C9.out.sr M3.out).mono ?_
  rw [H4.out]
  rintro e w4 ⟨⟨A, c, rfl, t4, n4⟩, x2, k2⟩
  have C4 := Lib.hid (C9.out.step x2 k2); have T4 := Lib.hid t4
  have N4 := Lib.hid (show NF w4 (W.heap.size + 1) A from n4.low (by have h2 := C9.out.res.lt; omega))
  refine hK.out _ _ C4.out.cb.c (fun _ => ?_)
  clear hK K x2 k2 C9 t4 n4
  refine wpAnyH_take (i := 8) (v := ?_) rfl (by kernel_rfl) (by kernel_rfl) (by kernel_rfl) (fun _ _ _ h => h) (Or.inl ⟨by kernel_rfl, ?_⟩) C4.out.cb.c ?_
  rotate_left 1
  · (intro w hS; clear hS; go_simp; try (with_reducible rfl))
  obtain ⟨y, hy⟩ : ∃ y : Wtv, (⟨⟨(v1 : Int), (v2 : Int), fg, t⟩, A, c⟩ : Wtv) = y := ⟨_, rfl⟩
  have FY := Lib.hid (wv_size y); have FO := Lib.hid (wv_oneA y)
  have HIV := Lib.hid (show wv y = [.int .i64 (v1 : Int), .int .i64 (v2 : Int), .bool fg, .slice A t.length c] from by rw [← hy]; rfl)
  have HY := Lib.hid hy
  clear hy
  refine wpAnyH_ready (rs := [9]) (by kernel_rfl) (by simp) ?_
  refine AllReadyH.cons rfl (fun K hK => ?_) AllReadyH.nil
  rw [if_pos (by kernel_rfl)]
  refine wstore_part 113 (.tmp 1) (.tmp 10) W.heap.size 0 113 [] [.int .i64 0, .int .i64 0, .bool false, .slice none 0 0] [] (wv y) rfl (by rw [List.nil_append, List.append_nil]; exact C4.out.res) rfl rfl FY.out FO.out (by go_simp) (by go_simp; rw [HIV.out]) ?_
  intro wz a1 a2 a3
  have RZ := Lib.hid (show Blk wz W.heap.size 113 (wv y) by have := a1.out; rwa [List.nil_append, List.append_nil] at this)
  have KZ := a2.out.keptOneS rfl
  have CF := Lib.hid (C4.out.fin KZ)
  have TZ := Lib.hid (show TR wz y.p y.x.p from by rw [← HY.out]; exact T4.out.keptS KZ (fun a ha e => by have := N4.out.ge a ha; omega))
  have NZ := Lib.hid (show NF wz W.heap.size y.p from by rw [← HY.out]; exact (N4.out.kept KZ (fun a ha e => by have := N4.out.ge a ha; omega)).low (Nat.le_succ _))
  have cz : wz.cell? ⟨gb, 0, none⟩ = some (.pointer (some ⟨gs, 0, none⟩)) := (KZ.cell (p := ⟨gb, 0, none⟩) C4.out.cb.lt (by have h1 := hclt.out; show gb ≠ W.heap.size; omega)).trans C4.out.cb.c
  refine hK.out _ _ cz (fun _ => ?_)
  clear hK K a1 a2 a3 KZ cz
  refine wpAnyH_done (by kernel_rfl) ?_ _
  go_simp
  go_wp2_with fail
  exact ret_blk (p := 1) (ty := 113) rfl rfl W.heap.size 113 _ _ rfl RZ.out Tryz.underlying113 rfl (wv_size _) ⟨y, rfl, by rw [EG.out, ← HY.out], TZ.out, by rw [EG.out]; exact CF.out.1, CF.out.2, NZ.out⟩
end Go.Proofs.YtidklgicmhdapaaGreatDoor
