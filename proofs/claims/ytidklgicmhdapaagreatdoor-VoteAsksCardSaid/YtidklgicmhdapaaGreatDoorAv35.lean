/-
  PACKAGE vote
-/
import Derived.Test.YtidklgicmhdapaaGreatDoorAv34
namespace Go.Proofs.YtidklgicmhdapaaGreatDoor
open Go Go.RowKit Sh

def zVv : Vv := ⟨0, 0, List.replicate 32 0, none, 0, []⟩
theorem zVv_w (W : World) : VvW W zVv := ⟨rfl, sl_bytes (by decide), Sr.nil, nil_bytes, Nat.zero_le _⟩
theorem built_vz : Tryz.prog.built 26 [] = some (vv zVv).toArray := by kernel_rfl
theorem lnkN_len {l : List Nat} (h : l.length ≤ 32) : (lnkN l).length = 32 := by unfold lnkN; rw [List.length_append, List.length_replicate]; omega
theorem zerosV (n : Nat) : Bytes (List.replicate n 0) := sl_bytes fun x hx => by rw [(List.mem_replicate.1 hx).2]; decide
theorem vraw_t (F : Nat → Prop) (g : Nat) (xs : List Nat) (bad : Bool) (n : Nat) (w : World) (x : RdF F w g xs bad) (hl : xs.length ≤ 70368744177664) :
    Calls Tryz.prog 25 #[.pointer (some ⟨g, 0, none⟩), .int .i64 n] w fun e w' => ∃ v, e = .returned v ∧ w'.ownsRow w.heap.size 5 1 v (rawN xs bad n).1.length (u8s (rawN xs bad n).1) ∧ RdF F w' g (rawN xs bad n).2.1 (rawN xs bad n).2.2 ∧ Kept (fun k => k = g) w w' := by
  unfold rawN
  by_cases h : n ≤ xs.length
  · rw [if_pos h]
    refine (raw_F F g xs bad n w x h hl).mono ?_
    rintro e w' ⟨v, he, o, r, k⟩
    exact ⟨v, he, by dsimp only; rw [List.length_take, Nat.min_eq_left h]; exact o, r, k⟩
  · rw [if_neg h]
    refine (raw_bad g xs bad n w x.rd (.inr (by omega))).mono ?_
    rintro e w' ⟨v, he, o, r, k⟩
    obtain ⟨A, c, h1, h2, h3⟩ := r.is
    exact ⟨v, he, o, ⟨⟨A, c, h1, h2, h3, fun hx => absurd hx (Nat.lt_irrefl 0)⟩, r.none_⟩, k⟩
theorem rTxt_txV (xs : List Nat) (bad : Bool) (n : Nat) (h : Bytes xs) : Bytes (rTxt xs bad n).1 ∧ (rTxt xs bad n).1.length ≤ n := by
  unfold rTxt
  split
  · rename_i q
    exact ⟨bytes_take (bytes_drop h _) _, by rw [List.length_take]; omega⟩
  · exact ⟨nil_bytes, Nat.zero_le _⟩
theorem vv_set {x : Vv} (hl : x.l.length = 32) (A : Option Addr) (c : Nat) (s : List Nat) : (vv x).set 34 (.slice A s.length c) = vv { x with A := A, c := c, s := s } := by
  unfold vv
  have h32 : (u8s x.l).length = 32 := by rw [u8s_length, hl]
  show Value.int .i64 x.p :: Value.int .i64 x.f :: ((u8s x.l ++ [Value.slice x.A x.s.length x.c]).set 32 _) = _
  rw [List.set_append_right _ _ (by omega), h32]
  rfl
structure VH (B : Nat) (w0 W : World) (g : Nat) (zs : List Nat) (bad : Bool) : Prop where
  rd : RdF (fun k => k < B ∧ k ≠ g) W g zs bad
  res : Blk W w0.heap.size 26 (vv zVv)
  og : w0.heap.size < g
  gB : g < B
  ob : B ≤ W.heap.size
  bel : Below w0.heap.size w0 W
theorem VH.read {B : Nat} {w0 W W' : World} {g : Nat} {zs zs' : List Nat} {bad bad' : Bool} (h : VH B w0 W g zs bad) (hk : Kept (fun k => k = g) W W') (hr : RdF (fun k => k < B ∧ k ≠ g) W' g zs' bad') : VH B w0 W' g zs' bad' := by
  have h1 := h.og
  exact ⟨hr, h.res.kept hk (by omega), h.og, h.gB, Nat.le_trans h.ob hk.size, kept_below h.bel hk (by omega)⟩
structure VG (B : Nat) (w0 W : World) (g g5 : Nat) (zs : List Nat) (bad : Bool) (x : Vv) : Prop where
  rd : RdF (fun k => k < B ∧ k ≠ g) W g zs bad
  res : Blk W w0.heap.size 26 (vv zVv)
  bx : Blk W g5 26 (vv x)
  og : w0.heap.size < g
  gB : g < B
  ob : B ≤ g5
  bel : Below w0.heap.size w0 W
section
variable {B : Nat} {w0 W W' : World} {g g5 : Nat} {zs zs' : List Nat} {bad bad' : Bool} {x x' : Vv}
theorem VG.read (h : VG B w0 W g g5 zs bad x) (hk : Kept (fun k => k = g) W W') (hr : RdF (fun k => k < B ∧ k ≠ g) W' g zs' bad') : VG B w0 W' g g5 zs' bad' x := by
  have h1 := h.og; have h2 := h.gB; have h3 := h.ob
  exact ⟨hr, h.res.kept hk (by omega), h.bx.kept hk (by omega), h.og, h.gB, h.ob, kept_below h.bel hk (by omega)⟩
theorem VG.below (h : VG B w0 W g g5 zs bad x) (hb : Below W.heap.size W W') : VG B w0 W' g g5 zs bad x :=
  ⟨h.rd.below hb, h.res.below hb h.res.lt, h.bx.below hb h.bx.lt, h.og, h.gB, h.ob, h.bel.trans (hb.mono h.bel.size)⟩
theorem VG.put (h : VG B w0 W g g5 zs bad x) (hk : Kept (fun k => k = g5) W W') (hb : Blk W' g5 26 (vv x')) : VG B w0 W' g g5 zs bad x' := by
  have h1 := h.og; have h2 := h.gB; have h3 := h.ob
  exact ⟨h.rd.stays hk (by omega) (fun k hf e => by omega), h.res.kept hk (by omega), hb, h.og, h.gB, h.ob, kept_below h.bel hk (by omega)⟩
theorem VH.alloc (h : VH B w0 W g zs bad) (x : Vv) : VG B w0 (W.alloc (.cells (vv x).toArray 26)) g W.heap.size zs bad x := by
  have bz : Below W.heap.size W (W.alloc (.cells (vv x).toArray 26)) := (Below.refl _ _).alloc (Nat.le_refl _) _
  exact ⟨h.rd.below bz, h.res.below bz h.res.lt, Blk.new W _ (vv x), h.og, h.gB, h.ob, h.bel.trans (bz.mono h.bel.size)⟩
end
set_option maxRecDepth 100000 in
set_option maxHeartbeats 2000000 in
theorem vGet_t (xs : List Nat) (p : Option Addr) (m c : Nat) (w : World) (hx : xs.length = m) (hp : Sr w p xs) (hb : Bytes xs) (hl : m ≤ 1000000) :
    Calls Tryz.prog 7 #[.slice p m c] w fun e W' => Below w.heap.size w W' ∧ ((okV9 xs = false ∧ e = .returned (.tuple #[.agg (vv zVv).toArray, .int .i64 2])) ∨ (okV9 xs = true ∧ ∃ y : Vv, y.vt = gotV xs ∧ e = .returned (.tuple #[.agg (vv y).toArray, .int .i64 0]) ∧ VvW W' y)) := by
  obtain ⟨⟨a, y1, d1⟩, E1⟩ : ∃ r, rNum xs false 4 = r := ⟨_, rfl⟩
  obtain ⟨⟨b, y2, d2⟩, E2⟩ : ∃ r, rNum y1 d1 1 = r := ⟨_, rfl⟩
  obtain ⟨⟨l, y3, d3⟩, E3⟩ : ∃ r, rawN y2 d2 32 = r := ⟨_, rfl⟩
  obtain ⟨⟨st, y4, d4⟩, E4⟩ : ∃ r, rTxt y3 d3 9000 = r := ⟨_, rfl⟩
  have F1 : v1 xs = (a, y1, d1) := E1
  have F2 : v2 xs = (b, y2, d2) := by unfold v2; rw [F1]; exact E2
  have F3 : v3 xs = (l, y3, d3) := by unfold v3; rw [F2]; exact E3
  have F4 : v4 xs = (st, y4, d4) := by unfold v4; rw [F3]; exact E4
  have B1 := rNum_bytes xs false 4 hb
  rw [E1] at B1
  have B2 := rNum_bytes y1 d1 1 B1.1
  rw [E2] at B2
  have B3 := rawN_bytes d2 32 B2.1
  have L3 := rawN_len y2 d2 32
  rw [E3] at B3 L3
  have B4 := rTxt_txV y3 d3 9000 B3.2
  rw [E4] at B4
  have a8 : a < 4294967296 := by have := B1.2.2; dsimp only at this; omega
  have b8 : b < 256 := by have := B2.2.2; dsimp only at this; omega
  have Q2 := Lib.hid (show y2.length ≤ 1000000 ∧ y3.length ≤ 1000000 from by have q1 := B1.2.1; have q2 := B2.2.1; have q3 := L3.2; dsimp only at q1 q2 q3; omega)
  obtain ⟨ok, hok⟩ : ∃ z, okV9 xs = z := ⟨_, rfl⟩
  obtain ⟨ge, hge⟩ : ∃ z, gotV xs = z := ⟨_, rfl⟩
  have GOT := Lib.hid (show ge = ⟨(a : Int), (b : Int), lnkN l, st⟩ from by rw [← hge]; unfold gotV; rw [F1, F2, F3, F4])
  have OKD := Lib.hid (show ok = (decide (endN y4 d4 = 0) && mayVo ge) from by rw [← hok, ← hge]; unfold okV9; rw [F4])
  rw [hok, hge]
  have H1 := Lib.hid E1; have H2 := Lib.hid E2; have H3 := Lib.hid E3; have H4 := Lib.hid E4
  have BY1 := Lib.hid B1.1; have BY2 := Lib.hid B2.1; have BY3 := Lib.hid B3; have BY4 := Lib.hid B4; have HB := Lib.hid hb; have LL := Lib.hid L3.1
  have i1 : IntKind.i64.wrap (a : Int) = (a : Int) := IntWalk.i64_in _ (by omega)
  have i2 : IntKind.i64.wrap (b : Int) = (b : Int) := IntWalk.i64_in _ (by omega)
  have Z0 := Lib.hid ((Below.refl w.heap.size w).alloc (Nat.le_refl _) (.cells (vv zVv).toArray 26))
  have R0 := Lib.hid (Blk.new w 26 (vv zVv))
  have NW := Lib.hid (rnew_t xs p m c _ hx (hp.below Z0.out) (by omega))
  clear hx hp hb E1 E2 E3 E4 F1 F2 F3 F4 B1 B2 B3 B4 L3 hok hge
  go_enter Tryz.func7, Tryz.ntmps7
  go_wp2_with fail
  refine NW.out.mono ?_
  rintro e w1 ⟨g, rfl, hg, x1, b1⟩
  have hg1 : w.heap.size < g := by have := hg; simp at this; omega
  have P1 := Lib.hid (show VH w1.heap.size w w1 g xs false from ⟨x1.there, R0.out.below b1 R0.out.lt, hg1, x1.lt, Nat.le_refl _, Z0.out.trans (b1.mono Z0.out.size)⟩)
  obtain ⟨B, hB⟩ : ∃ b, w1.heap.size = b := ⟨_, rfl⟩
  rw [hB] at P1
  clear NW hg hg1 x1 b1 Z0 R0 hB
  go_wp2_with fail
  refine (rnum_F _ g xs false 4 w1 P1.out.rd HB.out (by decide) (by decide)).mono ?_
  rw [H1.out]
  rintro e w2 ⟨rfl, x_, k_⟩
  have P2 := Lib.hid (P1.out.read k_ x_)
  clear x_ k_ P1
  go_wp2_with fail
  refine (rnum_F _ g y1 d1 1 w2 P2.out.rd BY1.out (by decide) (by decide)).mono ?_
  rw [H2.out]
  rintro e w3 ⟨rfl, x_, k_⟩
  have P3 := Lib.hid (P2.out.read k_ x_)
  clear x_ k_ P2
  obtain ⟨q1, hq1⟩ : ∃ q : Vv, (⟨(a : Int), (b : Int), List.replicate 32 0, none, 0, []⟩ : Vv) = q := ⟨_, rfl⟩
  have HQV := Lib.hid (show vv q1 = [.int .i64 (a : Int), .int .i64 (b : Int), .int .u8 0, .int .u8 0, .int .u8 0, .int .u8 0, .int .u8 0, .int .u8 0, .int .u8 0, .int .u8 0, .int .u8 0, .int .u8 0, .int .u8 0, .int .u8 0, .int .u8 0, .int .u8 0, .int .u8 0, .int .u8 0, .int .u8 0, .int .u8 0, .int .u8 0, .int .u8 0, .int .u8 0, .int .u8 0, .int .u8 0, .int .u8 0, .int .u8 0, .int .u8 0, .int .u8 0, .int .u8 0, .int .u8 0, .int .u8 0, .int .u8 0, .int .u8 0, .slice none 0 0] from by rw [← hq1]; rfl)
  have QL := Lib.hid (show q1.l.length = 32 from by rw [← hq1]; rfl)
  have FQ := Lib.hid (vv_size QL.out); have FQO := Lib.hid (vv_one q1)
  have Z0 := Lib.hid (Blk.new w3 26 (vv zVv))
  have LQ := Lib.hid (show (vv zVv).length = (vv q1).length from by rw [vv_len QL.out, vv_len (x := zVv) rfl])
  have A0 := Lib.hid (show VG B w ((w3.alloc (.cells (vv zVv).toArray 26)).setRow w3.heap.size (vv q1).toArray) g w3.heap.size y2 d2 q1 from
    (P3.out.alloc zVv).put (Kept.setRowK (F := fun k => k = w3.heap.size) (Kept.refl _ _) (.inl rfl) _) (Z0.out.setRow (vv q1)))
  go_upto_region 3 with ((with_reducible refine at_op (.store 26 (.tmp 5) (.tmp 14)) rfl ?_); go_must (refine store_blk 26 (.tmp 5) (.tmp 14) w3.heap.size 26 (vv zVv) (vv q1) rfl rfl Z0.out LQ.out FQ.out FQO.out rfl (by rw [HQV.out]; rfl) ?_))
  obtain ⟨V, hV⟩ : ∃ V, (w3.alloc (.cells (vv zVv).toArray 26)).setRow w3.heap.size (vv q1).toArray = V := ⟨_, rfl⟩
  change Code.wp _ _ _ _ ((w3.alloc (.cells (vv zVv).toArray 26)).setRow w3.heap.size (vv q1).toArray)
  rw [hV] at A0 ⊢
  obtain ⟨gx, hgx⟩ : ∃ x, w3.heap.size = x := ⟨_, rfl⟩
  rw [hgx] at A0 ⊢
  have HQ1 := Lib.hid hq1
  have A1 := Lib.hid A0.out
  clear A0 P3 hgx hV i1 i2 hq1 HQV Z0 LQ FQ FQO QL
  obtain ⟨U, hU⟩ : ∃ U, V.drew = U := ⟨_, rfl⟩
  have A2 := Lib.hid (A1.out.below (show Below V.heap.size V U from by rw [← hU]; exact (Below.refl _ _).drew))
  refine wp_region_held (S := fun _ => True) (by kernel_rfl) ?_
  change wpAnyH _ _ _ _ _ _ _ _ V.drew
  rw [hU]
  clear hU A1
  refine wpAnyH_take (i := 0) (v := ?_) rfl (by kernel_rfl) (by kernel_rfl) (by kernel_rfl) (fun _ _ _ h => h) (Or.inl ⟨by kernel_rfl, ?_⟩) trivial ?_
  rotate_left 1
  · (intro w hS; clear hS; go_simp; try (with_reducible rfl))
  refine wpAnyH_take (i := 1) (v := ?_) rfl (by kernel_rfl) (by kernel_rfl) (by kernel_rfl) (fun _ _ _ h => h) (Or.inl ⟨by kernel_rfl, ?_⟩) trivial ?_
  rotate_left 1
  · (intro w hS; clear hS; go_simp; try (with_reducible rfl))
  refine wpAnyH_take (i := 2) (v := ?_) rfl (by kernel_rfl) (by kernel_rfl) (by kernel_rfl) (fun _ _ _ h => h) (Or.inl ⟨by kernel_rfl, ?_⟩) trivial ?_
  rotate_left 1
  · (intro w hS; clear hS; go_simp; try (with_reducible rfl))
  have RT := Lib.hid (vraw_t _ g y2 d2 32 U A2.out.rd (by have := Q2.out.1; omega))
  rw [H3.out] at RT
  refine wpAnyH_ready (rs := [3]) (by kernel_rfl) (by simp) ?_
  refine AllReadyH.cons rfl (fun K hK => ?_) AllReadyH.nil
  rw [if_pos (by kernel_rfl)]
  go_simp
  refine RT.out.mono ?_
  rintro e w5 ⟨v, rfl, o5, x5, k5⟩
  dsimp only at o5 x5
  obtain ⟨A, cA, rfl, _⟩ := own_form o5
  have S5 := Lib.hid (Sr.of_own (xs := l) o5)
  have A3 := Lib.hid (A2.out.read k5 x5)
  refine hK.out _ _ trivial (fun hz => ?_)
  clear hK K hz RT o5 x5 k5 A2
  have HRS := Lib.hid (show (vv q1) = [.int .i64 (a : Int), .int .i64 (b : Int)] ++ (u8s (List.replicate l.length 0) ++ (u8s (List.replicate (32 - l.length) 0) ++ [.slice none 0 0])) from by
    have h : List.replicate 32 0 = List.replicate l.length 0 ++ List.replicate (32 - l.length) 0 := by rw [List.replicate_append_replicate]; congr 1; have := LL.out; omega
    rw [← HQ1.out]
    unfold vv
    dsimp only
    rw [h, u8s_app, List.append_assoc]
    rfl)
  refine wpAnyH_ready (rs := [4]) (by kernel_rfl) (by simp) ?_
  refine AllReadyH.cons rfl (fun K hK => ?_) AllReadyH.nil
  rw [if_pos (by kernel_rfl)]
  refine wcopy_partG (.tmp 16) (.tmp 18) 24 24 5 gx 2 32 32 l.length cA l.length (some ⟨gx, 2, none⟩) A 26 [.int .i64 (a : Int), .int .i64 (b : Int)] (u8s (List.replicate l.length 0)) (u8s (List.replicate (32 - l.length) 0) ++ [.slice none 0 0]) (u8s l) rfl Tryz.underlying24 byte_size (by rw [← HRS.out]; exact A3.out.bx) rfl (by rw [u8s_length, u8s_length, List.length_replicate]) (by rw [u8s_length]; have := LL.out; exact (Nat.min_eq_left this).symm) (by go_simp) (by go_simp) (fun hpos => ⟨rfl, by
    obtain ⟨ad, ha, hc⟩ := S5.out.cells (by rw [u8s_length] at hpos; exact hpos)
    exact ⟨ad, ha, hc⟩⟩) (u8s_each _) (by rw [u8s_length]) ?_
  intro wz a1 a2 a3
  have A4 := Lib.hid (A3.out.put (x' := ⟨(a : Int), (b : Int), lnkN l, none, 0, []⟩) (a2.out.keptOneS rfl) (by
    have h := a1.out
    rw [show vv ⟨(a : Int), (b : Int), lnkN l, none, 0, []⟩ = [.int .i64 (a : Int), .int .i64 (b : Int)] ++ (u8s l ++ (u8s (List.replicate (32 - l.length) 0) ++ [.slice none 0 0])) from by
      unfold vv lnkN
      dsimp only
      rw [u8s_app, List.append_assoc]
      rfl]
    exact h))
  refine hK.out _ _ trivial (fun hz => ?_)
  clear hK K hz a1 a2 a3 S5 A3 HRS
  refine wpAnyH_done (by kernel_rfl) ?_ _
  go_simp
  have LK := Lib.hid (lnkN_len LL.out)
  go_wp2_with fail
  refine (rtxt_F _ g y3 d3 9000 wz A4.out.rd BY3.out.2 (by decide) (by have := Q2.out.2; omega)).mono ?_
  rw [H4.out]
  rintro e w8 ⟨u, rfl, o8, x8, k8⟩
  dsimp only at o8 x8
  obtain ⟨A', cA', rfl, _⟩ := own_form o8
  have A5 := Lib.hid (A4.out.read k8 x8)
  have O5 := Lib.hid (own_base (base' := gx + 1) o8 (fun k hk => by have h1 := (o8.lt k hk).1; have h2 := A4.out.bx.lt; omega))
  clear o8 x8 k8 A4
  have fz := A5.out.bx.frozen 34
  have ct : w8.cell? ⟨gx, 34, none⟩ = some (.slice none 0 0) := (vv_cells A5.out.bx LK.out).2.2
  have kz : Kept (fun k => k = gx) w8 (w8.setCell ⟨gx, 34, none⟩ (.slice A' st.length cA')) := Kept.setCell (F := fun k => k = gx) (Kept.refl _ _) (p := ⟨gx, 34, none⟩) (.inl rfl) _
  have A6 := Lib.hid (A5.out.put (x' := ⟨(a : Int), (b : Int), lnkN l, A', cA', st⟩) kz (by
    have h := A5.out.bx.store 34 (.slice A' st.length cA')
    rw [vv_set (x := ⟨(a : Int), (b : Int), lnkN l, none, 0, []⟩) LK.out A' cA' st] at h
    exact h))
  have O6 := Lib.hid (own_kept O5.out kz (fun k hk e => by have := (O5.out.lt k hk).1; omega))
  clear A5 O5 kz
  go_upto_region 5 with (fail)
  clear fz ct
  obtain ⟨V4, hV4⟩ : ∃ V, w8.setCell ⟨gx, 34, none⟩ (.slice A' st.length cA') = V := ⟨_, rfl⟩
  rw [hV4] at A6 O6 ⊢
  clear hV4
  obtain ⟨y, hy⟩ : ∃ y : Vv, (⟨(a : Int), (b : Int), lnkN l, A', cA', st⟩ : Vv) = y := ⟨_, rfl⟩
  have HYG := Lib.hid (show y.vt = ge from by rw [← hy, GOT.out]; rfl)
  have GYW := Lib.hid (show VvW V4 y from by
    rw [← hy]
    exact ⟨LK.out, app_bytes BY3.out.1 (zerosV _), Sr.of_own O6.out, BY4.out.1, by have := BY4.out.2; show st.length ≤ _; omega⟩)
  have OY := Lib.hid (show V4.ownsRow (gx + 1) 5 1 (.slice y.A y.s.length y.c) y.s.length (u8s y.s) from by rw [← hy]; exact O6.out)
  rw [hy] at A6
  clear hy GOT O6
  have ET := Lib.hid (end_t g y4 d4 V4 A6.out.rd.rd)
  obtain ⟨en, hen⟩ : ∃ z, endN y4 d4 = z := ⟨_, rfl⟩
  rw [hen] at ET OKD
  clear hen
  by_cases h0 : en = 0
  · subst h0
    have MT := Lib.hid (vMayPut_t y V4 GYW.out)
    rw [HYG.out] at MT
    obtain ⟨mb, hmb⟩ : ∃ b, mayVo ge = b := ⟨_, rfl⟩
    rw [hmb] at MT OKD
    have FY := Lib.hid (vv_size GYW.out.ll); have FYO := Lib.hid (vv_one y)
    clear hmb
    go_wp2_with fail
    refine ET.out.mono ?_
    rintro e w9 ⟨rfl, rfl⟩
    have GBX := Lib.hid A6.out.bx
    go_wp2_with ((with_reducible refine load_blk_gdO 27 26 (.tmp 5) gx 26 (vv y) _ ?_ ?_ rfl ?_ Tryz.underlying26 ?_ ?_ ?_ ?_); exact rfl; kernel_rfl; exact GBX.out; exact rfl; exact FY.out; exact rfl)
    refine MT.out.mono ?_
    rintro e w10 ⟨rfl, b10⟩
    have A7 := Lib.hid (A6.out.below b10); have GY7 := Lib.hid (GYW.out.below b10); have OY7 := Lib.hid (own_below OY.out b10)
    clear b10 MT ET GBX A6 GYW
    cases mb with
    | false =>
      have RES := Lib.hid A7.out.res
      have RZ := Lib.hid (A7.out.res.setRow (vv zVv))
      have BF := Lib.hid (below_setRow A7.out.bel (Nat.le_refl _) (vv zVv).toArray)
      have FZ := Lib.hid (vv_size (x := zVv) rfl); have FZO := Lib.hid (vv_one zVv)
      have BZ := built_vz
      go_wp2_with ((with_reducible refine at_op (.store 26 (.tmp 2) (.tmp 31)) rfl ?_); go_must (refine store_blk 26 (.tmp 2) (.tmp 31) w.heap.size 26 _ (vv zVv) rfl rfl RES.out rfl FZ.out FZO.out rfl rfl ?_))
      exact ret_blkS (p := 2) (u := 3) (ty := 26) rfl rfl w.heap.size 26 _ _ rfl RZ.out Tryz.underlying26 rfl FZ.out _ rfl ⟨BF.out, .inl ⟨OKD.out, rfl⟩⟩
    | true =>
      have OK := Lib.hid (show ok = true from OKD.out)
      have RES := Lib.hid A7.out.res
      have GBX := Lib.hid A7.out.bx
      have RZ := Lib.hid (A7.out.res.setRow (vv y))
      have BF := Lib.hid (below_setRow A7.out.bel (Nat.le_refl _) (vv y).toArray)
      have KW := Lib.hid (show VvW (w10.setRow w.heap.size (vv y).toArray) y from by
        have q := GY7.out
        have kz : Kept (fun k => k = w.heap.size) w10 (w10.setRow w.heap.size (vv y).toArray) := Kept.setRowK (F := fun k => k = w.heap.size) (Kept.refl _ _) (.inl rfl) _
        exact ⟨q.ll, q.lb, Sr.of_own (own_kept OY7.out kz (fun k e e2 => own_apart OY7.out A7.out.res (by decide) (by rw [e, e2]))), q.sb, q.sn⟩)
      have LVZ := Lib.hid (show (vv zVv).length = (vv y).length from by rw [vv_len GY7.out.ll, vv_len (x := zVv) rfl])
      go_wp2_with (first
        | ((with_reducible refine load_blk 26 (.tmp 5) gx 26 (vv y) _ rfl rfl ?_ Tryz.underlying26 ?_ ?_ ?_ ?_); exact GBX.out; exact rfl; exact FY.out; exact rfl)
        | ((with_reducible refine at_op (.store 26 (.tmp 2) (.tmp 32)) rfl ?_); go_must (refine store_blk 26 (.tmp 2) (.tmp 32) w.heap.size 26 _ (vv y) rfl rfl RES.out LVZ.out FY.out FYO.out rfl rfl ?_)))
      exact ret_blkS (p := 2) (u := 3) (ty := 26) rfl rfl w.heap.size 26 _ _ rfl RZ.out Tryz.underlying26 rfl FY.out _ rfl ⟨BF.out, .inr ⟨OK.out, y, HYG.out, rfl, KW.out⟩⟩
  · have e1 : ((en : Int) != 0) = true := by rw [bne_iff_ne]; omega
    have OK := Lib.hid (show ok = false from by have := OKD.out; rw [decide_eq_false h0] at this; exact this)
    go_wp2_with fail
    refine ET.out.mono ?_
    rintro e w9 ⟨rfl, rfl⟩
    clear ET GYW
    have RES := Lib.hid A6.out.res
    have RZ := Lib.hid (A6.out.res.setRow (vv zVv))
    have BF := Lib.hid (below_setRow A6.out.bel (Nat.le_refl _) (vv zVv).toArray)
    have FZ := Lib.hid (vv_size (x := zVv) rfl); have FZO := Lib.hid (vv_one zVv)
    have BZ := built_vz
    go_wp2_with ((with_reducible refine at_op (.store 26 (.tmp 2) (.tmp 31)) rfl ?_); go_must (refine store_blk 26 (.tmp 2) (.tmp 31) w.heap.size 26 _ (vv zVv) rfl rfl RES.out rfl FZ.out FZO.out rfl rfl ?_))
    exact ret_blkS (p := 2) (u := 3) (ty := 26) rfl rfl w.heap.size 26 _ _ rfl RZ.out Tryz.underlying26 rfl FZ.out _ rfl ⟨BF.out, .inl ⟨OK.out, rfl⟩⟩
end Go.Proofs.YtidklgicmhdapaaGreatDoor
