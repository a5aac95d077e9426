/-
  THE REFERENCE OF CHAPTER 13
-/
import Derived.Test.YtidklgicmhdapaaGreatDoorAv43
import Derived.Test.YtidklgicmhdapaaGreatDoorAv35
namespace Go.Proofs.YtidklgicmhdapaaGreatDoor
open Go Go.RowKit Sh

theorem rrawV_t (g : Nat) (zs : List Nat) (bad : Bool) (w0 w : World) (x : Rr w0 w g zs bad) :
    Calls Tryz.prog 46 #[.pointer (some ⟨g, 0, none⟩), .int .i64 32] w fun e w' => (∃ A c, e = .returned (.slice A (rawN zs bad 32).1.length c) ∧ Sr w' A (rawN zs bad 32).1) ∧ Rr w0 w' g (rawN zs bad 32).2.1 (rawN zs bad 32).2.2 ∧ Kept (fun k => k = g) w w' := by
  unfold rawN
  by_cases h : 32 ≤ zs.length
  · have hb : bad = false := by
      cases hq : bad with
      | false => rfl
      | true =>
        have := x.none_ hq
        subst this
        exact absurd h (by decide)
    subst hb
    rw [if_pos h]
    refine (rraw_ok g zs 32 w0 w x h).mono ?_
    rintro e w' ⟨⟨A, c, he, _, hs⟩, r, k⟩
    exact ⟨⟨A, c, by rw [he]; dsimp only; rw [List.length_take, Nat.min_eq_left h], hs⟩, r, k⟩
  · rw [if_neg h]
    refine (rraw_bad g zs bad 32 w0 w x (.inr (by omega))).mono ?_
    rintro e w' ⟨he, r, k⟩
    exact ⟨⟨none, 0, he, Sr.nil⟩, r, k⟩
structure HV (w0 w W : World) (g : Nat) (zs : List Nat) (bad : Bool) (l : List Nat) : Prop where
  rd : Rr w0 W g zs bad
  res : Blk W w.heap.size 23 (u8s (List.replicate 32 0))
  bx : Blk W (w.heap.size + 1) 23 (u8s l)
  k : Kept (fun k => k = g) w W
  lt : g < w.heap.size
  lo : w0.heap.size ≤ w.heap.size
section
variable {w0 w W W' : World} {g : Nat} {zs zs' : List Nat} {bad bad' : Bool} {l l' : List Nat}
theorem HV.below (h : HV w0 w W g zs bad l) (hb : Below W.heap.size W W') : HV w0 w W' g zs bad l :=
  ⟨h.rd.below hb, h.res.below hb h.res.lt, h.bx.below hb h.bx.lt, h.k.trans (Kept.of_below hb), h.lt, h.lo⟩
theorem HV.read (h : HV w0 w W g zs bad l) (hk : Kept (fun k => k = g) W W') (hr : Rr w0 W' g zs' bad') : HV w0 w W' g zs' bad' l := by
  have := h.lt
  exact ⟨hr, h.res.kept hk (by omega), h.bx.kept hk (by omega), h.k.trans hk, h.lt, h.lo⟩
theorem HV.put (h : HV w0 w W g zs bad l) (hk : Kept (fun k => k = w.heap.size + 1) W W') (hb : Blk W' (w.heap.size + 1) 23 (u8s l')) : HV w0 w W' g zs bad l' := by
  have h1 := h.lt; have h2 := h.lo
  exact ⟨h.rd.off hk (by omega) (by omega), h.res.kept hk (by omega), hb, ⟨hk.os.trans h.k.os, hk.tape.trans h.k.tape, hk.output.trans h.k.output, Nat.le_trans h.k.size hk.size, fun k hk1 hf => (hk.block k (Nat.lt_of_lt_of_le hk1 h.k.size) (by omega)).trans (h.k.block k hk1 hf)⟩, h.lt, h.lo⟩
theorem HV.new (x : Rr w0 w g zs bad) : HV w0 w ((w.alloc (.cells (u8s (List.replicate 32 0)).toArray 23)).alloc (.cells (u8s (List.replicate 32 0)).toArray 23)) g zs bad (List.replicate 32 0) := by
  have b0 : Below w.heap.size w ((w.alloc (.cells (u8s (List.replicate 32 0)).toArray 23)).alloc (.cells (u8s (List.replicate 32 0)).toArray 23)) := ((Below.refl _ _).alloc (Nat.le_refl _) _).alloc (by simp) _
  exact ⟨x.below b0, (Blk.new w 23 (u8s (List.replicate 32 0))).alloc _, Blk.new2 w _ 23 (u8s (List.replicate 32 0)), Kept.of_below b0, x.lt, x.bel.size⟩
end
set_option maxRecDepth 100000 in
set_option maxHeartbeats 1000000 in
theorem rrhash_t (g : Nat) (zs : List Nat) (bad : Bool) (w0 w : World) (x : Rr w0 w g zs bad) :
    Calls Tryz.prog 29 #[.pointer (some ⟨g, 0, none⟩)] w fun e w' => e = .returned (.agg (u8s (lnkN (rawN zs bad 32).1)).toArray) ∧ Rr w0 w' g (rawN zs bad 32).2.1 (rawN zs bad 32).2.2 ∧ Kept (fun k => k = g) w w' := by
  have LL := Lib.hid (rawN_len zs bad 32).1
  have S0 := Lib.hid (HV.new x)
  have RWT := Lib.hid (fun (W : World) (h : Rr w0 W g zs bad) => rrawV_t g zs bad w0 W h)
  obtain ⟨⟨l, ys, d⟩, hr⟩ : ∃ r, rawN zs bad 32 = r := ⟨_, rfl⟩
  rw [hr] at LL RWT ⊢
  clear hr x
  go_enter Tryz.func29, Tryz.ntmps29
  go_upto_region 2 with (fail)
  refine world_at (fun Y => HV w0 w Y g zs bad (List.replicate 32 0)) S0.out ?_
  rintro V s1
  obtain ⟨U, hU⟩ : ∃ U, V.drew = U := ⟨_, rfl⟩
  have S2 := Lib.hid (s1.below (show Below V.heap.size V U from by rw [← hU]; exact (Below.refl _ _).drew))
  refine wp_region_held (S := fun _ => True) (by kernel_rfl) ?_
  change wpAnyH _ _ _ _ _ _ _ _ V.drew
  rw [hU]
  clear hU s1 S0
  refine wpAnyH_take (i := 0) (v := ?_) rfl (by kernel_rfl) (by kernel_rfl) (by kernel_rfl) (fun _ _ _ h => h) (Or.inl ⟨by kernel_rfl, ?_⟩) trivial ?_
  rotate_left 1
  · (intro w hS; clear hS; go_simp; try (with_reducible rfl))
  refine wpAnyH_take (i := 1) (v := ?_) rfl (by kernel_rfl) (by kernel_rfl) (by kernel_rfl) (fun _ _ _ h => h) (Or.inl ⟨by kernel_rfl, ?_⟩) trivial ?_
  rotate_left 1
  · (intro w hS; clear hS; go_simp; try (with_reducible rfl))
  refine wpAnyH_ready (rs := [2]) (by kernel_rfl) (by simp) ?_
  refine AllReadyH.cons rfl (fun K hK => ?_) AllReadyH.nil
  rw [if_pos (by kernel_rfl)]
  go_simp
  refine (RWT.out U S2.out.rd).mono ?_
  rintro e w5 ⟨⟨A, cA, rfl, sa⟩, x5, k5⟩
  dsimp only at sa x5
  have S3 := Lib.hid (S2.out.read k5 x5); have SA := Lib.hid sa
  refine hK.out _ _ trivial (fun hz => ?_)
  clear hK K hz sa x5 k5 S2 RWT
  dsimp only at LL
  have HRS := Lib.hid (show u8s (List.replicate 32 0) = u8s (List.replicate l.length 0) ++ u8s (List.replicate (32 - l.length) 0) from by
    rw [← u8s_app, List.replicate_append_replicate]
    congr 2
    have := LL.out
    omega)
  refine wpAnyH_ready (rs := [3]) (by kernel_rfl) (by simp) ?_
  refine AllReadyH.cons rfl (fun K hK => ?_) AllReadyH.nil
  rw [if_pos (by kernel_rfl)]
  refine wcopy_partG (.tmp 4) (.tmp 6) 24 24 5 (w.heap.size + 1) 0 32 32 l.length cA l.length (some ⟨w.heap.size + 1, 0, none⟩) A 23 [] (u8s (List.replicate l.length 0)) (u8s (List.replicate (32 - l.length) 0)) (u8s l) rfl Tryz.underlying24 byte_size (by rw [List.nil_append, ← HRS.out]; exact S3.out.bx) rfl (by rw [u8s_length, u8s_length, List.length_replicate]) (by rw [u8s_length]; have := LL.out; exact (Nat.min_eq_left this).symm) (by go_simp) (by go_simp) (fun hpos => ⟨rfl, by
    obtain ⟨ad, ha, hc⟩ := SA.out.cells (by rw [u8s_length] at hpos; exact hpos)
    exact ⟨ad, ha, hc⟩⟩) (u8s_each _) (by rw [u8s_length]) ?_
  intro wz a1 a2 a3
  have S4 := Lib.hid (S3.out.put (l' := lnkN l) (a2.out.keptOneS rfl) (by
    have h := a1.out
    rw [List.nil_append, ← u8s_app] at h
    exact h))
  refine hK.out _ _ trivial (fun hz => ?_)
  clear hK K hz a1 a2 a3 SA S3 HRS
  refine wpAnyH_done (by kernel_rfl) ?_ _
  go_simp
  have LK := Lib.hid (lnkN_len LL.out)
  have BX := Lib.hid S4.out.bx; have RES := Lib.hid S4.out.res
  have SZ := Lib.hid (hash_size (lnkN l) LK.out)
  have HZL := Lib.hid (show (u8s (List.replicate 32 0)).length = (u8s (lnkN l)).length by rw [u8s_length, u8s_length, LK.out]; rfl)
  obtain ⟨L, hL⟩ : ∃ L, lnkN l = L := ⟨_, rfl⟩
  rw [hL] at BX SZ HZL S4
  have HLL := Lib.hid hL
  clear hL LK LL
  go_wp2_with (first
    | ((with_reducible refine load_blk 23 (.tmp 3) (w.heap.size + 1) 23 (u8s L) _ rfl rfl ?_ Tryz.underlying23 ?_ ?_ ?_ ?_); exact BX.out; exact rfl; exact SZ.out; exact rfl)
    | ((with_reducible refine at_op (.store 23 (.tmp 2) (.tmp 8)) rfl ?_); go_must (refine store_blk 23 (.tmp 2) (.tmp 8) w.heap.size 23 (u8s (List.replicate 32 0)) (u8s L) rfl rfl RES.out HZL.out SZ.out (u8s_oneD _) rfl rfl ?_)))
  have kz : Kept (fun k => k = w.heap.size) wz (wz.setRow w.heap.size (u8s L).toArray) := Kept.setRowK (F := fun k => k = w.heap.size) (Kept.refl _ _) (.inl rfl) _
  exact ret_blk (p := 2) (ty := 23) rfl rfl w.heap.size 23 _ _ rfl (RES.out.setRow _) Tryz.underlying23 rfl SZ.out ⟨by rw [HLL.out], S4.out.rd.off kz (by have := S4.out.lt; omega) S4.out.lo, Kept.setRowK (F := fun k => k = g) S4.out.k (.inr (Nat.le_refl _)) _⟩
structure RV9 (w0 W : World) (g gx : Nat) (zs : List Nat) (bad : Bool) (x : Vv) : Prop where
  rd : Rr w0 W g zs bad
  bx : Blk W gx 26 (vv x)
  res : Blk W w0.heap.size 26 (vv zVv)
  hi : w0.heap.size < gx
section
variable {w0 W W' : World} {g gx : Nat} {zs zs' : List Nat} {bad bad' : Bool} {x x' : Vv}
theorem RV9.below (h : RV9 w0 W g gx zs bad x) (hb : Below W.heap.size W W') : RV9 w0 W' g gx zs bad x :=
  ⟨h.rd.below hb, h.bx.below hb h.bx.lt, h.res.below hb h.res.lt, h.hi⟩
theorem RV9.read (h : RV9 w0 W g gx zs bad x) (hk : Kept (fun k => k = g) W W') (hr : Rr w0 W' g zs' bad') : RV9 w0 W' g gx zs' bad' x := by
  obtain ⟨A, c, h1, _, _⟩ := h.rd.is
  exact ⟨hr, h.bx.kept hk (h.bx.apart h1 (by decide)), h.res.kept hk (h.res.apart h1 (by decide)), h.hi⟩
theorem RV9.put (h : RV9 w0 W g gx zs bad x) (hk : Kept (fun k => k = gx) W W') (hb : Blk W' gx 26 (vv x')) : RV9 w0 W' g gx zs bad x' := by
  obtain ⟨A, c, h1, _, _⟩ := h.rd.is
  have hi := h.hi
  exact ⟨h.rd.off hk (h1.apart h.bx (by decide)) (by omega), hb, h.res.kept hk (by omega), h.hi⟩
theorem RV9.far {B : Nat} {F : Nat → Prop} (h : RV9 w0 W g gx zs bad x) (hk : Kept F W W') (hF : ∀ k, F k → B ≤ k) (h0 : w0.heap.size < B) (h1 : g < B) (h2 : gx < B) : RV9 w0 W' g gx zs bad x := by
  have f : ∀ k, k < B → ¬ F k := fun k hk hf => by have := hF k hf; omega
  obtain ⟨A, c, q1, q2, q3⟩ := h.rd.is
  exact ⟨⟨⟨A, c, q1.kept hk (f g h1), q2, q3⟩, h.rd.none_, h.rd.bel.trans ((hk.mono fun k hf => by have := hF k hf; omega).to_below h.rd.bel.size), h.rd.low⟩, h.bx.kept hk (f gx h2), h.res.kept hk (f _ h0), h.hi⟩
end
theorem byte_infoV : (Tryz.prog.info? 5).map (fun i => (i.zero, i.size, i.bytes)) = some (some (.int .u8 0), 1, 1) := by kernel_rfl
theorem own_emptyV (w : World) (base : Nat) (h : base ≤ w.heap.size) : (w.alloc (.cells #[] 5)).ownsRow base 5 1 (.slice (some ⟨w.heap.size, 0, none⟩) 0 0) 0 (u8s []) := by
  have := World.ownsRow_lit w (e := 5) (size := 1) (base := base) #[] 0 h (Nat.zero_le _) rfl
  simpa [u8s] using this
theorem own_zeroV {w : World} {base : Nat} {e : TypeId} {v : Value} {n : Nat} {xs : List Nat} (h : w.ownsRow base e 1 v (0 + n) (u8s ([] ++ xs))) : w.ownsRow base e 1 v n (u8s xs) := by rwa [List.nil_append, Nat.zero_add] at h
theorem rTxtM_V {ys : List Nat} {bad : Bool} {n : Nat} (h : bad = true → ys = []) : rTxtM ys bad n = rTxt ys bad n := by
  cases hb : bad with
  | false => exact rTxtM_eq _ _
  | true =>
    have := h hb
    subst this
    rw [rTxtM_bad, rTxt_badO]
set_option maxRecDepth 100000 in
set_option maxHeartbeats 2000000 in
theorem refGetV_t (xs : List Nat) (p : Option Addr) (m c : Nat) (w : World) (hx : xs.length = m) (hc : m ≤ c) (hp : Sr w p xs) (hb : Bytes xs) (hl : m ≤ 1000000) :
    Calls Tryz.prog 8 #[.slice p m c] w fun e W' => Below w.heap.size w W' ∧ ((okV9 xs = false ∧ e = .returned (.tuple #[.agg (vv zVv).toArray, .int .i64 2])) ∨ (okV9 xs = true ∧ ∃ y : Vv, y.vt = gotV xs ∧ e = .returned (.tuple #[.agg (vv y).toArray, .int .i64 0]) ∧ VvW W' y)) := by
  subst hx
  obtain ⟨⟨a, y1, d1⟩, E1⟩ : ∃ r, rNum xs false 4 = r := ⟨_, rfl⟩
  obtain ⟨⟨b, y2, d2⟩, E2⟩ : ∃ r, rNum y1 d1 1 = r := ⟨_, rfl⟩
  obtain ⟨⟨l, y3, d3⟩, E3⟩ : ∃ r, rawN y2 d2 32 = r := ⟨_, rfl⟩
  obtain ⟨⟨st, y4, d4⟩, E4⟩ : ∃ r, rTxt y3 d3 9000 = r := ⟨_, rfl⟩
  have F1 : v1 xs = (a, y1, d1) := E1
  have F2 : v2 xs = (b, y2, d2) := by unfold v2; rw [F1]; exact E2
  have F3 : v3 xs = (l, y3, d3) := by unfold v3; rw [F2]; exact E3
  have F4 : v4 xs = (st, y4, d4) := by unfold v4; rw [F3]; exact E4
  have B1 := rNum_bytes xs false 4 hb
  rw [E1] at B1
  have B2 := rNum_bytes y1 d1 1 B1.1
  rw [E2] at B2
  have B3 := rawN_bytes d2 32 B2.1
  have L3 := rawN_len y2 d2 32
  rw [E3] at B3 L3
  have B4 := rTxt_txV y3 d3 9000 B3.2
  rw [E4] at B4
  have a8 : a < 4294967296 := by have := B1.2.2; dsimp only at this; omega
  have b8 : b < 256 := by have := B2.2.2; dsimp only at this; omega
  have Q2 := Lib.hid (show y2.length ≤ 1000000 ∧ y3.length ≤ 1000000 from by have q1 := B1.2.1; have q2 := B2.2.1; have q3 := L3.2; dsimp only at q1 q2 q3; omega)
  obtain ⟨ok, hok⟩ : ∃ z, okV9 xs = z := ⟨_, rfl⟩
  obtain ⟨ge, hge⟩ : ∃ z, gotV xs = z := ⟨_, rfl⟩
  have GOT := Lib.hid (show ge = ⟨(a : Int), (b : Int), lnkN l, st⟩ from by rw [← hge]; unfold gotV; rw [F1, F2, F3, F4])
  have OKD := Lib.hid (show ok = (decide (endN y4 d4 = 0) && mayVo ge) from by rw [← hok, ← hge]; unfold okV9; rw [F4])
  rw [hok, hge]
  have H1 := Lib.hid E1; have H2 := Lib.hid E2; have H3 := Lib.hid E3; have H4 := Lib.hid E4
  have BY1 := Lib.hid B1.1; have BY2 := Lib.hid B2.1; have BY3 := Lib.hid B3; have BY4 := Lib.hid B4; have HB := Lib.hid hb; have LL := Lib.hid L3.1
  have i1 : IntKind.i64.wrap (a : Int) = (a : Int) := IntWalk.i64_in _ (by omega)
  have i2 : IntKind.i64.wrap (b : Int) = (b : Int) := IntWalk.i64_in _ (by omega)
  have HP := Lib.hid hp; have HC := Lib.hid hc
  have BR := built_R p xs.length c
  clear hp hc hb hl E1 E2 E3 F1 F2 F3 F4 B1 B2 B3 B4 L3 hok hge
  go_enter Tryz.func8, Tryz.ntmps8
  go_upto_region 2 with (fail)
  obtain ⟨g, hg⟩ : ∃ g, w.heap.size + 1 = g := ⟨_, rfl⟩
  refine world_at (fun Y => Rr w Y g xs false ∧ Blk Y w.heap.size 26 (vv zVv)) (by
    have b0 := (Below.refl w.heap.size w).alloc (Nat.le_refl _) (.cells (vv zVv).toArray 26)
    have b1 := b0.alloc b0.size (.cells #[.slice p xs.length c, .bool false] 56)
    rw [← hg]
    exact ⟨⟨⟨p, c, Blk.new2 w (.cells (vv zVv).toArray 26) _ [.slice p xs.length c, .bool false], HC.out, HP.out⟩, (fun e => by cases e), b1, by omega⟩, (Blk.new w 26 (vv zVv)).alloc _⟩) ?_
  rintro Y ⟨qy, qr⟩
  first | rw [hg] | skip
  have HG := Lib.hid hg
  have Q0 := Lib.hid qy; have R0 := Lib.hid qr
  clear qy qr HP HC BR hg
  go_wp2_with fail
  refine (rrnum_t g xs false 4 w Y Q0.out HB.out (by decide) (by decide)).mono ?_
  rw [H1.out]
  rintro e w1 ⟨rfl, x1, k1⟩
  obtain ⟨q1, hq1⟩ : ∃ q : Vv, (⟨(a : Int), 0, List.replicate 32 0, none, 0, []⟩ : Vv) = q := ⟨_, rfl⟩
  have HQV := Lib.hid (show vv q1 = [.int .i64 (a : Int), .int .i64 0, .int .u8 0, .int .u8 0, .int .u8 0, .int .u8 0, .int .u8 0, .int .u8 0, .int .u8 0, .int .u8 0, .int .u8 0, .int .u8 0, .int .u8 0, .int .u8 0, .int .u8 0, .int .u8 0, .int .u8 0, .int .u8 0, .int .u8 0, .int .u8 0, .int .u8 0, .int .u8 0, .int .u8 0, .int .u8 0, .int .u8 0, .int .u8 0, .int .u8 0, .int .u8 0, .int .u8 0, .int .u8 0, .int .u8 0, .int .u8 0, .int .u8 0, .int .u8 0, .slice none 0 0] from by rw [← hq1]; rfl)
  have QL := Lib.hid (show q1.l.length = 32 from by rw [← hq1]; rfl)
  have FQ := Lib.hid (vv_size QL.out); have FQO := Lib.hid (vv_one q1)
  have Z0 := Lib.hid (Blk.new w1 26 (vv zVv))
  have LQ := Lib.hid (show (vv zVv).length = (vv q1).length from by rw [vv_len QL.out, vv_len (x := zVv) rfl])
  have A0 := Lib.hid (show RV9 w ((w1.alloc (.cells (vv zVv).toArray 26)).setRow w1.heap.size (vv q1).toArray) g w1.heap.size y1 d1 q1 from by
    have bz : Below w1.heap.size w1 (w1.alloc (.cells (vv zVv).toArray 26)) := (Below.refl _ _).alloc (Nat.le_refl _) _
    have r1 := R0.out.kept k1 (by have := HG.out; omega)
    have h0 : RV9 w (w1.alloc (.cells (vv zVv).toArray 26)) g w1.heap.size y1 d1 zVv := ⟨x1.below bz, Blk.new w1 _ _, r1.below bz r1.lt, r1.lt⟩
    exact h0.put (Kept.setRowK (F := fun k => k = w1.heap.size) (Kept.refl _ _) (.inl rfl) _) (Z0.out.setRow (vv q1)))
  clear x1 k1 Q0 R0
  go_upto_region 3 with ((with_reducible refine at_op (.store 26 (.tmp 5) (.tmp 12)) rfl ?_); go_must (refine store_blk 26 (.tmp 5) (.tmp 12) w1.heap.size 26 (vv zVv) (vv q1) rfl rfl Z0.out LQ.out FQ.out FQO.out rfl (by rw [HQV.out]; rfl) ?_))
  refine world_at (fun Z => RV9 w Z g w1.heap.size y1 d1 q1) A0.out ?_
  rintro Z1 az
  obtain ⟨gx, hgx⟩ : ∃ x, w1.heap.size = x := ⟨_, rfl⟩
  rw [hgx, ← hq1] at az
  try rw [hgx]
  have A1 := Lib.hid az
  clear az A0 hgx hq1 HG HQV Z0 LQ FQ FQO QL q1
  go_wp2_with fail
  refine (rrnum_t g y1 d1 1 w Z1 A1.out.rd BY1.out (by decide) (by decide)).mono ?_
  rw [H2.out]
  rintro e w2 ⟨rfl, x2, k2⟩
  have A2 := Lib.hid (A1.out.read k2 x2)
  clear x2 k2 A1
  have fz := A2.out.bx.frozen 1
  have ct : w2.cell? ⟨gx, 1, none⟩ = some (.int .i64 0) := A2.out.bx.cell 1
  have A3 := Lib.hid (A2.out.put (x' := ⟨(a : Int), (b : Int), List.replicate 32 0, none, 0, []⟩) (Kept.setCell (F := fun k => k = gx) (Kept.refl _ _) (p := ⟨gx, 1, none⟩) (.inl rfl) _) (A2.out.bx.store 1 (.int .i64 (b : Int))))
  clear A2
  go_upto_region 4 with (fail)
  clear fz ct
  obtain ⟨Z3, hZ3⟩ : ∃ V, w2.setCell ⟨gx, 1, none⟩ (.int .i64 (b : Int)) = V := ⟨_, rfl⟩
  rw [hZ3] at A3 ⊢
  clear hZ3 i1 i2
  have HT := Lib.hid (rrhash_t g y2 d2 w Z3 A3.out.rd)
  rw [H3.out] at HT
  go_wp2_with fail
  refine HT.out.mono ?_
  rintro e w4 ⟨rfl, x4, k4⟩
  have A4 := Lib.hid (A3.out.read k4 x4)
  clear x4 k4 A3 HT
  have LK := Lib.hid (lnkN_len LL.out)
  have BX := Lib.hid (show Blk w4 gx 26 ([.int .i64 (a : Int), .int .i64 (b : Int)] ++ (u8s (List.replicate 32 0) ++ [.slice none 0 0])) from A4.out.bx)
  have SZ := Lib.hid (hash_size (lnkN l) LK.out)
  have HZL := Lib.hid (show (u8s (List.replicate 32 0)).length = (u8s (lnkN l)).length by rw [u8s_length, u8s_length, LK.out]; rfl)
  go_upto_region 5 with ((with_reducible refine at_op (.store 23 (.tmp 19) (.tmp 18)) rfl ?_); go_must (refine store_part 23 (.tmp 19) (.tmp 18) gx 2 26 [.int .i64 (a : Int), .int .i64 (b : Int)] (u8s (List.replicate 32 0)) [.slice none 0 0] (u8s (lnkN l)) rfl rfl BX.out rfl HZL.out SZ.out (u8s_oneD _) rfl rfl ?_); intro wz a1 a2 a3)
  have A5 := Lib.hid (A4.out.put (x' := ⟨(a : Int), (b : Int), lnkN l, none, 0, []⟩) (a2.out.keptOneS rfl) a1.out)
  clear a1 a2 a3 BX SZ HZL A4
  have TX0 := Lib.hid (rTxtM_V (n := 9000) A5.out.rd.none_)
  have FAR := Lib.hid (show w.heap.size < wz.heap.size ∧ g < wz.heap.size ∧ gx < wz.heap.size from ⟨A5.out.res.lt, A5.out.rd.lt, A5.out.bx.lt⟩)
  have Q1 := Lib.hid (A5.out.below (show Below wz.heap.size wz (wz.alloc (.cells #[] 5)) from (Below.refl _ _).alloc (Nat.le_refl _) _))
  have OE1 := Lib.hid (own_emptyV wz w.heap.size A5.out.rd.bel.size)
  have TX := Lib.hid (rrtxt_t g y3 d3 9000 w _ Q1.out.rd BY3.out.2 (by decide) (by have := Q2.out.2; omega))
  rw [TX0.out, H4.out] at TX
  clear A5 TX0
  go_wp2_with fail
  refine TX.out.mono ?_
  rintro e w6 ⟨⟨A, cA, rfl, _, sa⟩, x6, k6⟩
  have A6 := Lib.hid (Q1.out.read k6 x6); have SA := Lib.hid sa
  have OE := Lib.hid (show w6.ownsRow w.heap.size 5 1 (.slice (some ⟨wz.heap.size, 0, none⟩) 0 0) 0 (u8s []) from own_kept OE1.out k6 (fun k e q => by have h1 := Option.some.inj e; have h2 := FAR.out.2.1; simp at h1; omega))
  have HB6 := Lib.hid (show w.heap.size ≤ w6.heap.size from A6.out.rd.bel.size)
  have STL := Lib.hid (show 0 + st.length ≤ 70368744177664 from by have h : st.length ≤ 9000 := BY4.out.2; omega)
  clear sa x6 k6 TX Q1 OE1
  go_upto_region 6 with ((with_reducible refine at_op (.call { callee := .builtin .append, args := #[.tmp 20, .tmp 22], argTypes := #[24, 24] }) rfl ?_); go_must (refine append_bytes (.tmp 20) (.tmp 22) 24 rfl rfl 5 Tryz.underlying24 byte_infoV w.heap.size (.slice (some ⟨wz.heap.size, 0, none⟩) 0 0) 0 [] st rfl OE.out A st.length cA rfl rfl SA.out STL.out HB6.out ?_); intro v1' w7 a1 a2 a3; have O7 := Lib.hid (own_zeroV a1.out); obtain ⟨A', cA', hv1, hc1⟩ := own_form O7.out; subst hv1; have A7 := Lib.hid (A6.out.far (B := wz.heap.size) ((Kept.refl _ w6).grown a2.out (fun k e => .inl (by have := Option.some.inj e; exact this.symm)) : Kept (fun k => k = wz.heap.size) w6 w7) (fun k e => by omega) FAR.out.1 FAR.out.2.1 FAR.out.2.2); clear a1 a2 a3; have fz := A7.out.bx.frozen 34; have ct : w7.cell? ⟨gx, 34, none⟩ = some (.slice none 0 0) := (vv_cells A7.out.bx LK.out).2.2)
  have kz : Kept (fun k => k = gx) w7 (w7.setCell ⟨gx, 34, none⟩ (.slice A' st.length cA')) := Kept.setCell (F := fun k => k = gx) (Kept.refl _ _) (p := ⟨gx, 34, none⟩) (.inl rfl) _
  have A8 := Lib.hid (A7.out.put (x' := ⟨(a : Int), (b : Int), lnkN l, A', cA', st⟩) kz (by
    have h := A7.out.bx.store 34 (.slice A' st.length cA')
    rw [vv_set (x := ⟨(a : Int), (b : Int), lnkN l, none, 0, []⟩) LK.out A' cA' st] at h
    exact h))
  have O8 := Lib.hid (own_kept O7.out kz (fun k e q => own_apart O7.out A7.out.bx (by decide) (by rw [e, q])))
  clear fz ct kz A6 A7 O7 OE SA HB6 STL FAR hc1
  obtain ⟨V4, hV4⟩ : ∃ V, w7.setCell ⟨gx, 34, none⟩ (.slice A' st.length cA') = V := ⟨_, rfl⟩
  rw [hV4] at A8 O8 ⊢
  clear hV4
  obtain ⟨y, hy⟩ : ∃ y : Vv, (⟨(a : Int), (b : Int), lnkN l, A', cA', st⟩ : Vv) = y := ⟨_, rfl⟩
  have HYG := Lib.hid (show y.vt = ge from by rw [← hy, GOT.out]; rfl)
  have GYW := Lib.hid (show VvW V4 y from by
    rw [← hy]
    exact ⟨LK.out, app_bytes BY3.out.1 (zerosV _), Sr.of_own O8.out, BY4.out.1, by have := BY4.out.2; show st.length ≤ _; omega⟩)
  have OY := Lib.hid (show V4.ownsRow w.heap.size 5 1 (.slice y.A y.s.length y.c) y.s.length (u8s y.s) from by rw [← hy]; exact O8.out)
  rw [hy] at A8
  clear hy GOT O8
  have ET := Lib.hid (rrend_t g y4 d4 w V4 A8.out.rd)
  obtain ⟨en, hen⟩ : ∃ z, endN y4 d4 = z := ⟨_, rfl⟩
  rw [hen] at ET OKD
  clear hen
  by_cases h0 : en = 0
  · subst h0
    have MT := Lib.hid (refMayV_t y V4 GYW.out)
    rw [HYG.out] at MT
    obtain ⟨mb, hmb⟩ : ∃ b, mayVo ge = b := ⟨_, rfl⟩
    rw [hmb] at MT OKD
    have FY := Lib.hid (vv_size GYW.out.ll); have FYO := Lib.hid (vv_one y)
    clear hmb
    go_wp2_with fail
    refine ET.out.mono ?_
    rintro e w9 ⟨rfl, rfl⟩
    have GBX := Lib.hid A8.out.bx
    go_wp2_with ((with_reducible refine load_blk_gdO 29 26 (.tmp 5) gx 26 (vv y) _ ?_ ?_ rfl ?_ Tryz.underlying26 ?_ ?_ ?_ ?_); exact rfl; kernel_rfl; exact GBX.out; exact rfl; exact FY.out; exact rfl)
    refine MT.out.mono ?_
    rintro e w10 ⟨rfl, b10⟩
    have A9 := Lib.hid (A8.out.below b10); have GY9 := Lib.hid (GYW.out.below b10); have OY9 := Lib.hid (own_below OY.out b10)
    clear b10 MT ET GBX A8 GYW
    cases mb with
    | false =>
      have RES := Lib.hid A9.out.res
      have RZ := Lib.hid (A9.out.res.setRow (vv zVv))
      have BF := Lib.hid (below_setRow A9.out.rd.bel (Nat.le_refl _) (vv zVv).toArray)
      have FZ := Lib.hid (vv_size (x := zVv) rfl); have FZO := Lib.hid (vv_one zVv)
      have BZ := built_vz
      go_wp2_with ((with_reducible refine at_op (.store 26 (.tmp 2) (.tmp 33)) rfl ?_); go_must (refine store_blk 26 (.tmp 2) (.tmp 33) w.heap.size 26 _ (vv zVv) rfl rfl RES.out rfl FZ.out FZO.out rfl rfl ?_))
      exact ret_blkS (p := 2) (u := 3) (ty := 26) rfl rfl w.heap.size 26 _ _ rfl RZ.out Tryz.underlying26 rfl FZ.out _ rfl ⟨BF.out, .inl ⟨OKD.out, rfl⟩⟩
    | true =>
      have OK := Lib.hid (show ok = true from OKD.out)
      have RES := Lib.hid A9.out.res
      have GBX := Lib.hid A9.out.bx
      have RZ := Lib.hid (A9.out.res.setRow (vv y))
      have BF := Lib.hid (below_setRow A9.out.rd.bel (Nat.le_refl _) (vv y).toArray)
      have KW := Lib.hid (show VvW (w10.setRow w.heap.size (vv y).toArray) y from by
        have q := GY9.out
        have kz : Kept (fun k => k = w.heap.size) w10 (w10.setRow w.heap.size (vv y).toArray) := Kept.setRowK (F := fun k => k = w.heap.size) (Kept.refl _ _) (.inl rfl) _
        exact ⟨q.ll, q.lb, Sr.of_own (own_kept OY9.out kz (fun k e e2 => own_apart OY9.out A9.out.res (by decide) (by rw [e, e2]))), q.sb, q.sn⟩)
      have LVZ := Lib.hid (show (vv zVv).length = (vv y).length from by rw [vv_len GY9.out.ll, vv_len (x := zVv) rfl])
      go_wp2_with (first
        | ((with_reducible refine load_blk 26 (.tmp 5) gx 26 (vv y) _ rfl rfl ?_ Tryz.underlying26 ?_ ?_ ?_ ?_); exact GBX.out; exact rfl; exact FY.out; exact rfl)
        | ((with_reducible refine at_op (.store 26 (.tmp 2) (.tmp 34)) rfl ?_); go_must (refine store_blk 26 (.tmp 2) (.tmp 34) w.heap.size 26 _ (vv y) rfl rfl RES.out LVZ.out FY.out FYO.out rfl rfl ?_)))
      exact ret_blkS (p := 2) (u := 3) (ty := 26) rfl rfl w.heap.size 26 _ _ rfl RZ.out Tryz.underlying26 rfl FY.out _ rfl ⟨BF.out, .inr ⟨OK.out, y, HYG.out, rfl, KW.out⟩⟩
  · have e1 : ((en : Int) != 0) = true := by rw [bne_iff_ne]; omega
    have OK := Lib.hid (show ok = false from by have := OKD.out; rw [decide_eq_false h0] at this; exact this)
    go_wp2_with fail
    refine ET.out.mono ?_
    rintro e w9 ⟨rfl, rfl⟩
    clear ET GYW
    have RES := Lib.hid A8.out.res
    have RZ := Lib.hid (A8.out.res.setRow (vv zVv))
    have BF := Lib.hid (below_setRow A8.out.rd.bel (Nat.le_refl _) (vv zVv).toArray)
    have FZ := Lib.hid (vv_size (x := zVv) rfl); have FZO := Lib.hid (vv_one zVv)
    have BZ := built_vz
    go_wp2_with ((with_reducible refine at_op (.store 26 (.tmp 2) (.tmp 33)) rfl ?_); go_must (refine store_blk 26 (.tmp 2) (.tmp 33) w.heap.size 26 _ (vv zVv) rfl rfl RES.out rfl FZ.out FZO.out rfl rfl ?_))
    exact ret_blkS (p := 2) (u := 3) (ty := 26) rfl rfl w.heap.size 26 _ _ rfl RZ.out Tryz.underlying26 rfl FZ.out _ rfl ⟨BF.out, .inl ⟨OK.out, rfl⟩⟩
end Go.Proofs.YtidklgicmhdapaaGreatDoor
