/-
  PACKAGE oper: writeFields, Put.
-/
import Derived.Test.YtigbnjgmdgkgjaaDoorOpA
namespace Go.Proofs.YtigbnjgmdgkgjaaDoor
open Go Go.RowKit Sh

set_option maxRecDepth 100000 in
theorem wfields_s {w0 w : World} {B g : Nat} {l : List Nat} (n c : Nat) (p : Option Addr) (G : Nat → Fld) (x : Wr w0 (fun k => B ≤ k) g l) (hb : Below w0.heap.size w0 w) (hB : B ≤ w0.heap.size) (hr : Rw w p n G) (hm : n = 0 ∨ mayP n G = true) (hl : l.length + 300 ≤ 70368744177664) :
    Calls Tryd.prog 26 #[.pointer (some ⟨g, 0, none⟩), .slice p n c] w fun e w' => e = .returned (.tuple #[]) ∧ Wr w' (fun k => B ≤ k) g (l ++ txtN (pf n G)) ∧ Below B w w' := by
  have X0 := Lib.hid x; have HB := Lib.hid hB; have B0 := Lib.hid hb
  by_cases h0 : n = 0
  · subst h0
    have TX := Lib.hid (text_s (w := w) [] none 0 0 X0.out B0.out HB.out rfl Sr.nil (fun h => absurd h (by decide)) (by omega))
    rw [show pf 0 G = [] from if_pos rfl]
    clear x hb hB hr hm
    go_enter Tryd.func26, Tryd.ntmps26
    go_wp2_with fail
    refine TX.out.mono ?_
    rintro e w2 ⟨rfl, x2, b2⟩
    have X2 := Lib.hid x2; have B2 := Lib.hid b2
    clear x2 b2
    go_wp2_with fail
    exact bodyPost_ret (results_none rfl _ _ _) rfl ⟨rfl, X2.out, B2.out⟩
  · have hp : mayP n G = true := by rcases hm with h | h; exact absurd h h0; exact h
    have e1 : ((n : Int) == 0) = false := by rw [beq_eq_false_iff_ne]; omega
    have PY := Lib.hid (Put_yes n c p G w hr hp)
    have PL := Lib.hid (putN_length hp)
    rw [show pf n G = putN n G from if_neg h0]
    obtain ⟨xs, hxs⟩ : ∃ l, putN n G = l := ⟨_, rfl⟩
    rw [hxs] at PY PL ⊢
    clear x hb hB hr hm hp hxs h0
    go_enter Tryd.func26, Tryd.ntmps26
    go_wp2_with fail
    refine PY.out.mono ?_
    rintro e w2 ⟨u, rfl, o2, b2⟩
    obtain ⟨A, k, rfl, _⟩ := own_form o2
    have S2 := Lib.hid (Sr.of_own o2)
    have LA := Lib.hid (show ∀ a : Addr, A = some a → w.heap.size ≤ a.block from fun a ha => (o2.lt a.block (by subst ha; rfl)).1)
    have B2 := Lib.hid b2
    clear o2 b2 PY
    go_wp2_with fail
    refine (text_s xs A xs.length k X0.out (B0.out.trans (B2.out.mono B0.out.size)) HB.out rfl S2.out (fun _ a ha => .inr (Nat.le_trans B0.out.size (LA.out a ha))) (by have := PL.out; omega)).mono ?_
    rintro e w3 ⟨rfl, x3, b3⟩
    have X3 := Lib.hid x3; have B3 := Lib.hid b3
    clear x3 b3
    go_wp2_with fail
    go_end0
    exact ⟨rfl, X3.out, (B2.out.mono (Nat.le_trans HB.out B0.out.size)).trans B3.out⟩
/-- Where Put stands: its box, its Writer. -/
structure PS (w0 W : World) (x : Rv) (xs : List Value) (B g : Nat) (l : List Nat) : Prop where
  wr : Wr W (fun k => B ≤ k) g l
  box : Blk W w0.heap.size 24 xs
  rx : RvW W x
  bel : Below w0.heap.size w0 W
  lo : w0.heap.size < B
  hi : B ≤ W.heap.size
  old : ∃ W0 : World, RvW W0 x ∧ W0.heap.size ≤ B ∧ Below W0.heap.size W0 W
theorem PS.step {w0 W W' : World} {x : Rv} {xs : List Value} {B g : Nat} {l l' : List Nat} (h : PS w0 W x xs B g l) (hw : Wr W' (fun k => B ≤ k) g l') (hb : Below B W W') : PS w0 W' x xs B g l' := by
  obtain ⟨W0, r0, s0, b0⟩ := h.old
  have hb0 : Below W0.heap.size W0 W' := b0.trans (hb.mono s0)
  exact ⟨hw, h.box.below hb h.lo, r0.below hb0, h.bel.trans (hb.mono (Nat.le_of_lt h.lo)), h.lo, Nat.le_trans h.hi hb.size, ⟨W0, r0, s0, hb0⟩⟩
theorem own_monoO {w : World} {base base' : Nat} {e : TypeId} {size : Nat} {v : Value} {n : Nat} {xs : List Value} (h : w.ownsRow base e size v n xs) (hb : base' ≤ base) : w.ownsRow base' e size v n xs := own_base h (fun k hk => Nat.le_trans hb (h.lt k hk).1)
theorem PutR_no (x : Rv) (w : World) (hu : UT w) (h : RvW w x) (hm : mayR x.r = false) :
    Calls Tryd.prog 10 #[.agg (rv x).toArray] w fun e w' => e = .returned (.tuple #[.slice none 0 0, .int .i64 1]) ∧ Below w.heap.size w w' := by
  have B0 := Lib.hid (Blk.new w 24 (rv x))
  have BW := Lib.hid ((Below.refl w.heap.size w).alloc (Nat.le_refl _) (.cells (rv x).toArray 24))
  have MR := Lib.hid (May_r x _ (hu.below BW.out) (h.below BW.out))
  rw [hm] at MR
  clear hu h hm
  go_enter Tryd.func10, Tryd.ntmps10
  go_wp2_with ((with_reducible refine load_blk_gdO 5 24 (.tmp 1) w.heap.size 24 (rv x) _ ?_ ?_ rfl ?_ Tryd.underlying24 ?_ ?_ ?_ ?_); exact rfl; kernel_rfl; exact B0.out; exact rfl; exact rv_size x; exact rfl)
  refine MR.out.mono ?_
  rintro e w2 ⟨rfl, b2⟩
  go_wp2_with fail
  go_ret2
  exact ⟨rfl, BW.out.trans (b2.mono BW.out.size)⟩
set_option maxRecDepth 100000 in
set_option maxHeartbeats 1000000 in
theorem PutR_yes (x : Rv) (w : World) (hu : UT w) (h : RvW w x) (hm : mayR x.r = true) :
    Calls Tryd.prog 10 #[.agg (rv x).toArray] w fun e w' => ∃ u, e = .returned (.tuple #[u, .int .i64 0]) ∧ w'.ownsRow w.heap.size 5 1 u (putR x.r).length (u8s (putR x.r)) ∧ Below w.heap.size w w' := by
  have B0 := Lib.hid (Blk.new w 24 (rv x))
  have BW := Lib.hid ((Below.refl w.heap.size w).alloc (Nat.le_refl _) (.cells (rv x).toArray 24))
  have MR := Lib.hid (May_r x _ (hu.below BW.out) (h.below BW.out))
  have HR := Lib.hid h
  have hh := mayR_h hm
  obtain ⟨a, ha⟩ : ∃ a : Nat, x.r.cl = (a : Int) := ⟨x.r.cl.toNat, by have := hh.cl0; omega⟩
  obtain ⟨b, hb⟩ : ∃ a : Nat, x.r.sq = (a : Int) := ⟨x.r.sq.toNat, by have := hh.sq1; omega⟩
  obtain ⟨k, hk⟩ : ∃ a : Nat, x.r.kd = (a : Int) := ⟨x.r.kd.toNat, by have := hh.k1; omega⟩
  obtain ⟨t, ht⟩ : ∃ a : Nat, x.r.le = (a : Int) := ⟨x.r.le.toNat, by have := hh.le0; omega⟩
  have a4 : a < 4 := by have := hh.cl4; omega
  have b9 : b ≤ 1073741824 := by have := hh.sqm; omega
  have k8 : k ≤ 8 := by have := hh.k8; omega
  have t9 : t ≤ 1099511627776 := by have := hh.lem; omega
  have HP := Lib.hid hh.p; have HT := Lib.hid hh.t
  have LP := Lib.hid (pf_length hh.p); have LT := Lib.hid (pf_length hh.t)
  have e : putR x.r = ((((beN a 1 ++ beN b 4) ++ beN k 1) ++ beN t 8) ++ txtN (pf x.r.n x.r.G)) ++ txtN (pf x.r.m x.r.H) := by unfold putR; rw [ha, hb, hk, ht]; simp only [Int.toNat_natCast]
  have hlen := (putR_length hm).1
  obtain ⟨xs, hxs⟩ : ∃ l, putR x.r = l := ⟨_, rfl⟩
  rw [hxs] at e hlen ⊢
  have E := Lib.hid e
  rw [hm] at MR
  have RC := Lib.hid (fun (W : World) (hb : Blk W w.heap.size 24 (rv x)) => rv_cells hb)
  rw [ha, hb, hk, ht] at RC
  have i1 : IntKind.u64.wrap (a : Int) = (a : Int) := IntWalk.u64_in _ (by omega)
  have i2 : IntKind.u64.wrap (b : Int) = (b : Int) := IntWalk.u64_in _ (by omega)
  have i3 : IntKind.u64.wrap (k : Int) = (k : Int) := IntWalk.u64_in _ (by omega)
  have i4 : IntKind.u64.wrap (t : Int) = (t : Int) := IntWalk.u64_in _ (by omega)
  clear hu h hm hh e ha hb hk ht hxs
  go_enter Tryd.func10, Tryd.ntmps10
  go_wp2_with ((with_reducible refine load_blk_gdO 5 24 (.tmp 1) w.heap.size 24 (rv x) _ ?_ ?_ rfl ?_ Tryd.underlying24 ?_ ?_ ?_ ?_); exact rfl; kernel_rfl; exact B0.out; exact rfl; exact rv_size x; exact rfl)
  refine MR.out.mono ?_
  rintro e w2 ⟨rfl, b2⟩
  have P0 := Lib.hid (show PS w (w2.alloc (.cells #[.pointer none, .int .i64 0] 46)) x (rv x) w2.heap.size w2.heap.size [] from by
    have bz : Below w2.heap.size w2 (w2.alloc (.cells #[.pointer none, .int .i64 0] 46)) := (Below.refl w2.heap.size w2).alloc (Nat.le_refl _) _
    have bw : Below w.heap.size w w2 := BW.out.trans (b2.mono BW.out.size)
    have hx2 : RvW w2 x := HR.out.below bw
    have b0 := B0.out.below b2 B0.out.lt
    exact ⟨Wr.new, b0.below bz b0.lt, hx2.below bz, bw.trans (bz.mono bw.size), b0.lt, bz.size, ⟨w2, hx2, Nat.le_refl _, bz⟩⟩)
  obtain ⟨BB, hBB⟩ : ∃ n, w2.heap.size = n := ⟨_, rfl⟩
  go_upto_region 4 with (fail)
  refine world_at (fun Y => PS w Y x (rv x) w2.heap.size w2.heap.size []) P0.out ?_
  rintro Y py
  rw [hBB] at py
  have PY := Lib.hid py
  clear py P0 b2 B0 BW MR HR hBB
  obtain ⟨c0, _, _, _, _, _⟩ := RC.out _ PY.out.box
  go_wp2_with fail
  refine (num_s a 1 PY.out.wr (Below.refl _ _) PY.out.hi (by omega) (by decide) (by decide) (by simp)).mono ?_
  rintro e w3 ⟨rfl, x2, b2⟩
  have P3 := Lib.hid (PY.out.step x2 b2)
  clear x2 b2 PY
  rw [List.nil_append] at P3
  clear c0
  obtain ⟨_, c1, _, _, _, _⟩ := RC.out _ P3.out.box
  go_wp2_with fail
  refine (num_s b 4 P3.out.wr (Below.refl _ _) P3.out.hi (by omega) (by decide) (by decide) (by rw [beN_length]; omega)).mono ?_
  rintro e w4 ⟨rfl, x2, b2⟩
  have P4 := Lib.hid (P3.out.step x2 b2)
  clear x2 b2 P3
  clear c1
  obtain ⟨_, _, c2, _, _, _⟩ := RC.out _ P4.out.box
  go_wp2_with fail
  refine (num_s k 1 P4.out.wr (Below.refl _ _) P4.out.hi (by omega) (by decide) (by decide) (by simp only [List.length_append, beN_length]; omega)).mono ?_
  rintro e w5 ⟨rfl, x2, b2⟩
  have P5 := Lib.hid (P4.out.step x2 b2)
  clear x2 b2 P4
  clear c2
  obtain ⟨_, _, _, _, _, c5⟩ := RC.out _ P5.out.box
  go_wp2_with fail
  refine (num_s t 8 P5.out.wr (Below.refl _ _) P5.out.hi (by omega) (by decide) (by decide) (by simp only [List.length_append, beN_length]; omega)).mono ?_
  rintro e w6 ⟨rfl, x2, b2⟩
  have P6 := Lib.hid (P5.out.step x2 b2)
  clear x2 b2 P5
  clear c5
  obtain ⟨_, _, _, c3, _, _⟩ := RC.out _ P6.out.box
  go_wp2_with fail
  refine (wfields_s x.r.n x.c x.p x.r.G P6.out.wr (Below.refl _ _) P6.out.hi P6.out.rx.p HP.out (by simp only [List.length_append, beN_length]; omega)).mono ?_
  rintro e w7 ⟨rfl, x2, b2⟩
  have P7 := Lib.hid (P6.out.step x2 b2)
  clear x2 b2 P6 c3
  obtain ⟨_, _, _, _, c4, _⟩ := RC.out _ P7.out.box
  go_wp2_with fail
  refine (wfields_s x.r.m x.d x.t x.r.H P7.out.wr (Below.refl _ _) P7.out.hi P7.out.rx.t HT.out (by have := LP.out; simp only [List.length_append, beN_length, txtN]; omega)).mono ?_
  rintro e w8 ⟨rfl, x2, b2⟩
  have P8 := Lib.hid (P7.out.step x2 b2)
  clear x2 b2 P7 c4
  rw [← E.out] at P8
  go_wp2_with fail
  refine (wbytes_t _ BB xs w8 P8.out.wr (by omega)).mono ?_
  rintro e w9 ⟨u, rfl, o9, b9⟩
  have O9 := Lib.hid (own_monoO o9 P8.out.bel.size); have B9 := Lib.hid (P8.out.bel.trans (b9.mono P8.out.bel.size))
  clear o9 b9 P8
  go_wp2_with fail
  go_ret2
  exact ⟨u, rfl, O9.out, B9.out⟩
end Go.Proofs.YtigbnjgmdgkgjaaDoor
