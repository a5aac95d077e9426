/-
  PACKAGE oper: Same; the reference's SameRequest.
-/
import Derived.Test.YtigbnjgmdgkgjaaDoorOpA
import Derived.Test.YtigbnjgmdgkgjaaDoorTrB
namespace Go.Proofs.YtigbnjgmdgkgjaaDoor
open Go Go.RowKit Sh

/-- Two requests at hand, boxed. -/
structure Two2 (w0 W : World) (x y : Rv) (xs ys : List Value) (g : Nat) : Prop where
  a : Blk W g 24 xs
  b : Blk W (g + 1) 24 ys
  rx : RvW W x
  ry : RvW W y
  bel : Below w0.heap.size w0 W
theorem Two2.below {w0 W W' : World} {x y : Rv} {xs ys : List Value} {g : Nat} (h : Two2 w0 W x y xs ys g) (hb : Below W.heap.size W W') : Two2 w0 W' x y xs ys g :=
  ⟨h.a.below hb h.a.lt, h.b.below hb h.b.lt, h.rx.below hb, h.ry.below hb, h.bel.trans (hb.mono h.bel.size)⟩
theorem Two2.new {w : World} {x y : Rv} (hx : RvW w x) (hy : RvW w y) : Two2 w ((w.alloc (.cells (rv x).toArray 24)).alloc (.cells (rv y).toArray 24)) x y (rv x) (rv y) w.heap.size := by
  have b1 := (Below.refl w.heap.size w).alloc (Nat.le_refl _) (.cells (rv x).toArray 24)
  have b2 := b1.alloc (by simp) (.cells (rv y).toArray 24)
  exact ⟨(Blk.new w 24 (rv x)).alloc _, Blk.new2 w _ _ _, hx.below b2, hy.below b2, b2⟩
set_option maxRecDepth 100000 in
theorem Same_r (x y : Rv) (w : World) (hx : RvW w x) (hy : RvW w y) : Calls Tryd.prog 17 #[.agg (rv x).toArray, .agg (rv y).toArray] w fun e w' => e = .returned (.bool (sameR x.r y.r)) ∧ Below w.heap.size w w' := by
  have T0 := Lib.hid (Two2.new hx hy)
  have S1 := Lib.hid (Same_t x.r.n x.c y.r.n y.c x.p y.p x.r.G y.r.G _ hx.n hy.n T0.out.rx.p T0.out.ry.p)
  have S2 := Lib.hid (fun W (h : Two2 w W x y (rv x) (rv y) w.heap.size) => Same_t x.r.m x.d y.r.m y.d x.t y.t x.r.H y.r.H W hx.m hy.m h.rx.t h.ry.t)
  have hs : sameR x.r y.r = ((x.r.cl == y.r.cl) && ((x.r.sq == y.r.sq) && ((x.r.kd == y.r.kd) && ((x.r.le == y.r.le) && (sameN x.r.n x.r.G y.r.n y.r.G && sameN x.r.m x.r.H y.r.m y.r.H))))) := rfl
  obtain ⟨c0, c1, c2, c3, c4, c5⟩ := rv_cells T0.out.a
  obtain ⟨d0, d1, d2, d3, d4, d5⟩ := rv_cells T0.out.b
  have C4 := Lib.hid c4; have D4 := Lib.hid d4
  obtain ⟨s1, hs1⟩ : ∃ b, sameN x.r.n x.r.G y.r.n y.r.G = b := ⟨_, rfl⟩
  obtain ⟨s2, hs2⟩ : ∃ b, sameN x.r.m x.r.H y.r.m y.r.H = b := ⟨_, rfl⟩
  rw [hs1] at S1 hs
  rw [hs2] at S2 hs
  rw [hs]
  clear hs hs1 hs2 hx hy c4 d4
  obtain ⟨xs, hxs⟩ : ∃ l, rv x = l := ⟨_, rfl⟩
  obtain ⟨ys, hys⟩ : ∃ l, rv y = l := ⟨_, rfl⟩
  rw [hxs, hys] at T0 S1 S2 C4 D4 c0 c1 c2 c3 c5 d0 d1 d2 d3 d5
  rw [hxs, hys]
  clear hxs hys
  obtain ⟨p0, hp0⟩ : ∃ n, x.r.cl = n := ⟨_, rfl⟩
  obtain ⟨p1, hp1⟩ : ∃ n, x.r.sq = n := ⟨_, rfl⟩
  obtain ⟨p2, hp2⟩ : ∃ n, x.r.kd = n := ⟨_, rfl⟩
  obtain ⟨p3, hp3⟩ : ∃ n, x.r.le = n := ⟨_, rfl⟩
  obtain ⟨q0, hq0⟩ : ∃ n, y.r.cl = n := ⟨_, rfl⟩
  obtain ⟨q1, hq1⟩ : ∃ n, y.r.sq = n := ⟨_, rfl⟩
  obtain ⟨q2, hq2⟩ : ∃ n, y.r.kd = n := ⟨_, rfl⟩
  obtain ⟨q3, hq3⟩ : ∃ n, y.r.le = n := ⟨_, rfl⟩
  rw [hp0] at c0; rw [hp1] at c1; rw [hp2] at c2; rw [hp3] at c5
  rw [hq0] at d0; rw [hq1] at d1; rw [hq2] at d2; rw [hq3] at d5
  rw [hp0, hp1, hp2, hp3, hq0, hq1, hq2, hq3]
  clear hp0 hp1 hp2 hp3 hq0 hq1 hq2 hq3
  cases e0 : (p0 == q0) with
  | false =>
    clear S1 S2
    go_enter Tryd.func17, Tryd.ntmps17
    go_wp2_with fail
    go_ret
    exact ⟨rfl, T0.out.bel⟩
  | true =>
  cases e1 : (p1 == q1) with
  | false =>
    clear S1 S2
    go_enter Tryd.func17, Tryd.ntmps17
    go_wp2_with fail
    go_ret
    exact ⟨rfl, T0.out.bel⟩
  | true =>
  cases e2 : (p2 == q2) with
  | false =>
    clear S1 S2
    go_enter Tryd.func17, Tryd.ntmps17
    go_wp2_with fail
    go_ret
    exact ⟨rfl, T0.out.bel⟩
  | true =>
  cases e3 : (p3 == q3) with
  | false =>
    clear S1 S2
    go_enter Tryd.func17, Tryd.ntmps17
    go_wp2_with fail
    go_ret
    exact ⟨rfl, T0.out.bel⟩
  | true =>
  cases s1 with
  | false =>
    clear S2
    go_enter Tryd.func17, Tryd.ntmps17
    go_wp2_with fail
    refine S1.out.mono ?_
    rintro e w2 ⟨rfl, b2⟩
    have T2 := Lib.hid (T0.out.below b2)
    clear b2
    go_wp2_with fail
    go_ret
    exact ⟨rfl, T2.out.bel⟩
  | true =>
    go_enter Tryd.func17, Tryd.ntmps17
    go_wp2_with fail
    refine S1.out.mono ?_
    rintro e w2 ⟨rfl, b2⟩
    have T2 := Lib.hid (T0.out.below b2)
    have c4 := (b2.cell (p := ⟨w.heap.size, 4, none⟩) T0.out.a.lt).trans C4.out
    have d4 := (b2.cell (p := ⟨w.heap.size + 1, 4, none⟩) T0.out.b.lt).trans D4.out
    clear b2 c0 c1 c2 c3 c5 d0 d1 d2 d3 d5
    go_wp2_with fail
    refine (S2.out _ T2.out).mono ?_
    rintro e w3 ⟨rfl, b3⟩
    have T3 := Lib.hid (T2.out.below b3)
    clear b3
    go_wp2_with fail
    go_ret
    exact ⟨rfl, T3.out.bel⟩
set_option maxRecDepth 100000 in
theorem refSame_r (x y : Rv) (w : World) (hx : RvW w x) (hy : RvW w y) : Calls Tryd.prog 16 #[.agg (rv x).toArray, .agg (rv y).toArray] w fun e w' => e = .returned (.bool (sameR x.r y.r)) ∧ Below w.heap.size w w' := by
  have T0 := Lib.hid (Two2.new hx hy)
  have S1 := Lib.hid (refsame_t x.r.n x.c y.r.n y.c x.p y.p x.r.G y.r.G _ hx.n hy.n T0.out.rx.p T0.out.ry.p)
  have S2 := Lib.hid (fun W (h : Two2 w W x y (rv x) (rv y) w.heap.size) => refsame_t x.r.m x.d y.r.m y.d x.t y.t x.r.H y.r.H W hx.m hy.m h.rx.t h.ry.t)
  have hs : sameR x.r y.r = ((x.r.cl == y.r.cl) && ((x.r.sq == y.r.sq) && ((x.r.kd == y.r.kd) && ((x.r.le == y.r.le) && (sameN x.r.n x.r.G y.r.n y.r.G && sameN x.r.m x.r.H y.r.m y.r.H))))) := rfl
  obtain ⟨c0, c1, c2, c3, c4, c5⟩ := rv_cells T0.out.a
  obtain ⟨d0, d1, d2, d3, d4, d5⟩ := rv_cells T0.out.b
  have C4 := Lib.hid c4; have D4 := Lib.hid d4
  obtain ⟨s1, hs1⟩ : ∃ b, sameN x.r.n x.r.G y.r.n y.r.G = b := ⟨_, rfl⟩
  obtain ⟨s2, hs2⟩ : ∃ b, sameN x.r.m x.r.H y.r.m y.r.H = b := ⟨_, rfl⟩
  rw [hs1] at S1 hs
  rw [hs2] at S2 hs
  rw [hs]
  clear hs hs1 hs2 hx hy c4 d4
  obtain ⟨xs, hxs⟩ : ∃ l, rv x = l := ⟨_, rfl⟩
  obtain ⟨ys, hys⟩ : ∃ l, rv y = l := ⟨_, rfl⟩
  rw [hxs, hys] at T0 S1 S2 C4 D4 c0 c1 c2 c3 c5 d0 d1 d2 d3 d5
  rw [hxs, hys]
  clear hxs hys
  obtain ⟨p0, hp0⟩ : ∃ n, x.r.cl = n := ⟨_, rfl⟩
  obtain ⟨p1, hp1⟩ : ∃ n, x.r.sq = n := ⟨_, rfl⟩
  obtain ⟨p2, hp2⟩ : ∃ n, x.r.kd = n := ⟨_, rfl⟩
  obtain ⟨p3, hp3⟩ : ∃ n, x.r.le = n := ⟨_, rfl⟩
  obtain ⟨q0, hq0⟩ : ∃ n, y.r.cl = n := ⟨_, rfl⟩
  obtain ⟨q1, hq1⟩ : ∃ n, y.r.sq = n := ⟨_, rfl⟩
  obtain ⟨q2, hq2⟩ : ∃ n, y.r.kd = n := ⟨_, rfl⟩
  obtain ⟨q3, hq3⟩ : ∃ n, y.r.le = n := ⟨_, rfl⟩
  rw [hp0] at c0; rw [hp1] at c1; rw [hp2] at c2; rw [hp3] at c5
  rw [hq0] at d0; rw [hq1] at d1; rw [hq2] at d2; rw [hq3] at d5
  rw [hp0, hp1, hp2, hp3, hq0, hq1, hq2, hq3]
  clear hp0 hp1 hp2 hp3 hq0 hq1 hq2 hq3
  cases e0 : (p0 == q0) with
  | false =>
    clear S1 S2
    go_enter Tryd.func16, Tryd.ntmps16
    go_wp2_with fail
    go_ret
    exact ⟨rfl, T0.out.bel⟩
  | true =>
  cases e1 : (p1 == q1) with
  | false =>
    clear S1 S2
    go_enter Tryd.func16, Tryd.ntmps16
    go_wp2_with fail
    go_ret
    exact ⟨rfl, T0.out.bel⟩
  | true =>
  cases e2 : (p2 == q2) with
  | false =>
    clear S1 S2
    go_enter Tryd.func16, Tryd.ntmps16
    go_wp2_with fail
    go_ret
    exact ⟨rfl, T0.out.bel⟩
  | true =>
  cases e3 : (p3 == q3) with
  | false =>
    clear S1 S2
    go_enter Tryd.func16, Tryd.ntmps16
    go_wp2_with fail
    go_ret
    exact ⟨rfl, T0.out.bel⟩
  | true =>
  cases s1 with
  | false =>
    clear S2
    go_enter Tryd.func16, Tryd.ntmps16
    go_wp2_with fail
    refine S1.out.mono ?_
    rintro e w2 ⟨rfl, b2⟩
    have T2 := Lib.hid (T0.out.below b2)
    clear b2
    go_wp2_with fail
    go_ret
    exact ⟨rfl, T2.out.bel⟩
  | true =>
    go_enter Tryd.func16, Tryd.ntmps16
    go_wp2_with fail
    refine S1.out.mono ?_
    rintro e w2 ⟨rfl, b2⟩
    have T2 := Lib.hid (T0.out.below b2)
    have c4 := (b2.cell (p := ⟨w.heap.size, 4, none⟩) T0.out.a.lt).trans C4.out
    have d4 := (b2.cell (p := ⟨w.heap.size + 1, 4, none⟩) T0.out.b.lt).trans D4.out
    clear b2 c0 c1 c2 c3 c5 d0 d1 d2 d3 d5
    go_wp2_with fail
    refine (S2.out _ T2.out).mono ?_
    rintro e w3 ⟨rfl, b3⟩
    have T3 := Lib.hid (T2.out.below b3)
    clear b3
    go_wp2_with fail
    go_ret
    exact ⟨rfl, T3.out.bel⟩
end Go.Proofs.YtigbnjgmdgkgjaaDoor
