/-
  THE REFERENCE OF CHAPTER 9
  THE REFERENCE
-/
import Derived.Test.YtlipjglehongeaaGreatDoorGa30
import Derived.Test.YtlipjglehongeaaGreatDoorGa18
import Derived.Test.YtlipjglehongeaaGreatDoorGa39
import Derived.Test.YtlipjglehongeaaGreatDoorGa32
import Derived.Test.YtlipjglehongeaaGreatDoorGa13
namespace Go.Proofs.YtlipjglehongeaaGreatDoor
open Go Go.RowKit Sh

set_option maxRecDepth 100000 in
theorem refOfB_t (xs : List Nat) (p : Option Addr) (n c : Nat) (w : World) (hx : xs.length = n) (hp : Sr w p xs) (hb : Bytes xs) (hn : n ≤ 100000) :
    Calls Tryz.prog 120 #[.slice p n c] w fun e w' => e = .returned (.agg (u8s (sum (stM ++ xs))).toArray) ∧ Below w.heap.size w w' := by
  subst hx
  have HP := Lib.hid hp; have HB := Lib.hid hb; have HN := Lib.hid hn
  clear hp hb hn
  go_enter Tryz.func120, Tryz.ntmps120
  have RZ := Lib.hid (Blk.new w 36 (u8s zH))
  have BZ := Lib.hid ((Below.refl w.heap.size w).alloc (Nat.le_refl _) (.cells (u8s zH).toArray 36))
  go_upto_region 1 with (fail)
  change Code.wp _ _ _ _ (w.alloc (.cells (u8s zH).toArray 36))
  obtain ⟨w1, hw1⟩ : ∃ V, w.alloc (.cells (u8s zH).toArray 36) = V := ⟨_, rfl⟩
  rw [hw1] at RZ BZ ⊢
  clear hw1
  have S4 := Lib.hid (sr_frz stM w1 [] 5 (4, 5))
  have BA := Lib.hid (show Below w1.heap.size w1 (w1.alloc (.cells (u8s stM).toArray 5 (4, 5))) from (Below.refl _ _).alloc (Nat.le_refl _) _)
  rw [List.append_nil] at S4
  have kc := fun (w : World) (C : Array Value) (n c : Nat) => Lib.run_convert_bytes_const (P := Tryz.prog) w 23 5 C n c Tryz.underlying23 Tryz.underlying5
  go_wp2_with fail
  clear kc
  have E := Lib.hid (show catO [⟨some ⟨w1.heap.size, 0, none⟩, 4, stM⟩, ⟨p, c, xs⟩] = stM ++ xs by simp [catO])
  have BW := Lib.hid (show Below w1.heap.size w1 ((w1.alloc (.cells (u8s stM).toArray 5 (4, 5))).alloc (.cells (partsO [⟨some ⟨w1.heap.size, 0, none⟩, 4, stM⟩, ⟨p, c, xs⟩]).toArray 23)) from BA.out.alloc BA.out.size _)
  have BP := Lib.hid (Blk.new2 w1 (.cells (u8s stM).toArray 5 (4, 5)) 23 (partsO [⟨some ⟨w1.heap.size, 0, none⟩, 4, stM⟩, ⟨p, c, xs⟩]))
  refine (catO_t [⟨some ⟨w1.heap.size, 0, none⟩, 4, stM⟩, ⟨p, c, xs⟩] (w1.heap.size + 1) 2 2 23 _ rfl BP.out (fun x hx => by
    simp only [List.mem_cons, List.not_mem_nil, or_false] at hx
    rcases hx with rfl | rfl
    · exact S4.out.below ((Below.refl _ _).alloc (Nat.le_refl _) _)
    · exact HP.out.below (BZ.out.trans (BW.out.mono BZ.out.size))) (by rw [E.out, List.length_append]; have := HN.out; show 4 + xs.length ≤ _; omega) (by decide)).mono ?_
  rintro e w4 ⟨u, rfl, fr⟩
  rw [E.out] at fr
  have YB := Lib.hid (app_bytes stM_bytes HB.out)
  have YL := Lib.hid (show (stM ++ xs).length ≤ 100000000 by rw [List.length_append]; have := HN.out; show 4 + xs.length ≤ _; omega)
  obtain ⟨ys, hys⟩ : ∃ l, stM ++ xs = l := ⟨_, rfl⟩
  have HYS := Lib.hid hys
  rw [hys] at fr YB YL
  clear hys
  obtain ⟨L, hL⟩ : ∃ L, ys.length = L := ⟨_, rfl⟩
  have HL := Lib.hid hL
  obtain ⟨A4, c4, rfl, _, _, _⟩ := fresh_opO fr
  have B4 := Lib.hid (BZ.out.trans ((BW.out.trans (fr.2.mono BW.out.size)).mono BZ.out.size))
  have K4 := Lib.hid ((RZ.out.below BW.out RZ.out.lt).below fr.2 (Nat.lt_of_lt_of_le RZ.out.lt BW.out.size))
  have S5 := Lib.hid (Sr.of_own fr.1)
  rw [hL] at YL ⊢
  clear hL fr E BW BP S4 BA RZ BZ
  go_wp2_with fail
  refine (refsum_t ys A4 L c4 w4 HL.out S5.out YB.out YL.out).mono ?_
  rintro e w5 ⟨rfl, b5⟩
  have B5 := Lib.hid (B4.out.trans (b5.mono B4.out.size)); have K5 := Lib.hid (K4.out.below b5 K4.out.lt)
  clear b5 B4 K4 S5
  obtain ⟨S, hS⟩ : ∃ S, sum ys = S := ⟨_, rfl⟩
  have hSl : S.length = 32 := by rw [← hS]; rfl
  rw [hS]
  have HSL := Lib.hid hSl; have HSS := Lib.hid hS
  have HZL := Lib.hid (show (u8s zH).length = (u8s S).length by rw [u8s_length, u8s_length, hSl]; rfl)
  clear hS hSl
  go_wp2_with ((with_reducible refine at_op (.store 36 (.tmp 2) (.tmp 8)) rfl ?_); go_must (refine store_blk 36 (.tmp 2) (.tmp 8) w.heap.size 36 (u8s zH) (u8s S) rfl rfl K5.out HZL.out (hash_size _ HSL.out) (u8s_oneD _) rfl rfl ?_))
  exact ret_blk (p := 2) (ty := 36) rfl rfl w.heap.size 36 _ _ rfl (K5.out.setRow _) Tryz.underlying36 rfl (hash_size _ HSL.out) ⟨by rw [HYS.out, HSS.out], below_setRow B5.out (Nat.le_refl _) _⟩
end Go.Proofs.YtlipjglehongeaaGreatDoor
namespace Go.Proofs.YtlipjglehongeaaGreatDoor
open Go Go.RowKit Sh

set_option maxRecDepth 100000 in
theorem refSameReply_t (x y : Rpv) (w : World) (hx : TR w x.p x.r.t) (hy : TR w y.p y.r.t) :
    Calls Tryz.prog 72 #[.agg (pv x).toArray, .agg (pv y).toArray] w fun e w' => e = .returned (.bool (rpS x.r y.r)) ∧ Below w.heap.size w w' := by
  have BA := Lib.hid ((Blk.new w 43 (pv x)).alloc (.cells (pv y).toArray 43))
  have BB := Lib.hid (Blk.new2 w (.cells (pv x).toArray 43) 43 (pv y))
  have BW := Lib.hid (((Below.refl w.heap.size w).alloc (Nat.le_refl _) (.cells (pv x).toArray 43)).alloc (by simp) (.cells (pv y).toArray 43))
  have ST := Lib.hid (show Calls _ _ _ _ fun e w' => e = .returned (.bool (sT x.r.t y.r.t)) ∧ _ from refsame_t x.r.t.length x.c y.r.t.length y.c x.p y.p (gl x.r.t) (gl y.r.t) _ hx.n hy.n (hx.below BW.out).t (hy.below BW.out).t)
  obtain ⟨c0, c1, c2, c3, c4⟩ := pv_cells BA.out
  obtain ⟨d0, d1, d2, d3, d4⟩ := pv_cells BB.out
  have hs : rpS x.r y.r = ((x.r.cl == y.r.cl) && ((x.r.sq == y.r.sq) && ((x.r.kd == y.r.kd) && ((x.r.lt == y.r.lt) && sT x.r.t y.r.t)))) := rfl
  rw [hs]
  obtain ⟨xs, hxs⟩ : ∃ l, pv x = l := ⟨_, rfl⟩
  obtain ⟨ys, hys⟩ : ∃ l, pv y = l := ⟨_, rfl⟩
  rw [hxs, hys] at BA BB BW ST c0 c1 c2 c3 c4 d0 d1 d2 d3 d4 ⊢
  obtain ⟨s, hs⟩ : ∃ n, sT x.r.t y.r.t = n := ⟨_, rfl⟩
  rw [hs] at ST ⊢
  clear hs
  obtain ⟨p0, hp0⟩ : ∃ n, x.r.cl = n := ⟨_, rfl⟩
  rw [hp0] at c0 ⊢
  clear hp0
  obtain ⟨p1, hp1⟩ : ∃ n, x.r.sq = n := ⟨_, rfl⟩
  rw [hp1] at c1 ⊢
  clear hp1
  obtain ⟨p2, hp2⟩ : ∃ n, x.r.kd = n := ⟨_, rfl⟩
  rw [hp2] at c2 ⊢
  clear hp2
  obtain ⟨p4, hp4⟩ : ∃ n, x.r.lt = n := ⟨_, rfl⟩
  rw [hp4] at c4 ⊢
  clear hp4
  obtain ⟨q0, hq0⟩ : ∃ n, y.r.cl = n := ⟨_, rfl⟩
  rw [hq0] at d0 ⊢
  clear hq0
  obtain ⟨q1, hq1⟩ : ∃ n, y.r.sq = n := ⟨_, rfl⟩
  rw [hq1] at d1 ⊢
  clear hq1
  obtain ⟨q2, hq2⟩ : ∃ n, y.r.kd = n := ⟨_, rfl⟩
  rw [hq2] at d2 ⊢
  clear hq2
  obtain ⟨q4, hq4⟩ : ∃ n, y.r.lt = n := ⟨_, rfl⟩
  rw [hq4] at d4 ⊢
  clear hq4
  clear hx hy hs hxs hys BA BB
  cases e0 : (p0 == q0) with
  | false =>
    go_enter Tryz.func72, Tryz.ntmps72
    go_wp2_with fail
    go_ret
    exact ⟨rfl, BW.out⟩
  | true =>
  cases e1 : (p1 == q1) with
  | false =>
    go_enter Tryz.func72, Tryz.ntmps72
    go_wp2_with fail
    go_ret
    exact ⟨rfl, BW.out⟩
  | true =>
  cases e2 : (p2 == q2) with
  | false =>
    go_enter Tryz.func72, Tryz.ntmps72
    go_wp2_with fail
    go_ret
    exact ⟨rfl, BW.out⟩
  | true =>
  cases p4 <;> cases q4
  · skip
    go_enter Tryz.func72, Tryz.ntmps72
    go_wp2_with fail
    refine ST.out.mono ?_
    rintro e w2 ⟨rfl, b2⟩
    go_wp2_with fail
    go_ret
    exact ⟨rfl, BW.out.trans (b2.mono BW.out.size)⟩
  · skip
    go_enter Tryz.func72, Tryz.ntmps72
    go_wp2_with fail
    go_ret
    exact ⟨rfl, BW.out⟩
  · skip
    go_enter Tryz.func72, Tryz.ntmps72
    go_wp2_with fail
    go_ret
    exact ⟨rfl, BW.out⟩
  · skip
    go_enter Tryz.func72, Tryz.ntmps72
    go_wp2_with fail
    refine ST.out.mono ?_
    rintro e w2 ⟨rfl, b2⟩
    go_wp2_with fail
    go_ret
    exact ⟨rfl, BW.out.trans (b2.mono BW.out.size)⟩
end Go.Proofs.YtlipjglehongeaaGreatDoor
