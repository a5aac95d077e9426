/-
  THE REFERENCE: SameReply, SameReplies, SameSpace.
-/
import Derived.Test.YtojianpbjckipaaDoorSrB
import Derived.Test.YtojianpbjckipaaDoorSpD
namespace Go.Proofs.YtojianpbjckipaaDoor
open Go Go.RowKit Sh

set_option maxRecDepth 100000 in
theorem refSameReply_t (x y : Rpv) (w : World) (hx : TR w x.p x.r.t) (hy : TR w y.p y.r.t) :
    Calls Tryd.prog 37 #[.agg (pv x).toArray, .agg (pv y).toArray] w fun e w' => e = .returned (.bool (rpS x.r y.r)) ∧ Below w.heap.size w w' := by
  have BA := Lib.hid ((Blk.new w 28 (pv x)).alloc (.cells (pv y).toArray 28))
  have BB := Lib.hid (Blk.new2 w (.cells (pv x).toArray 28) 28 (pv y))
  have BW := Lib.hid (((Below.refl w.heap.size w).alloc (Nat.le_refl _) (.cells (pv x).toArray 28)).alloc (by simp) (.cells (pv y).toArray 28))
  have ST := Lib.hid (show Calls _ _ _ _ fun e w' => e = .returned (.bool (sT x.r.t y.r.t)) ∧ _ from refsame_t x.r.t.length x.c y.r.t.length y.c x.p y.p (gl x.r.t) (gl y.r.t) _ hx.n hy.n (hx.below BW.out).t (hy.below BW.out).t)
  obtain ⟨c0, c1, c2, c3, c4⟩ := pv_cells BA.out
  obtain ⟨d0, d1, d2, d3, d4⟩ := pv_cells BB.out
  have hs : rpS x.r y.r = ((x.r.cl == y.r.cl) && ((x.r.sq == y.r.sq) && ((x.r.kd == y.r.kd) && ((x.r.lt == y.r.lt) && sT x.r.t y.r.t)))) := rfl
  rw [hs]
  obtain ⟨xs, hxs⟩ : ∃ l, pv x = l := ⟨_, rfl⟩
  obtain ⟨ys, hys⟩ : ∃ l, pv y = l := ⟨_, rfl⟩
  rw [hxs, hys] at BA BB BW ST c0 c1 c2 c3 c4 d0 d1 d2 d3 d4 ⊢
  obtain ⟨s, hs⟩ : ∃ n, sT x.r.t y.r.t = n := ⟨_, rfl⟩
  rw [hs] at ST ⊢
  clear hs
  obtain ⟨p0, hp0⟩ : ∃ n, x.r.cl = n := ⟨_, rfl⟩
  rw [hp0] at c0 ⊢
  clear hp0
  obtain ⟨p1, hp1⟩ : ∃ n, x.r.sq = n := ⟨_, rfl⟩
  rw [hp1] at c1 ⊢
  clear hp1
  obtain ⟨p2, hp2⟩ : ∃ n, x.r.kd = n := ⟨_, rfl⟩
  rw [hp2] at c2 ⊢
  clear hp2
  obtain ⟨p4, hp4⟩ : ∃ n, x.r.lt = n := ⟨_, rfl⟩
  rw [hp4] at c4 ⊢
  clear hp4
  obtain ⟨q0, hq0⟩ : ∃ n, y.r.cl = n := ⟨_, rfl⟩
  rw [hq0] at d0 ⊢
  clear hq0
  obtain ⟨q1, hq1⟩ : ∃ n, y.r.sq = n := ⟨_, rfl⟩
  rw [hq1] at d1 ⊢
  clear hq1
  obtain ⟨q2, hq2⟩ : ∃ n, y.r.kd = n := ⟨_, rfl⟩
  rw [hq2] at d2 ⊢
  clear hq2
  obtain ⟨q4, hq4⟩ : ∃ n, y.r.lt = n := ⟨_, rfl⟩
  rw [hq4] at d4 ⊢
  clear hq4
  clear hx hy hs hxs hys BA BB
  cases e0 : (p0 == q0) with
  | false =>
    go_enter Tryd.func37, Tryd.ntmps37
    go_wp2_with fail
    go_ret
    exact ⟨rfl, BW.out⟩
  | true =>
  cases e1 : (p1 == q1) with
  | false =>
    go_enter Tryd.func37, Tryd.ntmps37
    go_wp2_with fail
    go_ret
    exact ⟨rfl, BW.out⟩
  | true =>
  cases e2 : (p2 == q2) with
  | false =>
    go_enter Tryd.func37, Tryd.ntmps37
    go_wp2_with fail
    go_ret
    exact ⟨rfl, BW.out⟩
  | true =>
  cases p4 <;> cases q4
  · skip
    go_enter Tryd.func37, Tryd.ntmps37
    go_wp2_with fail
    refine ST.out.mono ?_
    rintro e w2 ⟨rfl, b2⟩
    go_wp2_with fail
    go_ret
    exact ⟨rfl, BW.out.trans (b2.mono BW.out.size)⟩
  · skip
    go_enter Tryd.func37, Tryd.ntmps37
    go_wp2_with fail
    go_ret
    exact ⟨rfl, BW.out⟩
  · skip
    go_enter Tryd.func37, Tryd.ntmps37
    go_wp2_with fail
    go_ret
    exact ⟨rfl, BW.out⟩
  · skip
    go_enter Tryd.func37, Tryd.ntmps37
    go_wp2_with fail
    refine ST.out.mono ?_
    rintro e w2 ⟨rfl, b2⟩
    go_wp2_with fail
    go_ret
    exact ⟨rfl, BW.out.trans (b2.mono BW.out.size)⟩
set_option maxRecDepth 100000 in
set_option maxHeartbeats 1000000 in
theorem refSameReplies_eq (L M : List Rpv) (p q : Option Addr) (c d : Nat) (w : World) (hL : RowL w p 5 pv L) (hM : RowL w q 5 pv M) (tL : ∀ y ∈ L, TR w y.p y.r.t) (tM : ∀ y ∈ M, TR w y.p y.r.t) (hn : L.length ≤ 1001) (he : M.map (·.r) = L.map (·.r)) :
    Calls Tryd.prog 11 #[.slice p L.length c, .slice q M.length d] w fun e w' => e = .returned (.bool true) ∧ Below w.heap.size w w' := by
  have hlen : M.length = L.length := by have h := congrArg List.length he; rwa [List.length_map, List.length_map] at h
  obtain ⟨n, hnn⟩ : ∃ n, L.length = n := ⟨_, rfl⟩
  rw [hlen, hnn]
  rw [hnn] at hn hlen
  have HL := Lib.hid hL; have HM := Lib.hid hM; have TL := Lib.hid tL; have TM := Lib.hid tM; have HE := Lib.hid he; have LN := Lib.hid hnn; have MN := Lib.hid hlen; have HN := Lib.hid hn
  have B0 := Lib.hid (Below.refl w.heap.size w)
  have nB : (n : Int) ≤ 9223372036854775807 := by omega
  clear hL hM tL tM he hnn hlen hn
  go_enter Tryd.func11, Tryd.ntmps11
  go_upto_region 4 with (fail)
  go_loopw [5] (fun t wr => ∃ j : Nat, j ≤ n ∧ t = .int .i64 (j : Int) ∧ Below w.heap.size w wr) (fun t _ => n - (intOf t).toNat)
  case atStart => exact ⟨0, by omega, rfl, B0.out⟩
  case round =>
    clear B0
    obtain ⟨j, hj, rfl, hb⟩ := hrel
    have B1 := Lib.hid hb
    clear hb
    by_cases hlt : j < n
    · obtain ⟨x, hx⟩ : ∃ x, L[j]? = some x := ⟨_, List.getElem?_eq_getElem (by rw [LN.out]; exact hlt)⟩
      obtain ⟨y, hy⟩ : ∃ y, M[j]? = some y := ⟨_, List.getElem?_eq_getElem (by rw [MN.out]; exact hlt)⟩
      have hxy : y.r = x.r := by
        have h := congrArg (fun l => l[j]?) HE.out
        simp only [List.getElem?_map, hx, hy, Option.map_some, Option.some.injEq] at h
        exact h
      obtain ⟨b1, o1, rfl, l1, r1⟩ := HL.out j x hx
      obtain ⟨b2, o2, rfl, l2, r2⟩ := HM.out j y hy
      have j1 : (j : Int) < (n : Int) := by omega
      have FX := Lib.hid (pv_size x); have FY := Lib.hid (pv_size y)
      have TX := Lib.hid (TL.out x (List.mem_of_getElem? hx)); have TY := Lib.hid (TM.out y (List.mem_of_getElem? hy))
      have RS := Lib.hid (show rpS x.r y.r = true from rpS_iff.2 hxy.symm)
      go_upto_region 6 with (fail)
      obtain ⟨U, hU⟩ : ∃ U, wr.drew = U := ⟨_, rfl⟩
      have BU := Lib.hid (show Below w.heap.size w U from by rw [← hU]; exact B1.out.drew)
      have s0 : U.rangeAt b1 (o1 + j * 5) (pv x) ∧ U.rangeAt b2 (o2 + j * 5) (pv y) := ⟨rows_below r1 BU.out l1, rows_below r2 BU.out l2⟩
      have SR := Lib.hid (refSameReply_t x y U (TX.out.below BU.out) (TY.out.below BU.out))
      rw [RS.out] at SR
      have LL := Lib.hid (And.intro l1 l2)
      clear hx hy hxy r1 r2 l1 l2
      refine wp_region_held (S := fun Y => Y.rangeAt b1 (o1 + j * 5) (pv x) ∧ Y.rangeAt b2 (o2 + j * 5) (pv y)) (by kernel_rfl) ?_
      change wpAnyH _ _ _ _ _ _ _ _ wr.drew
      rw [hU]
      clear hU
      refine wpAnyH_take (i := 0) (v := ?_) rfl (by kernel_rfl) (by kernel_rfl) (by kernel_rfl) (fun _ _ _ h => h) (Or.inl ⟨by kernel_rfl, ?_⟩) s0 ?_
      rotate_left 1
      · (intro w hS; clear hS; go_simp; try (with_reducible rfl))
      refine wpAnyH_take (i := 1) (v := ?_) rfl (by kernel_rfl) (by kernel_rfl) (by kernel_rfl) (fun _ _ _ h => h) (Or.inl ⟨by kernel_rfl, ?_⟩) s0 ?_
      rotate_left 1
      · (intro w hS; clear hS; go_simp; try (with_reducible rfl))
      refine wpAnyH_take (i := 2) (v := ?_) rfl (by kernel_rfl) (by kernel_rfl) (by kernel_rfl) (fun _ _ _ h => h) (Or.inl ⟨by kernel_rfl, ?_⟩) s0 ?_
      rotate_left 1
      · (intro w hS; clear hS; go_simp; try (with_reducible rfl))
      refine wpAnyH_take (i := 3) (v := .agg (pv x).toArray) rfl (by kernel_rfl) (by kernel_rfl) (by kernel_rfl) (fun _ _ _ h => h) (yieldsIf_load_mid (by kernel_rfl) 28 (.tmp 19) rfl b1 (o1 + j * 5) (by go_simp) (pv x) _ (fun _ h => h.1) Tryd.underlying28 rfl (FX.out)) s0 ?_
      refine wpAnyH_take (i := 4) (v := ?_) rfl (by kernel_rfl) (by kernel_rfl) (by kernel_rfl) (fun _ _ _ h => h) (Or.inl ⟨by kernel_rfl, ?_⟩) s0 ?_
      rotate_left 1
      · (intro w hS; clear hS; go_simp; try (with_reducible rfl))
      refine wpAnyH_take (i := 5) (v := ?_) rfl (by kernel_rfl) (by kernel_rfl) (by kernel_rfl) (fun _ _ _ h => h) (Or.inl ⟨by kernel_rfl, ?_⟩) s0 ?_
      rotate_left 1
      · (intro w hS; clear hS; go_simp; try (with_reducible rfl))
      refine wpAnyH_take (i := 6) (v := ?_) rfl (by kernel_rfl) (by kernel_rfl) (by kernel_rfl) (fun _ _ _ h => h) (Or.inl ⟨by kernel_rfl, ?_⟩) s0 ?_
      rotate_left 1
      · (intro w hS; clear hS; go_simp; try (with_reducible rfl))
      refine wpAnyH_take (i := 7) (v := .agg (pv y).toArray) rfl (by kernel_rfl) (by kernel_rfl) (by kernel_rfl) (fun _ _ _ h => h) (yieldsIf_load_mid (by kernel_rfl) 28 (.tmp 23) rfl b2 (o2 + j * 5) (by go_simp) (pv y) _ (fun _ h => h.2) Tryd.underlying28 rfl (FY.out)) s0 ?_
      go_simp
      refine wpAnyH_ready (rs := [8]) (by kernel_rfl) (by simp) ?_
      refine AllReadyH.cons rfl (fun K hK => ?_) AllReadyH.nil
      rw [if_pos (by kernel_rfl)]
      go_simp
      refine SR.out.mono ?_
      rintro e w2 ⟨rfl, b2_⟩
      have B2 := Lib.hid (BU.out.trans (b2_.mono BU.out.size))
      have s2 : w2.rangeAt b1 (o1 + j * 5) (pv x) ∧ w2.rangeAt b2 (o2 + j * 5) (pv y) := ⟨rows_below s0.1 b2_ (Nat.lt_of_lt_of_le LL.out.1 BU.out.size), rows_below s0.2 b2_ (Nat.lt_of_lt_of_le LL.out.2 BU.out.size)⟩
      refine hK.out _ _ s2 (fun _ => ?_)
      clear hK K s0 b2_ SR BU
      refine wpAnyH_take (i := 9) (v := ?_) rfl (by kernel_rfl) (by kernel_rfl) (by kernel_rfl) (fun _ _ _ h => h) (Or.inl ⟨by kernel_rfl, ?_⟩) s2 ?_
      rotate_left 1
      · (intro w hS; clear hS; go_simp; try (with_reducible rfl))
      refine wpAnyH_done (by kernel_rfl) ?_ _
      go_simp
      go_wp2_with fail
      go_roundw
      case rel => exact ⟨j + 1, hlt, by go_num, B2.out⟩
      case measure => simp [intOf]; omega
    · obtain rfl : j = n := by omega
      clear hlt
      go_wp2_with fail
      go_ret
      exact ⟨rfl, B1.out⟩
end Go.Proofs.YtojianpbjckipaaDoor
