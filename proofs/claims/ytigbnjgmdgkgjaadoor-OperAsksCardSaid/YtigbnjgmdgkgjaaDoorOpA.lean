/-
  PACKAGE oper: a request in memory; the array of uses; isKind, Reads, Writes, mayFind, mayBring, May, Same.
-/
import Derived.Test.YtigbnjgmdgkgjaaDoorOpN
namespace Go.Proofs.YtigbnjgmdgkgjaaDoor
open Go Go.RowKit Sh

/-- A whole block is loaded where a guard says yes. -/
theorem load_blk_gO {P : Program} {ops : Array Oper} {rest : List Oper} {o : Oper} {a : Act} {w : World} {Q : Exit → Act → World → Prop} (ty : TypeId) (x : Operand) (g : Nat) (t : TypeId) (cs : List Value) (d : TypeDesc)
    (hw : Region.wanted o (yielded ops a.tmps) = true) (ho : o.op = .load ty x) (hg : Blk w g t cs) (hu : P.underlying ty = some d) (hd : d.isRow = true) (hi : (P.info? ty).map (·.size) = some cs.length)
    (hx : a.eval x = .pointer (some ⟨g, 0, none⟩)) (h : wpList P ops Q rest (a.put o.dst (.agg cs.toArray)) w) : wpList P ops Q (o :: rest) a w :=
  BigFrame.wpList_want hw fun _ hK => wload_part ty x g 0 t [] cs [] d ho (by simpa using hg) rfl hu hd hi hx (hK _ _ h)
/-- The load of ONE operation, named by the slot that it writes. -/
theorem load_blk_gdO {P : Program} {ops : Array Oper} {rest : List Oper} {o : Oper} {a : Act} {w : World} {Q : Exit → Act → World → Prop} (D : Nat) (ty : TypeId) (x : Operand) (g : Nat) (t : TypeId) (cs : List Value) (d : TypeDesc)
    (_hD : o.dst = some D) (hw : Region.wanted o (yielded ops a.tmps) = true) (ho : o.op = .load ty x) (hg : Blk w g t cs) (hu : P.underlying ty = some d) (hd : d.isRow = true) (hi : (P.info? ty).map (·.size) = some cs.length)
    (hx : a.eval x = .pointer (some ⟨g, 0, none⟩)) (h : wpList P ops Q rest (a.put o.dst (.agg cs.toArray)) w) : wpList P ops Q (o :: rest) a w :=
  load_blk_gO ty x g t cs d hw ho hg hu hd hi hx h
/-- A request as it is handed on: where its rows lie. -/
structure Rv where
  r : Rq
  p : Option Addr
  c : Nat
  t : Option Addr
  d : Nat
def rv (x : Rv) : List Value := [.int .i64 x.r.cl, .int .i64 x.r.sq, .int .i64 x.r.kd, .slice x.p x.r.n x.c, .slice x.t x.r.m x.d, .int .i64 x.r.le]
theorem rv_size (x : Rv) : (Tryd.prog.info? 24).map (·.size) = some (rv x).length := by
  show (Tryd.prog.info? 24).map (·.size) = some 6
  kernel_rfl
/-- Its rows. -/
structure RvW (w : World) (x : Rv) : Prop where
  p : Rw w x.p x.r.n x.r.G
  t : Rw w x.t x.r.m x.r.H
  n : x.r.n ≤ 9223372036854775807
  m : x.r.m ≤ 9223372036854775807
theorem RvW.below {w w' : World} {x : Rv} (h : RvW w x) (hb : Below w.heap.size w w') : RvW w' x := ⟨h.p.below hb, h.t.below hb, h.n, h.m⟩
theorem rv_cells {w : World} {g : Nat} {x : Rv} (h : Blk w g 24 (rv x)) :
    w.cell? ⟨g, 0, none⟩ = some (.int .i64 x.r.cl) ∧ w.cell? ⟨g, 1, none⟩ = some (.int .i64 x.r.sq) ∧ w.cell? ⟨g, 2, none⟩ = some (.int .i64 x.r.kd) ∧ w.cell? ⟨g, 3, none⟩ = some (.slice x.p x.r.n x.c) ∧ w.cell? ⟨g, 4, none⟩ = some (.slice x.t x.r.m x.d) ∧ w.cell? ⟨g, 5, none⟩ = some (.int .i64 x.r.le) := ⟨h.cell 0, h.cell 1, h.cell 2, h.cell 3, h.cell 4, h.cell 5⟩
/-- The cells of the array of uses. -/
def uts : List Value :=
  [.bool false, .bool false, .bool false, .bool false, .bool true, .bool true, .bool true, .bool false, .bool false, .bool true, .bool true, .bool false, .bool true, .bool false, .bool false,
   .bool true, .bool true, .bool false, .bool true, .bool true, .bool true, .bool true, .bool true, .bool true, .bool false, .bool false, .bool false]
/-- The array lies in its variable. -/
structure UT (w : World) : Prop where
  lt : 0 < w.heap.size
  at_ : w.rangeAt 0 0 uts
theorem UT.below {w w' : World} (h : UT w) (hb : Below w.heap.size w w') : UT w' :=
  ⟨Nat.lt_of_lt_of_le h.lt hb.size, fun j v hv => (hb.cell (p := ⟨0, 0 + j, none⟩) h.lt).trans (h.at_ j v hv)⟩
theorem UT.cell {w : World} (h : UT w) (k : Nat) (hk : 1 ≤ k ∧ k ≤ 8) : w.cell? ⟨0, k * 3, none⟩ = some (.bool (rdK k)) ∧ w.cell? ⟨0, k * 3 + 1, none⟩ = some (.bool (wrK k)) ∧ w.cell? ⟨0, k * 3 + 2, none⟩ = some (.bool (brK k)) := by
  have h0 := h.at_ (k * 3)
  have h1 := h.at_ (k * 3 + 1)
  have h2 := h.at_ (k * 3 + 2)
  rw [Nat.zero_add] at h0 h1 h2
  refine ⟨h0 _ ?_, h1 _ ?_, h2 _ ?_⟩
  all_goals
    have hc : k = 1 ∨ k = 2 ∨ k = 3 ∨ k = 4 ∨ k = 5 ∨ k = 6 ∨ k = 7 ∨ k = 8 := by omega
    rcases hc with rfl | rfl | rfl | rfl | rfl | rfl | rfl | rfl <;> rfl
theorem isK_nat {k : Int} (h : isK k = true) : ∃ j : Nat, k = (j : Int) ∧ 1 ≤ j ∧ j ≤ 8 := by
  unfold isK at h
  simp only [Bool.and_eq_true, decide_eq_true_eq] at h
  exact ⟨k.toNat, by omega, by omega, by omega⟩
theorem isKind_t (k : Int) (w : World) : Calls Tryd.prog 28 #[.int .i64 k] w fun e w' => e = .returned (.bool (isK k)) ∧ w = w' := by
  unfold isK
  by_cases h1 : 1 ≤ k
  · rw [decide_eq_true h1, Bool.true_and]
    go_enter Tryd.func28, Tryd.ntmps28
    go_wp2
    go_ret
    exact ⟨by simp, rfl⟩
  · rw [decide_eq_false h1, Bool.false_and]
    have h2 : k < 1 := by omega
    go_enter Tryd.func28, Tryd.ntmps28
    go_wp2
    go_ret
    exact ⟨by simp, rfl⟩
theorem rdK_no {k : Int} (h : isK k = false) : rdK k = false ∧ wrK k = false := by
  unfold isK at h
  have : k < 1 ∨ 8 < k := by
    rcases Int.lt_or_le k 1 with h1 | h1
    · exact .inl h1
    · rw [decide_eq_true h1, Bool.true_and, decide_eq_false_iff_not] at h
      exact .inr (by omega)
  unfold rdK wrK
  simp
  omega
theorem Reads_t (k : Int) (w : World) (hu : UT w) : Calls Tryd.prog 18 #[.int .i64 k] w fun e w' => e = .returned (.bool (rdK k)) ∧ w = w' := by
  have IK := Lib.hid (isKind_t k w)
  cases h : isK k with
  | false =>
    rw [h] at IK
    rw [(rdK_no h).1]
    go_enter Tryd.func18, Tryd.ntmps18
    go_wp2_with fail
    refine IK.out.mono ?_
    rintro e w1 ⟨rfl, rfl⟩
    go_wp2_with fail
    go_ret
    exact ⟨rfl, rfl⟩
  | true =>
    rw [h] at IK
    obtain ⟨j, rfl, j1, j8⟩ := isK_nat h
    have c0 := (hu.cell j ⟨j1, j8⟩).1
    have i9 : (j : Int) < 9 := by omega
    go_enter Tryd.func18, Tryd.ntmps18
    go_wp2_with fail
    refine IK.out.mono ?_
    rintro e w1 ⟨rfl, rfl⟩
    go_wp2_with fail
    go_ret
    exact ⟨rfl, rfl⟩
theorem Writes_t (k : Int) (w : World) (hu : UT w) : Calls Tryd.prog 20 #[.int .i64 k] w fun e w' => e = .returned (.bool (wrK k)) ∧ w = w' := by
  have IK := Lib.hid (isKind_t k w)
  cases h : isK k with
  | false =>
    rw [h] at IK
    rw [(rdK_no h).2]
    go_enter Tryd.func20, Tryd.ntmps20
    go_wp2_with fail
    refine IK.out.mono ?_
    rintro e w1 ⟨rfl, rfl⟩
    go_wp2_with fail
    go_ret
    exact ⟨rfl, rfl⟩
  | true =>
    rw [h] at IK
    obtain ⟨j, rfl, j1, j8⟩ := isK_nat h
    have c0 := (hu.cell j ⟨j1, j8⟩).2.1
    have i9 : (j : Int) < 9 := by omega
    go_enter Tryd.func20, Tryd.ntmps20
    go_wp2_with fail
    refine IK.out.mono ?_
    rintro e w1 ⟨rfl, rfl⟩
    go_wp2_with fail
    go_ret
    exact ⟨rfl, rfl⟩
theorem mayFind_t (x : Rv) (w : World) (hu : UT w) (h : RvW w x) : Calls Tryd.prog 29 #[.agg (rv x).toArray] w fun e w' => e = .returned (.bool (findB x.r)) ∧ Below w.heap.size w w' := by
  have B0 := Lib.hid (Blk.new w 24 (rv x))
  have BW := Lib.hid ((Below.refl w.heap.size w).alloc (Nat.le_refl _) (.cells (rv x).toArray 24))
  have RD := Lib.hid (Reads_t x.r.kd _ (hu.below BW.out))
  have MT := Lib.hid (MayTemplate_t x.r.n x.c x.p x.r.G _ h.n (h.below BW.out).p)
  have hf : findB x.r = if rdK x.r.kd then mayP x.r.n x.r.G else decide (x.r.n = 0) := rfl
  obtain ⟨c0, c1, c2, c3, c4, c5⟩ := rv_cells B0.out
  obtain ⟨xs, hx⟩ : ∃ l, rv x = l := ⟨_, rfl⟩
  rw [hx] at B0 BW RD MT c0 c1 c2 c3 c4 c5 ⊢
  obtain ⟨rb, hr⟩ : ∃ b, rdK x.r.kd = b := ⟨_, rfl⟩
  obtain ⟨mb, hm⟩ : ∃ b, mayP x.r.n x.r.G = b := ⟨_, rfl⟩
  rw [hr] at RD hf
  rw [hm] at MT hf
  rw [hf]
  obtain ⟨n, hn⟩ : ∃ n, x.r.n = n := ⟨_, rfl⟩
  rw [hn] at c3 MT ⊢
  clear hu h hf hx hm hn hr c0 c1 c4 c5 B0
  cases rb with
  | true =>
    go_enter Tryd.func29, Tryd.ntmps29
    go_wp2_with fail
    refine RD.out.mono ?_
    rintro e w1 ⟨rfl, rfl⟩
    go_wp2_with fail
    refine MT.out.mono ?_
    rintro e w2 ⟨rfl, b2⟩
    go_wp2_with fail
    go_ret
    exact ⟨rfl, BW.out.trans (b2.mono BW.out.size)⟩
  | false =>
    go_enter Tryd.func29, Tryd.ntmps29
    go_wp2_with fail
    refine RD.out.mono ?_
    rintro e w1 ⟨rfl, rfl⟩
    go_wp2_with fail
    go_ret
    exact ⟨by
      by_cases h0 : n = 0
      · subst h0; rfl
      · simp [h0], BW.out⟩

theorem mayBring_t (x : Rv) (w : World) (hk : isK x.r.kd = true) (hu : UT w) (h : RvW w x) : Calls Tryd.prog 30 #[.agg (rv x).toArray] w fun e w' => e = .returned (.bool (bringB x.r)) ∧ Below w.heap.size w w' := by
  have B0 := Lib.hid (Blk.new w 24 (rv x))
  have BW := Lib.hid ((Below.refl w.heap.size w).alloc (Nat.le_refl _) (.cells (rv x).toArray 24))
  have MT := Lib.hid (May_t x.r.m x.d x.t x.r.H _ h.m (h.below BW.out).t)
  have hf : bringB x.r = if brK x.r.kd then mayV x.r.m x.r.H && (decide (0 ≤ x.r.le) && decide (x.r.le ≤ 1099511627776)) else decide (x.r.m = 0) && (x.r.le == 0) := rfl
  obtain ⟨_, _, c2, _, c4, c5⟩ := rv_cells B0.out
  obtain ⟨j, hj, j1, j8⟩ := isK_nat hk
  have cu := ((hu.below BW.out).cell j ⟨j1, j8⟩).2.2
  rw [← hj] at cu
  have i9 : (j : Int) < 9 := by omega
  obtain ⟨xs, hx⟩ : ∃ l, rv x = l := ⟨_, rfl⟩
  rw [hx] at B0 BW MT c2 c4 c5 cu ⊢
  rw [hj] at c2
  obtain ⟨rb, hr⟩ : ∃ b, brK x.r.kd = b := ⟨_, rfl⟩
  obtain ⟨mb, hm⟩ : ∃ b, mayV x.r.m x.r.H = b := ⟨_, rfl⟩
  rw [hr] at cu hf
  rw [hm] at MT hf
  rw [hf]
  obtain ⟨m, hn⟩ : ∃ n, x.r.m = n := ⟨_, rfl⟩
  obtain ⟨le, hl⟩ : ∃ n, x.r.le = n := ⟨_, rfl⟩
  rw [hn] at c4 MT ⊢
  rw [hl] at c5 ⊢
  have C5 := Lib.hid c5
  clear hu h hf hx hm hn hr hl hj hk c5
  cases rb with
  | true =>
    cases mb with
    | false =>
      go_enter Tryd.func30, Tryd.ntmps30
      go_wp2_with fail
      refine MT.out.mono ?_
      rintro e w2 ⟨rfl, b2⟩
      go_wp2_with fail
      go_ret
      exact ⟨rfl, BW.out.trans (b2.mono BW.out.size)⟩
    | true =>
      by_cases h0 : 0 ≤ le
      · go_enter Tryd.func30, Tryd.ntmps30
        go_wp2_with fail
        refine MT.out.mono ?_
        rintro e w2 ⟨rfl, b2⟩
        have c5 := (b2.cell (p := ⟨w.heap.size, 5, none⟩) B0.out.lt).trans C5.out
        go_wp2_with fail
        go_ret
        exact ⟨by simp, BW.out.trans (b2.mono BW.out.size)⟩
      · have h1 : le < 0 := by omega
        go_enter Tryd.func30, Tryd.ntmps30
        go_wp2_with fail
        refine MT.out.mono ?_
        rintro e w2 ⟨rfl, b2⟩
        have c5 := (b2.cell (p := ⟨w.heap.size, 5, none⟩) B0.out.lt).trans C5.out
        go_wp2_with fail
        go_ret
        exact ⟨by simp; omega, BW.out.trans (b2.mono BW.out.size)⟩
  | false =>
    have c5 := C5.out
    by_cases h0 : m = 0
    · subst h0
      go_enter Tryd.func30, Tryd.ntmps30
      go_wp2_with fail
      go_ret
      exact ⟨by simp, BW.out⟩
    · have e1 : ((m : Int) == 0) = false := by rw [beq_eq_false_iff_ne]; omega
      go_enter Tryd.func30, Tryd.ntmps30
      go_wp2_with fail
      go_ret
      exact ⟨by simp, BW.out⟩
theorem May_r (x : Rv) (w : World) (hu : UT w) (h : RvW w x) : Calls Tryd.prog 11 #[.agg (rv x).toArray] w fun e w' => e = .returned (.bool (mayR x.r)) ∧ Below w.heap.size w w' := by
  have B0 := Lib.hid (Blk.new w 24 (rv x))
  have BW := Lib.hid ((Below.refl w.heap.size w).alloc (Nat.le_refl _) (.cells (rv x).toArray 24))
  have IK := Lib.hid (isKind_t x.r.kd (w.alloc (.cells (rv x).toArray 24)))
  have MF := Lib.hid (mayFind_t x _ (hu.below BW.out) (h.below BW.out))
  have MB := Lib.hid (fun W (hb : Below w.heap.size w W) (hk : isK x.r.kd = true) => mayBring_t x W hk (hu.below hb) (h.below hb))
  have hf : mayR x.r = ((decide (0 ≤ x.r.cl) && decide (x.r.cl < 4)) && ((decide (1 ≤ x.r.sq) && decide (x.r.sq ≤ 1073741824)) && isK x.r.kd) && (findB x.r && bringB x.r)) := rfl
  obtain ⟨c0, c1, c2, _, _, _⟩ := rv_cells B0.out
  obtain ⟨cl, hcl⟩ : ∃ n, x.r.cl = n := ⟨_, rfl⟩
  obtain ⟨sq, hsq⟩ : ∃ n, x.r.sq = n := ⟨_, rfl⟩
  obtain ⟨kb, hkb⟩ : ∃ n, isK x.r.kd = n := ⟨_, rfl⟩
  obtain ⟨fb, hfb⟩ : ∃ n, findB x.r = n := ⟨_, rfl⟩
  obtain ⟨bb, hbb⟩ : ∃ n, bringB x.r = n := ⟨_, rfl⟩
  rw [hcl] at c0 hf
  rw [hsq] at c1 hf
  rw [hkb] at IK MB hf
  rw [hfb] at MF hf
  rw [hbb] at MB hf
  rw [hf]
  clear hu h hf hcl hsq hkb hfb hbb
  by_cases h1 : 0 ≤ cl
  · rw [decide_eq_true h1, Bool.true_and]
    by_cases h2 : cl < 4
    · rw [decide_eq_true h2, Bool.true_and]
      by_cases h3 : 1 ≤ sq
      · rw [decide_eq_true h3, Bool.true_and]
        by_cases h4 : sq ≤ 1073741824
        · rw [decide_eq_true h4, Bool.true_and]
          cases kb with
          | false =>
            go_enter Tryd.func11, Tryd.ntmps11
            go_wp2_with fail
            refine IK.out.mono ?_
            rintro e w1 ⟨rfl, rfl⟩
            go_wp2_with fail
            go_ret
            exact ⟨rfl, BW.out⟩
          | true =>
            cases fb with
            | false =>
              go_enter Tryd.func11, Tryd.ntmps11
              go_wp2_with fail
              refine IK.out.mono ?_
              rintro e w1 ⟨rfl, rfl⟩
              go_wp2_with ((with_reducible refine load_blk_gdO 27 24 (.tmp 1) w.heap.size 24 (rv x) _ ?_ ?_ rfl ?_ Tryd.underlying24 ?_ ?_ ?_ ?_); exact rfl; kernel_rfl; exact B0.out; exact rfl; exact rv_size x; exact rfl)
              refine MF.out.mono ?_
              rintro e w2 ⟨rfl, b2⟩
              go_wp2_with fail
              go_ret
              exact ⟨rfl, BW.out.trans (b2.mono BW.out.size)⟩
            | true =>
              go_enter Tryd.func11, Tryd.ntmps11
              go_wp2_with fail
              refine IK.out.mono ?_
              rintro e w1 ⟨rfl, rfl⟩
              go_wp2_with ((with_reducible refine load_blk_gdO 27 24 (.tmp 1) w.heap.size 24 (rv x) _ ?_ ?_ rfl ?_ Tryd.underlying24 ?_ ?_ ?_ ?_); exact rfl; kernel_rfl; exact B0.out; exact rfl; exact rv_size x; exact rfl)
              refine MF.out.mono ?_
              rintro e w2 ⟨rfl, b2⟩
              have B2 := Lib.hid (B0.out.below b2 B0.out.lt)
              have BX := Lib.hid (BW.out.trans (b2.mono BW.out.size))
              clear b2
              go_wp2_with ((with_reducible refine load_blk_gdO 31 24 (.tmp 1) w.heap.size 24 (rv x) _ ?_ ?_ rfl ?_ Tryd.underlying24 ?_ ?_ ?_ ?_); exact rfl; kernel_rfl; exact B2.out; exact rfl; exact rv_size x; exact rfl)
              refine (MB.out _ BX.out (by trivial)).mono ?_
              rintro e w3 ⟨rfl, b3⟩
              go_wp2_with fail
              go_ret
              exact ⟨rfl, BX.out.trans (b3.mono BX.out.size)⟩
        · rw [decide_eq_false h4, Bool.false_and, Bool.false_and]
          have n4 : 1073741824 < sq := by omega
          go_enter Tryd.func11, Tryd.ntmps11
          go_wp2_with fail
          go_ret
          exact ⟨rfl, BW.out⟩
      · rw [decide_eq_false h3, Bool.false_and, Bool.false_and, Bool.false_and]
        have n3 : sq < 1 := by omega
        go_enter Tryd.func11, Tryd.ntmps11
        go_wp2_with fail
        go_ret
        exact ⟨rfl, BW.out⟩
    · rw [decide_eq_false h2, Bool.false_and, Bool.false_and]
      have n2 : 4 ≤ cl := by omega
      go_enter Tryd.func11, Tryd.ntmps11
      go_wp2_with fail
      go_ret
      exact ⟨rfl, BW.out⟩
  · rw [decide_eq_false h1, Bool.false_and, Bool.false_and, Bool.false_and]
    have n1 : cl < 0 := by omega
    go_enter Tryd.func11, Tryd.ntmps11
    go_wp2_with fail
    go_ret
    exact ⟨rfl, BW.out⟩
end Go.Proofs.YtigbnjgmdgkgjaaDoor
