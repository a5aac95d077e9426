/-
  PACKAGE vote
-/
import Derived.Test.YtidklgicmhdapaaGreatDoorAv8
import Derived.Test.YtidklgicmhdapaaGreatDoorAv6
namespace Go.Proofs.YtidklgicmhdapaaGreatDoor
open Go Go.RowKit Sh

structure Vv where
  p : Int
  f : Int
  l : List Nat
  A : Option Addr
  c : Nat
  s : List Nat
def vv (x : Vv) : List Value := .int .i64 x.p :: .int .i64 x.f :: (u8s x.l ++ [.slice x.A x.s.length x.c])
def Vv.vt (x : Vv) : Vt := ⟨x.p, x.f, x.l, x.s⟩
structure VvW (W : World) (x : Vv) : Prop where
  ll : x.l.length = 32
  lb : Bytes x.l
  s : Sr W x.A x.s
  sb : Bytes x.s
  sn : x.s.length ≤ 1000000
theorem VvW.below {W W' : World} {x : Vv} (h : VvW W x) (hb : Below W.heap.size W W') : VvW W' x := ⟨h.ll, h.lb, h.s.below hb, h.sb, h.sn⟩
theorem vv_len {x : Vv} (h : x.l.length = 32) : (vv x).length = 35 := by simp [vv, u8s, h]
theorem vv_size {x : Vv} (h : x.l.length = 32) : (Tryz.prog.info? 26).map (·.size) = some (vv x).length := by
  rw [vv_len h]
  kernel_rfl
theorem vv_one (x : Vv) : (vv x).toArray.all (·.oneCell') = true := by
  have h := u8s_one x.l
  rw [List.all_toArray] at h
  simp only [vv, List.all_toArray, List.all_cons, List.all_append, List.all_nil, Bool.and_true]
  rw [h]
  rfl
theorem vv_cells {W : World} {g : Nat} {t : TypeId} {x : Vv} (h : Blk W g t (vv x)) (hl : x.l.length = 32) : W.cell? ⟨g, 0, none⟩ = some (.int .i64 x.p) ∧ W.cell? ⟨g, 1, none⟩ = some (.int .i64 x.f) ∧ W.cell? ⟨g, 34, none⟩ = some (.slice x.A x.s.length x.c) := by
  refine ⟨h.cell 0, h.cell 1, ?_⟩
  have h34 := h.cell 34
  rw [h34]
  show (u8s x.l ++ [Value.slice x.A x.s.length x.c])[32]? = _
  rw [List.getElem?_append_right (by rw [u8s_length, hl]; exact Nat.le_refl _), u8s_length, hl]
  rfl
theorem vv_link {W : World} {g : Nat} {t : TypeId} {x : Vv} (h : Blk W g t (vv x)) : Sr W (some ⟨g, 2, none⟩) x.l := fun _ => ⟨g, 2, rfl, h.lt, fun j hj => by
  have h34 := h.cell (2 + j)
  rw [h34, show 2 + j = j + 1 + 1 by omega]
  show (u8s x.l ++ [Value.slice x.A x.s.length x.c])[j]? = _
  rw [List.getElem?_append_left (by rw [u8s_length]; exact hj)]
  exact u8s_get _ _ hj⟩
structure VB (w0 W : World) (x : Vv) : Prop where
  a : Blk W w0.heap.size 26 (vv x)
  rx : VvW W x
  bel : Below w0.heap.size w0 W
theorem VB.below {w0 W W' : World} {x : Vv} (h : VB w0 W x) (hb : Below W.heap.size W W') : VB w0 W' x := ⟨h.a.below hb h.a.lt, h.rx.below hb, h.bel.trans (hb.mono h.bel.size)⟩
theorem VB.new {w : World} {x : Vv} (h : VvW w x) : VB w (w.alloc (.cells (vv x).toArray 26)) x := by
  have b1 := (Below.refl w.heap.size w).alloc (Nat.le_refl _) (.cells (vv x).toArray 26)
  exact ⟨Blk.new w 26 (vv x), h.below b1, b1⟩
set_option maxRecDepth 100000 in
set_option maxHeartbeats 1000000 in
theorem vMayPut_t (x : Vv) (w : World) (h : VvW w x) :
    Calls Tryz.prog 17 #[.agg (vv x).toArray] w fun e w' => e = .returned (.bool (mayVo x.vt)) ∧ Below w.heap.size w w' := by
  have S0 := Lib.hid (VB.new h)
  have HM := Lib.hid (show mayVo x.vt = ((decide (0 ≤ x.p) && decide (x.p ≤ 1048576)) && ((decide (0 ≤ x.f) && decide (x.f ≤ 6)) && decide (x.s.length ≤ 9000))) from rfl)
  obtain ⟨r, hr⟩ : ∃ r, mayVo x.vt = r := ⟨_, rfl⟩
  rw [hr] at HM ⊢
  clear h hr
  go_enter Tryz.func17, Tryz.ntmps17
  go_upto_region 1 with (fail)
  refine world_at (fun Y => VB w Y x) S0.out ?_
  rintro V s1
  have S1 := Lib.hid s1
  clear s1 S0
  obtain ⟨c0, c1, c34⟩ := vv_cells S1.out.a S1.out.rx.ll
  by_cases p0 : 0 ≤ x.p
  · by_cases p1 : x.p ≤ 1048576
    · by_cases f0 : 0 ≤ x.f
      · by_cases f1 : x.f ≤ 6
        · by_cases s9 : x.s.length ≤ 9000
          · have i9 : (x.s.length : Int) ≤ 9000 := by omega
            have hr : r = true := by rw [HM.out, decide_eq_true p0, decide_eq_true p1, decide_eq_true f0, decide_eq_true f1, decide_eq_true s9]; rfl
            go_wp2_with fail
            go_ret
            subst hr
            exact ⟨rfl, S1.out.bel⟩
          · have i9 : ¬ ((x.s.length : Int) ≤ 9000) := by omega
            have hr : r = false := by rw [HM.out, decide_eq_false s9, Bool.and_false, Bool.and_false]
            go_wp2_with fail
            go_ret
            subst hr
            exact ⟨rfl, S1.out.bel⟩
        · have hr : r = false := by rw [HM.out, decide_eq_false f1, Bool.and_false, Bool.false_and, Bool.and_false]
          go_wp2_with fail
          go_ret
          subst hr
          exact ⟨rfl, S1.out.bel⟩
      · have hr : r = false := by rw [HM.out, decide_eq_false f0, Bool.false_and, Bool.false_and, Bool.and_false]
        go_wp2_with fail
        go_ret
        subst hr
        exact ⟨rfl, S1.out.bel⟩
    · have hr : r = false := by rw [HM.out, decide_eq_false p1, Bool.and_false, Bool.false_and]
      go_wp2_with fail
      go_ret
      subst hr
      exact ⟨rfl, S1.out.bel⟩
  · have hr : r = false := by rw [HM.out, decide_eq_false p0, Bool.false_and, Bool.false_and]
    go_wp2_with fail
    go_ret
    subst hr
    exact ⟨rfl, S1.out.bel⟩
set_option maxRecDepth 100000 in
theorem vWritten_t (F : FuncId) (C : Array Value) (l : List Nat) (w : World) (hcf : ∀ args W, (callFunc F args).run Tryz.prog W = .ok (.enter F args) W) (hl : l.length ≤ 70368744177664)
    (hcall : Calls Tryz.prog F (#[.pointer (some ⟨w.heap.size, 0, none⟩)] ++ C) (w.alloc (.cells #[.pointer none, .int .i64 0] 66)) fun e W' => e = .returned (.tuple #[]) ∧ Wr W' (fun k => w.heap.size ≤ k) w.heap.size l ∧ Below w.heap.size w W') :
    Calls Tryz.prog 18 #[.func (.func F) #[] C] w fun e w' => ∃ u, e = .returned u ∧ Fresh 5 w w' u l := by
  have HC := Lib.hid hcall; have HL := Lib.hid hl
  clear hcall hl
  go_enter Tryz.func18, Tryz.ntmps18
  go_wp2_with fail
  refine HC.out.mono ?_
  rintro e w3 ⟨rfl, x3, b3⟩
  have X3 := Lib.hid x3; have B3 := Lib.hid b3
  clear HC x3 b3
  go_wp2_with fail
  refine (wbytes_t _ w.heap.size l w3 X3.out HL.out).mono ?_
  rintro e w9 ⟨v, rfl, fr⟩
  have FR := Lib.hid (show Fresh 5 w w9 v l from ⟨own_base fr.1 (fun k hk => Nat.le_trans B3.out.size (fr.1.lt k hk).1), B3.out.trans (fr.2.mono B3.out.size)⟩)
  clear fr X3
  go_wp2_with fail
  go_ret
  exact ⟨v, rfl, FR.out⟩
structure QV (w0 w2 W : World) (x : Vv) (l : List Nat) : Prop where
  wr : Wr W (fun k => w2.heap.size ≤ k) w2.heap.size l
  box : Blk W w0.heap.size 26 (vv x)
  lo : w0.heap.size < w2.heap.size
  r2 : VvW w2 x
  b2 : Below w2.heap.size w2 W
theorem QV.step {w0 w2 W W' : World} {x : Vv} {l l' : List Nat} (h : QV w0 w2 W x l) (hw : Wr W' (fun k => w2.heap.size ≤ k) w2.heap.size l') (hb : Below w2.heap.size W W') : QV w0 w2 W' x l' :=
  ⟨hw, h.box.below hb h.lo, h.lo, h.r2, h.b2.trans hb⟩
set_option maxRecDepth 100000 in
set_option maxHeartbeats 1000000 in
theorem vPut1_t (x : Vv) (w0 w2 W : World) (h : QV w0 w2 W x []) (hm : mayVo x.vt = true) :
    Calls Tryz.prog 19 #[.pointer (some ⟨w2.heap.size, 0, none⟩), .pointer (some ⟨w0.heap.size, 0, none⟩)] W fun e W' => e = .returned (.tuple #[]) ∧ Wr W' (fun k => w2.heap.size ≤ k) w2.heap.size (putV x.vt) ∧ Below w2.heap.size w2 W' := by
  obtain ⟨h1, h2, h3, h4, h5⟩ := mayVo_h hm
  obtain ⟨a, ha⟩ : ∃ a : Nat, x.p = (a : Int) := ⟨x.p.toNat, by have h1 : 0 ≤ x.p := h1; omega⟩
  obtain ⟨b, hb⟩ : ∃ a : Nat, x.f = (a : Int) := ⟨x.f.toNat, by have h3 : 0 ≤ x.f := h3; omega⟩
  have a9 : a ≤ 1048576 := by have h2 : x.p ≤ 1048576 := h2; omega
  have b9 : b ≤ 6 := by have h4 : x.f ≤ 6 := h4; omega
  have S9 := Lib.hid (show x.s.length ≤ 9000 from h5)
  have E := Lib.hid (show putV x.vt = ((beN a 4 ++ beN b 1) ++ x.l) ++ txtN x.s from by
    show beN x.p.toNat 4 ++ (beN x.f.toNat 1 ++ (x.l ++ txtN x.s)) = _
    rw [ha, hb]
    simp only [Int.toNat_natCast, List.append_assoc])
  obtain ⟨xs, hxs⟩ : ∃ l, putV x.vt = l := ⟨_, rfl⟩
  rw [hxs] at E ⊢
  have RC := Lib.hid (fun (W : World) (hb : Blk W w0.heap.size 26 (vv x)) => vv_cells hb h.r2.ll)
  rw [ha, hb] at RC
  have LL := Lib.hid h.r2.ll
  have i1 : IntKind.u64.wrap (a : Int) = (a : Int) := IntWalk.u64_in _ (by omega)
  have i2 : IntKind.u64.wrap (b : Int) = (b : Int) := IntWalk.u64_in _ (by omega)
  have P0 := Lib.hid h
  clear h hm h1 h2 h3 h4 h5 ha hb hxs
  go_enter Tryz.func19, Tryz.ntmps19
  obtain ⟨c0, _, _⟩ := RC.out _ P0.out.box
  go_wp2_with fail
  refine (num_s a 4 P0.out.wr (Below.refl _ _) P0.out.b2.size (by omega) (by decide) (by decide) (by simp)).mono ?_
  rintro e w3 ⟨rfl, x2, b2⟩
  have P3 := Lib.hid (P0.out.step x2 b2)
  clear x2 b2 P0
  rw [List.nil_append] at P3
  clear c0
  obtain ⟨_, c1, _⟩ := RC.out _ P3.out.box
  go_wp2_with fail
  refine (num_s b 1 P3.out.wr (Below.refl _ _) P3.out.b2.size (by omega) (by decide) (by decide) (by rw [beN_length]; omega)).mono ?_
  rintro e w4 ⟨rfl, x2, b2⟩
  have P4 := Lib.hid (P3.out.step x2 b2)
  clear x2 b2 P3
  clear c1 i1 i2
  have SL := Lib.hid (vv_link P4.out.box)
  have RW_ := Lib.hid (raw_s x.l (some ⟨w0.heap.size, 2, none⟩) 32 32 P4.out.wr (Below.refl _ _) P4.out.b2.size LL.out SL.out (by simp only [List.length_append, beN_length]; omega))
  go_wp2_with fail
  refine RW_.out.mono ?_
  rintro e w5 ⟨rfl, x5, b5⟩
  have P5 := Lib.hid (P4.out.step x5 b5)
  clear x5 b5 RW_ SL P4
  obtain ⟨_, _, c34⟩ := RC.out _ P5.out.box
  have TX := Lib.hid (text_s x.s x.A x.s.length x.c P5.out.wr (Below.refl _ _) P5.out.b2.size rfl (P5.out.r2.s.below P5.out.b2) (fun hx a ha => .inl (P5.out.r2.s.lt hx a ha)) (by simp only [List.length_append, beN_length, LL.out]; have := S9.out; omega))
  go_wp2_with fail
  refine TX.out.mono ?_
  rintro e w6 ⟨rfl, x6, b6⟩
  have P6 := Lib.hid (P5.out.step x6 b6)
  rw [← E.out] at P6
  clear x6 b6 TX P5 c34
  go_wp2_with fail
  go_end0
  exact ⟨rfl, P6.out.wr, P6.out.b2⟩
theorem putV_le {x : Vt} (hl : x.l.length = 32) : (putV x).length = 41 + x.s.length := by
  unfold putV txtN
  simp only [List.length_append, beN_length, hl]
  omega
def erV (x : Vv) : Int := if mayVo x.vt then 0 else 1
def byV (x : Vv) : List Nat := if mayVo x.vt then putV x.vt else []
set_option maxRecDepth 100000 in
set_option maxHeartbeats 1000000 in
theorem vPut_t (x : Vv) (w : World) (h : VvW w x) :
    Calls Tryz.prog 6 #[.agg (vv x).toArray] w fun e w' => ∃ u, e = .returned (.tuple #[u, .int .i64 (erV x)]) ∧ Fresh 5 w w' u (byV x) := by
  have S0 := Lib.hid (VB.new h)
  have FG := Lib.hid (vv_size h.ll)
  unfold erV byV
  obtain ⟨mb, hmb⟩ : ∃ b, mayVo x.vt = b := ⟨_, rfl⟩
  have HM := Lib.hid hmb
  rw [hmb]
  clear h hmb
  have hmf : ∀ (fn : Fn) (first cap : Array Value) (w : World), (Instr.makeFunc fn first cap).run Tryz.prog w = .ok (.func fn first cap) w := fun _ _ _ _ => rfl
  go_enter Tryz.func6, Tryz.ntmps6
  go_upto_region 1 with (fail)
  refine world_at (fun Y => VB w Y x) S0.out ?_
  rintro V s1
  have S1 := Lib.hid s1
  clear s1 S0
  have MT := Lib.hid (vMayPut_t x V S1.out.rx)
  rw [HM.out] at MT
  have GA := Lib.hid S1.out.a
  go_wp2_with ((with_reducible refine load_blk 26 (.tmp 1) w.heap.size 26 (vv x) _ rfl rfl ?_ Tryz.underlying26 ?_ ?_ ?_ ?_); exact GA.out; exact rfl; exact FG.out; exact rfl)
  refine MT.out.mono ?_
  rintro e w1 ⟨rfl, b1⟩
  have S2 := Lib.hid (S1.out.below b1)
  clear S1 MT b1 GA
  cases mb with
  | false =>
    go_wp2_with fail
    go_ret2
    exact ⟨.slice none 0 0, rfl, nil_own _ _, S2.out.bel⟩
  | true =>
    have CALL := Lib.hid (vPut1_t x w w1 _ ⟨Wr.new, (S2.out.a).alloc _, S2.out.a.lt, S2.out.rx, (Below.refl _ _).alloc (Nat.le_refl _) _⟩ HM.out)
    have HLE := Lib.hid (show (putV x.vt).length ≤ 70368744177664 from by
      have h1 := (mayVo_h HM.out).2.2.2.2
      rw [putV_le S2.out.rx.ll]
      have h1 : x.s.length ≤ 9000 := h1
      show 41 + x.s.length ≤ _
      omega)
    have WT := Lib.hid (vWritten_t 19 #[.pointer (some ⟨w.heap.size, 0, none⟩)] (putV x.vt) w1 (enters_of Tryz.func19 (by kernel_rfl) rfl) HLE.out CALL.out)
    clear CALL HLE
    go_wp2_with fail
    refine WT.out.mono ?_
    rintro e w2 ⟨u, rfl, fr⟩
    have FR := Lib.hid (show Fresh 5 w w2 u (putV x.vt) from ⟨own_base fr.1 (fun k hk => Nat.le_trans S2.out.bel.size (fr.1.lt k hk).1), S2.out.bel.trans (fr.2.mono S2.out.bel.size)⟩)
    clear fr WT S2
    go_wp2_with fail
    go_ret2
    exact ⟨u, rfl, FR.out⟩
end Go.Proofs.YtidklgicmhdapaaGreatDoor
