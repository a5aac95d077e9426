/-
  PACKAGE space: bring, replace, look.
-/
import Derived.Test.YtojianpbjckipaaGreatDoorSpL
import Derived.BigQuiet
namespace Go.Proofs.YtojianpbjckipaaGreatDoor
open Go Go.RowKit Sh

theorem ret_blkS {P : Program} {fn : Func} {R : Ending → World → Prop} {a : Act} {w : World} {p u : Tmp} {ty : TypeId} (hr : fn.results = #[.cell p ty, .tmp u]) (hd : a.defers = []) (g : Nat) (t : TypeId) (cs : List Value) (d : TypeDesc)
    (hp : a.tmps.getD p undef = .pointer (some ⟨g, 0, none⟩)) (hg : Blk w g t cs) (hu : P.underlying ty = some d)
    (hdd : (match d with | .struct _ | .array _ _ => true | _ => false) = true) (hi : (P.info? ty).map (·.size) = some cs.length) (v : Value) (hv : a.tmps.getD u undef = v)
    (hR : R (.returned (.tuple #[.agg cs.toArray, v])) w) : bodyPost P fn R .ret a w := by
  have hp' : a.tmps[p]?.getD undef = .pointer (some ⟨g, 0, none⟩) := by simpa using hp
  have hv' : a.tmps[u]?.getD undef = v := by simpa using hv
  refine bodyPost_ret (v := .tuple #[.agg cs.toArray, v]) ?_ hd hR
  simp [results, hr, hp', hv', asAddr, run_loadVar_row w g t ty cs.toArray (0, 0) d hg hu hdd (by simpa using hi)]

/-- Three new blocks. -/
theorem new3 (w : World) (o o' : Obj) (t : TypeId) (cs : List Value) : Blk (((w.alloc o).alloc o').alloc (.cells cs.toArray t)) (w.heap.size + 2) t cs := by
  have h := Blk.new ((w.alloc o).alloc o') t cs
  rw [alloc2_size] at h
  exact h
set_option maxRecDepth 100000 in
set_option maxHeartbeats 2000000 in
theorem bring_t (x : Spv) (r : Rv) (w : World) (hx : SpW w x) :
    Calls Tryz.prog 134 #[.agg (sv x).toArray, .agg (rv r).toArray] w fun e w' => e = .returned (.tuple #[.agg (pv ⟨(bringP x.sp (qp r.r)).1, none, 0⟩).toArray, .bool (bringP x.sp (qp r.r)).2]) ∧ Below w.heap.size w w' := by
  obtain ⟨V, hV⟩ : ∃ V, ((w.alloc (.cells (sv x).toArray 29)).alloc (.cells (rv r).toArray 51)).alloc (.cells #[.int .i64 0, .int .i64 0, .int .i64 0, .slice none 0 0, .bool false] 26) = V := ⟨_, rfl⟩
  have B0 := Lib.hid (show Below w.heap.size w V from by rw [← hV]; exact (((Below.refl _ _).alloc (Nat.le_refl _) _).alloc (by simp) _).alloc (by simp; omega) _)
  have BS := Lib.hid (show Blk V w.heap.size 29 (sv x) from by rw [← hV]; exact ((Blk.new w 29 (sv x)).alloc _).alloc _)
  have BR := Lib.hid (show Blk V (w.heap.size + 1) 51 (rv r) from by rw [← hV]; exact (Blk.new2 w _ 51 (rv r)).alloc _)
  have BZ := Lib.hid (show Blk V (w.heap.size + 2) 26 [.int .i64 0, .int .i64 0, .int .i64 0, .slice none 0 0, .bool false] from by rw [← hV]; exact new3 w _ _ _ _)
  have c1 := (sv_cells BS.out).2.1
  have d0 := (rv_cells BR.out).1
  have OT := Lib.hid (owned_t x r.r.cl V (hx.below B0.out))
  have hb : bringP x.sp (qp r.r) = if 64 ≤ x.its.length ∨ 24 ≤ ownN r.r.cl x.sp.its then (tellP (qp r.r) 5, false) else (tellP (qp r.r) 1, true) := by
    unfold bringP
    rw [show x.sp.its.length = x.its.length from List.length_map _]
    rfl
  rw [hb]
  obtain ⟨ow, how⟩ : ∃ n, ownN r.r.cl x.sp.its = n := ⟨_, rfl⟩
  rw [how] at OT ⊢
  clear how
  have FX := Lib.hid (sv_size x hx.l4)
  obtain ⟨xs, hxs⟩ : ∃ l, sv x = l := ⟨_, rfl⟩
  rw [hxs] at BS OT FX hV ⊢
  clear hx hb hxs
  by_cases h6 : 64 ≤ x.its.length
  · have hi : (64 : Int) ≤ (x.its.length : Int) := by omega
    rw [if_pos (Or.inl h6)]
    go_enter Tryz.func134, Tryz.ntmps134
    go_upto_region 1 with (fail)
    clear hV
    go_upto_region 2 with (fail)
    have TT_ := Lib.hid (tell_t r 5 V)
    have FR := Lib.hid (rv_size r)
    have FY := Lib.hid (pv_size ⟨tellP (qp r.r) 5, none, 0⟩)
    have FA := Lib.hid (pv_oneA ⟨tellP (qp r.r) 5, none, 0⟩)
    go_wp2_with ((with_reducible refine load_blk 51 (.tmp 3) (w.heap.size + 1) 51 (rv r) _ rfl rfl ?_ Tryz.underlying51 ?_ ?_ ?_ ?_); exact BR.out; exact rfl; exact FR.out; exact rfl)
    refine TT_.out.mono ?_
    rintro e wt ⟨rfl, bt⟩
    have Z1 := Lib.hid (BZ.out.below bt BZ.out.lt)
    have RT := Lib.hid (Z1.out.setRow (pv ⟨tellP (qp r.r) 5, none, 0⟩))
    have BT := Lib.hid (below_setRow (g := w.heap.size + 2) (B0.out.trans (bt.mono B0.out.size)) (by omega) (pv ⟨tellP (qp r.r) 5, none, 0⟩).toArray)
    clear bt TT_
    go_wp2_with ((with_reducible refine store_blk 26 (.tmp 4) (.tmp 18) (w.heap.size + 2) 26 [.int .i64 0, .int .i64 0, .int .i64 0, .slice none 0 0, .bool false] (pv ⟨tellP (qp r.r) 5, none, 0⟩) rfl rfl ?_ ?_ ?_ ?_ ?_ ?_ ?_); exact Z1.out; exact rfl; exact FY.out; exact FA.out; exact rfl; exact rfl)
    exact ret_blkS (p := 4) (u := 5) (ty := 26) rfl rfl (w.heap.size + 2) 26 _ _ rfl RT.out Tryz.underlying26 rfl FY.out _ rfl ⟨rfl, BT.out⟩
  · have hi : ¬ (64 : Int) ≤ (x.its.length : Int) := by omega
    by_cases h2 : 24 ≤ ow
    · rw [if_pos (Or.inr h2)]
      have hj : (24 : Int) ≤ (ow : Int) := by omega
      go_enter Tryz.func134, Tryz.ntmps134
      go_upto_region 1 with (fail)
      clear hV
      go_wp2_with ((with_reducible refine load_blk_gdO 11 29 (.tmp 2) w.heap.size 29 xs _ ?_ ?_ rfl ?_ Tryz.underlying29 ?_ ?_ ?_ ?_); exact rfl; kernel_rfl; exact BS.out; exact rfl; exact FX.out; exact rfl)
      refine OT.out.mono ?_
      rintro e w2 ⟨rfl, b2⟩
      have BR2 := Lib.hid (BR.out.below b2 BR.out.lt)
      have BZ2 := Lib.hid (BZ.out.below b2 BZ.out.lt)
      have B2 := Lib.hid (B0.out.trans (b2.mono B0.out.size))
      clear b2 BR BZ B0 OT BS
      go_upto_region 2 with (fail)
      have TT_ := Lib.hid (tell_t r 5 w2)
      have FR := Lib.hid (rv_size r)
      have FY := Lib.hid (pv_size ⟨tellP (qp r.r) 5, none, 0⟩)
      have FA := Lib.hid (pv_oneA ⟨tellP (qp r.r) 5, none, 0⟩)
      go_wp2_with ((with_reducible refine load_blk 51 (.tmp 3) (w.heap.size + 1) 51 (rv r) _ rfl rfl ?_ Tryz.underlying51 ?_ ?_ ?_ ?_); exact BR2.out; exact rfl; exact FR.out; exact rfl)
      refine TT_.out.mono ?_
      rintro e wt ⟨rfl, bt⟩
      have Z1 := Lib.hid (BZ2.out.below bt BZ2.out.lt)
      have RT := Lib.hid (Z1.out.setRow (pv ⟨tellP (qp r.r) 5, none, 0⟩))
      have BT := Lib.hid (below_setRow (g := w.heap.size + 2) (B2.out.trans (bt.mono B2.out.size)) (by omega) (pv ⟨tellP (qp r.r) 5, none, 0⟩).toArray)
      clear bt TT_
      go_wp2_with ((with_reducible refine store_blk 26 (.tmp 4) (.tmp 18) (w.heap.size + 2) 26 [.int .i64 0, .int .i64 0, .int .i64 0, .slice none 0 0, .bool false] (pv ⟨tellP (qp r.r) 5, none, 0⟩) rfl rfl ?_ ?_ ?_ ?_ ?_ ?_ ?_); exact Z1.out; exact rfl; exact FY.out; exact FA.out; exact rfl; exact rfl)
      exact ret_blkS (p := 4) (u := 5) (ty := 26) rfl rfl (w.heap.size + 2) 26 _ _ rfl RT.out Tryz.underlying26 rfl FY.out _ rfl ⟨rfl, BT.out⟩
    · rw [if_neg (not_or.2 ⟨h6, h2⟩)]
      have hj : ¬ (24 : Int) ≤ (ow : Int) := by omega
      go_enter Tryz.func134, Tryz.ntmps134
      go_upto_region 1 with (fail)
      clear hV
      go_wp2_with ((with_reducible refine load_blk_gdO 11 29 (.tmp 2) w.heap.size 29 xs _ ?_ ?_ rfl ?_ Tryz.underlying29 ?_ ?_ ?_ ?_); exact rfl; kernel_rfl; exact BS.out; exact rfl; exact FX.out; exact rfl)
      refine OT.out.mono ?_
      rintro e w2 ⟨rfl, b2⟩
      have BR2 := Lib.hid (BR.out.below b2 BR.out.lt)
      have BZ2 := Lib.hid (BZ.out.below b2 BZ.out.lt)
      have B2 := Lib.hid (B0.out.trans (b2.mono B0.out.size))
      clear b2 BR BZ B0 OT BS
      go_upto_region 3 with (fail)
      have TT_ := Lib.hid (tell_t r 1 w2)
      have FR := Lib.hid (rv_size r)
      have FY := Lib.hid (pv_size ⟨tellP (qp r.r) 1, none, 0⟩)
      have FA := Lib.hid (pv_oneA ⟨tellP (qp r.r) 1, none, 0⟩)
      go_wp2_with ((with_reducible refine load_blk 51 (.tmp 3) (w.heap.size + 1) 51 (rv r) _ rfl rfl ?_ Tryz.underlying51 ?_ ?_ ?_ ?_); exact BR2.out; exact rfl; exact FR.out; exact rfl)
      refine TT_.out.mono ?_
      rintro e wt ⟨rfl, bt⟩
      have Z1 := Lib.hid (BZ2.out.below bt BZ2.out.lt)
      have RT := Lib.hid (Z1.out.setRow (pv ⟨tellP (qp r.r) 1, none, 0⟩))
      have BT := Lib.hid (below_setRow (g := w.heap.size + 2) (B2.out.trans (bt.mono B2.out.size)) (by omega) (pv ⟨tellP (qp r.r) 1, none, 0⟩).toArray)
      clear bt TT_
      go_wp2_with ((with_reducible refine store_blk 26 (.tmp 4) (.tmp 20) (w.heap.size + 2) 26 [.int .i64 0, .int .i64 0, .int .i64 0, .slice none 0 0, .bool false] (pv ⟨tellP (qp r.r) 1, none, 0⟩) rfl rfl ?_ ?_ ?_ ?_ ?_ ?_ ?_); exact Z1.out; exact rfl; exact FY.out; exact FA.out; exact rfl; exact rfl)
      exact ret_blkS (p := 4) (u := 5) (ty := 26) rfl rfl (w.heap.size + 2) 26 _ _ rfl RT.out Tryz.underlying26 rfl FY.out _ rfl ⟨rfl, BT.out⟩
/-- A block of replies is written: a space stays. -/
theorem SM.far {wB W W' : World} {g b : Nat} {x : Spv} {cs : List Value} (h : SM wB W g x) (hb : Blk W b 26 cs) (hne : g ≠ b) (hge : wB.heap.size ≤ b) (hk : Kept (fun k => k = b) W W') : SM wB W' g x := by
  have f : ∀ {B sz n : Nat} {e : TypeId} {v : Value} {xs : List Value}, W.ownsRow B e sz v n xs → e ≠ 26 → W'.ownsRow B e sz v n xs := fun ho he => own_kept ho hk (fun k hk' e' => own_apart ho hb he (by rw [hk', e']))
  exact ⟨h.box.kept hk hne, h.ge, h.bel.trans ⟨hk.os, hk.tape, hk.output, hk.size, fun k hlt => hk.block k (Nat.lt_of_lt_of_le hlt h.bel.size) (by omega)⟩,
    ⟨f h.sf.its (by decide), fun y hy => f (h.sf.it y hy) (by decide), f h.sf.wts (by decide), fun y hy => f (h.sf.wt y hy) (by decide), h.sf.l4, fun y hy => f (h.sf.la y hy) (by decide)⟩⟩
theorem FT.far {W W' : World} {B b c : Nat} {p : Option Addr} {l : List Fld} {cs : List Value} (h : FT W B p c l) (hb : Blk W b 26 cs) (hk : Kept (fun k => k = b) W W') : FT W' B p c l := own_kept h hk (fun k hk' e' => own_apart h hb (by decide) (by rw [hk', e']))
theorem Mv.far {g b : Nat} {x x' : Spv} {W0 W W' : World} (m : Mv g x x' W0 W) (hk : Kept (fun k => k = b) W W') (hb : W0.heap.size ≤ b) : Mv g x x' W0 W' :=
  ⟨⟨hk.os.trans m.kept.os, hk.tape.trans m.kept.tape, hk.output.trans m.kept.output, Nat.le_trans m.kept.size hk.size, fun i hi hf => (hk.block i (Nat.lt_of_lt_of_le hi m.kept.size) (by omega)).trans (m.kept.block i hi hf)⟩, m.grow⟩
theorem But.keptOne {B g : Nat} {w w' : World} (h : But B g w w') (hB : B = w.heap.size) : Kept (fun k => k = g) w w' := ⟨h.os, h.tape, h.output, h.size, fun b h1 h2 => h.block b (by omega) h2⟩
theorem own_erase (c : Int) : ∀ (l : List It) (k : Nat) (y : It), l[k]? = some y → ownN c l = ownN c (l.eraseIdx k) + (if y.own == c then 1 else 0)
  | [], k, y, h => by simp at h
  | z :: l, 0, y, h => by
    obtain rfl : z = y := by simpa using h
    simp [ownN, List.countP_cons]
  | z :: l, k + 1, y, h => by
    have ih := own_erase c l k y (by simpa using h)
    simp only [ownN, List.eraseIdx_cons_succ, List.countP_cons] at ih ⊢
    omega
def optI : Option Nat → Int
  | some k => (k : Int)
  | none => -1
set_option maxRecDepth 100000 in
set_option maxHeartbeats 4000000 in
theorem replace_t (wB : World) (g : Nat) (x : Spv) (r : Rv) (o : Option Nat) (W : World) (h : SM wB W g x) (hs : Small x.sp) (ho : ∀ k, o = some k → k < x.its.length) :
    Calls Tryz.prog 135 #[.pointer (some ⟨g, 0, none⟩), .agg (rv r).toArray, .int .i64 (optI o)] W fun e W' => ∃ (x' : Spv) (y : Rpv), e = .returned (.tuple #[.agg (pv y).toArray, .bool (replP x.sp (qp r.r) o).2.2]) ∧ SM wB W' g x' ∧ Mv g x x' W W' ∧ x'.sp = (replP x.sp (qp r.r) o).1 ∧ y.r = (replP x.sp (qp r.r) o).2.1 ∧ FT W' wB.heap.size y.p y.c y.r.t := by
  obtain ⟨V, hV⟩ : ∃ V, (W.alloc (.cells (rv r).toArray 51)).alloc (.cells #[.int .i64 0, .int .i64 0, .int .i64 0, .slice none 0 0, .bool false] 26) = V := ⟨_, rfl⟩
  have B0 := Lib.hid (show Below W.heap.size W V from by rw [← hV]; exact ((Below.refl _ _).alloc (Nat.le_refl _) _).alloc (by simp) _)
  have BR := Lib.hid (show Blk V W.heap.size 51 (rv r) from by rw [← hV]; exact (Blk.new W 51 (rv r)).alloc _)
  have BZ := Lib.hid (show Blk V (W.heap.size + 1) 26 [.int .i64 0, .int .i64 0, .int .i64 0, .slice none 0 0, .bool false] from by rw [← hV]; exact Blk.new2 W _ _ _)
  have HG := Lib.hid h.box.lt
  have HB := Lib.hid h.bel.size
  cases o with
  | none =>
    have M := Lib.hid h
    clear h hs ho
    show Calls _ _ #[_, _, .int .i64 (-1)] _ _
    go_enter Tryz.func135, Tryz.ntmps135
    go_upto_region 1 with (fail)
    clear hV
    go_upto_region 2 with (fail)
    have TT_ := Lib.hid (tell_t r 3 V)
    have FR := Lib.hid (rv_size r)
    have FY := Lib.hid (pv_size ⟨tellP (qp r.r) 3, none, 0⟩)
    have FA := Lib.hid (pv_oneA ⟨tellP (qp r.r) 3, none, 0⟩)
    go_wp2_with ((with_reducible refine load_blk 51 (.tmp 4) (W.heap.size) 51 (rv r) _ rfl rfl ?_ Tryz.underlying51 ?_ ?_ ?_ ?_); exact BR.out; exact rfl; exact FR.out; exact rfl)
    refine TT_.out.mono ?_
    rintro e wt ⟨rfl, bt⟩
    have Z1 := Lib.hid (BZ.out.below bt BZ.out.lt)
    have RT := Lib.hid (Z1.out.setRow (pv ⟨tellP (qp r.r) 3, none, 0⟩))
    have BT := Lib.hid (below_setRow (g := W.heap.size + 1) (B0.out.trans (bt.mono B0.out.size)) (by omega) (pv ⟨tellP (qp r.r) 3, none, 0⟩).toArray)
    clear bt TT_
    go_wp2_with ((with_reducible refine store_blk 26 (.tmp 6) (.tmp 12) (W.heap.size + 1) 26 [.int .i64 0, .int .i64 0, .int .i64 0, .slice none 0 0, .bool false] (pv ⟨tellP (qp r.r) 3, none, 0⟩) rfl rfl ?_ ?_ ?_ ?_ ?_ ?_ ?_); exact Z1.out; exact rfl; exact FY.out; exact FA.out; exact rfl; exact rfl)
    exact ret_blkS (p := 6) (u := 7) (ty := 26) rfl rfl (W.heap.size + 1) 26 _ _ rfl RT.out Tryz.underlying26 rfl FY.out _ rfl ⟨x, ⟨tellP (qp r.r) 3, none, 0⟩, rfl, M.out.below BT.out, Mv.of_below BT.out, rfl, rfl, FT.nil _ _⟩
  | some k =>
    have hk := ho k rfl
    obtain ⟨y, hy⟩ : ∃ y, x.its[k]? = some y := ⟨_, List.getElem?_eq_getElem hk⟩
    have hn : x.its.length ≤ 1000 := by have := hs.n; rwa [show x.sp.its = x.its.map (·.i) from rfl, List.length_map] at this
    have hys : x.sp.its[k]? = some y.i := by show (x.its.map (·.i))[k]? = _; rw [List.getElem?_map, hy]; rfl
    have er := own_erase r.r.cl x.sp.its k y.i hys
    have hgd : (x.sp.its.getD k i0).t = y.i.t := by rw [List.getD_eq_getElem?_getD, hys]; rfl
    have hP : replP x.sp (qp r.r) (some k) = if 24 ≤ ownN r.r.cl (x.sp.its.eraseIdx k) then (x.sp, tellP (qp r.r) 5, false) else ({ x.sp with its := x.sp.its.eraseIdx k }, giveP (qp r.r) y.i.t, true) := by
      unfold replP
      dsimp only
      rw [hgd]
      rfl
    have hle : ownN r.r.cl x.sp.its ≤ 1000 := Nat.le_trans (ownN_le _ _) hs.n
    have OT := Lib.hid (fun (Y : World) (m : SM wB Y g x) => owned_t x r.r.cl Y (m.sf.w hs))
    obtain ⟨ow, how⟩ : ∃ n, ownN r.r.cl x.sp.its = n := ⟨_, rfl⟩
    obtain ⟨oe, hoe⟩ : ∃ n, ownN r.r.cl (x.sp.its.eraseIdx k) = n := ⟨_, rfl⟩
    rw [how] at OT er hle
    rw [hoe] at er hP
    have HP := Lib.hid hP; have ER := Lib.hid er
    have FX := Lib.hid (sv_size x h.sf.l4)
    have M := Lib.hid h; have HY := Lib.hid hy; have HN := Lib.hid hn
    obtain ⟨gi, hgi, _, hgl, hgc, _⟩ := own_block h.sf.its (by omega)
    have ci0 : W.cell? ⟨gi, k * 3, none⟩ = some (.int .i64 y.i.own) := (hgc (k * 3) (by omega)).trans (flat_get iv_len x.its k 0 y hy (by omega))
    have MV := Lib.hid (h.below B0.out)
    have HGI := Lib.hid hgi
    have HX := Lib.hid hgl
    have k2 : (k : Int) < (x.its.length : Int) := by omega
    have nB : (x.its.length : Int) ≤ 9223372036854775807 := by omega
    have c1 := (sv_cells h.box).2.1
    rw [hgi] at c1
    clear h hs ho hys hP hgd how hoe hgc hy hn hk hgl er
    show Calls _ _ #[_, _, .int .i64 (k : Int)] _ _
    go_enter Tryz.func135, Tryz.ntmps135
    go_upto_region 1 with (fail)
    clear hV
    go_upto_region 3 with (fail)
    obtain ⟨U, hU⟩ : ∃ U, V.drew = U := ⟨_, rfl⟩
    have BU := Lib.hid (show Below V.heap.size V U from by rw [← hU]; exact (Below.refl _ _).drew)
    have OU := Lib.hid (OT.out U (MV.out.below BU.out))
    have G1 : Blk U g 29 (sv x) ∧ Blk U W.heap.size 51 (rv r) := ⟨(MV.out.below BU.out).box, BR.out.below BU.out BR.out.lt⟩
    refine wp_region_held (S := fun Y => Blk Y g 29 (sv x) ∧ Blk Y W.heap.size 51 (rv r)) (by kernel_rfl) ?_
    change wpAnyH _ _ _ _ _ _ _ _ V.drew
    rw [hU]
    clear hU
    refine wpAnyH_take (i := 0) (v := ?_) rfl (by kernel_rfl) (by kernel_rfl) (by kernel_rfl) (fun _ _ _ h => h) (Or.inl ⟨by kernel_rfl, ?_⟩) G1 ?_
    rotate_left 1
    · (intro w hS; clear hS; go_simp; try (with_reducible rfl))
    refine wpAnyH_take (i := 1) (v := ?_) rfl (by kernel_rfl) (by kernel_rfl) (by kernel_rfl) (fun _ _ _ h => h) (Or.inl ⟨by kernel_rfl, ?_⟩) G1 ?_
    rotate_left 1
    · (intro w hS; clear hS; go_simp; try (with_reducible rfl))
    refine wpAnyH_take (i := 2) (v := .agg (sv x).toArray) rfl (by kernel_rfl) (by kernel_rfl) (by kernel_rfl) (fun _ _ _ h => h) (yieldsIf_load_mid (by kernel_rfl) 29 (.tmp 14) rfl g 0 (by go_simp) (sv x) _ (fun _ h => rows_of_blk h.1) Tryz.underlying29 rfl (FX.out)) G1 ?_
    refine wpAnyH_take (i := 3) (v := ?_) rfl (by kernel_rfl) (by kernel_rfl) (by kernel_rfl) (fun _ _ _ h => h) (Or.inl ⟨by kernel_rfl, ?_⟩) G1 ?_
    rotate_left 1
    · (intro w hS; clear hS; go_simp; try (with_reducible rfl))
    refine wpAnyH_take (i := 4) (v := ?_) rfl (by kernel_rfl) (by kernel_rfl) (by kernel_rfl) (fun _ _ _ h => h) (Or.inl ⟨by kernel_rfl, ?_⟩) G1 ?_
    rotate_left 1
    · (intro w hS; have hs := (rv_cells hS.2).1; clear hS; go_simp; try (with_reducible rfl))
    refine wpAnyH_ready (rs := [5]) (by kernel_rfl) (by simp) ?_
    refine AllReadyH.cons rfl (fun K hK => ?_) AllReadyH.nil
    go_simp
    refine OU.out.mono ?_
    rintro e w2 ⟨rfl, b2⟩
    have G2 : Blk w2 g 29 (sv x) ∧ Blk w2 W.heap.size 51 (rv r) := ⟨G1.1.below b2 G1.1.lt, G1.2.below b2 G1.2.lt⟩
    have B2 := Lib.hid (B0.out.trans ((BU.out.trans (b2.mono BU.out.size)).mono B0.out.size))
    have Z2 := Lib.hid ((BZ.out.below BU.out BZ.out.lt).below b2 (Nat.lt_of_lt_of_le BZ.out.lt BU.out.size))
    refine hK.out _ _ G2 (fun _ => ?_)
    clear hK K b2 G1 BZ BR B0 BU OU MV OT
    refine wpAnyH_take (i := 6) (v := ?_) rfl (by kernel_rfl) (by kernel_rfl) (by kernel_rfl) (fun _ _ _ h => h) (Or.inl ⟨by kernel_rfl, ?_⟩) G2 ?_
    rotate_left 1
    · (intro w hS; clear hS; go_simp; try (with_reducible rfl))
    refine wpAnyH_done (by kernel_rfl) ?_ _
    go_simp
    have R2 := Lib.hid G2.2
    have c1' := (B2.out.cell (p := ⟨g, 1, none⟩) HG.out).trans c1
    have ci0' := (B2.out.cell (p := ⟨gi, k * 3, none⟩) HX.out).trans ci0
    have d0 := (rv_cells G2.2).1
    clear G2 c1 ci0
    go_upto_region 4 with (fail)
    go_quiet (fail)
    obtain ⟨U3, hU3⟩ : ∃ U, w2.drewN nq = U := ⟨_, rfl⟩
    have BU3 : Below w2.heap.size w2 U3 := by rw [← hU3]; exact ⟨rfl, rfl, rfl, Nat.le_refl _, fun _ _ => rfl⟩
    have B3 := Lib.hid (B2.out.trans (BU3.mono B2.out.size))
    have R3 := Lib.hid (R2.out.below BU3 R2.out.lt)
    have Z3 := Lib.hid (Z2.out.below BU3 Z2.out.lt)
    rw [hU3]
    clear hU3 BU3 R2 Z2 B2 c1' ci0' d0
    cases eo : (y.i.own == r.r.cl) with
    | true =>
      have k1 : IntKind.i64.wrap ((ow : Int) - 1) = (oe : Int) := by
        have er := ER.out
        rw [eo, if_pos rfl] at er
        rw [IntWalk.i64_in _ (by omega)]
        omega
      have hq := HP.out
      by_cases h24 : 24 ≤ oe
      · have hj : (24 : Int) ≤ (oe : Int) := by omega
        rw [if_pos h24] at hq
        have HQ := Lib.hid hq
        clear hq
        go_upto_region 7 with (fail)
        have TT_ := Lib.hid (tell_t r 5 U3)
        have FR := Lib.hid (rv_size r)
        have FY := Lib.hid (pv_size ⟨tellP (qp r.r) 5, none, 0⟩)
        have FA := Lib.hid (pv_oneA ⟨tellP (qp r.r) 5, none, 0⟩)
        go_wp2_with ((with_reducible refine load_blk 51 (.tmp 4) (W.heap.size) 51 (rv r) _ rfl rfl ?_ Tryz.underlying51 ?_ ?_ ?_ ?_); exact R3.out; exact rfl; exact FR.out; exact rfl)
        refine TT_.out.mono ?_
        rintro e wt ⟨rfl, bt⟩
        have Z1 := Lib.hid (Z3.out.below bt Z3.out.lt)
        have RT := Lib.hid (Z1.out.setRow (pv ⟨tellP (qp r.r) 5, none, 0⟩))
        have BT := Lib.hid (below_setRow (g := W.heap.size + 1) (B3.out.trans (bt.mono B3.out.size)) (by omega) (pv ⟨tellP (qp r.r) 5, none, 0⟩).toArray)
        clear bt TT_
        go_wp2_with ((with_reducible refine store_blk 26 (.tmp 6) (.tmp 35) (W.heap.size + 1) 26 [.int .i64 0, .int .i64 0, .int .i64 0, .slice none 0 0, .bool false] (pv ⟨tellP (qp r.r) 5, none, 0⟩) rfl rfl ?_ ?_ ?_ ?_ ?_ ?_ ?_); exact Z1.out; exact rfl; exact FY.out; exact FA.out; exact rfl; exact rfl)
        exact ret_blkS (p := 6) (u := 7) (ty := 26) rfl rfl (W.heap.size + 1) 26 _ _ rfl RT.out Tryz.underlying26 rfl FY.out _ rfl ⟨x, ⟨tellP (qp r.r) 5, none, 0⟩, (by rw [HQ.out]; rfl), M.out.below BT.out, Mv.of_below BT.out, by rw [HQ.out], by rw [HQ.out], FT.nil _ _⟩
      · have hj : ¬ (24 : Int) ≤ (oe : Int) := by omega
        rw [if_neg h24] at hq
        have HQ := Lib.hid hq
        clear hq
        go_upto_region 8 with (fail)
        obtain ⟨U4, hU4⟩ : ∃ U, (U3).drew = U := ⟨_, rfl⟩
        have BU4 : Below (U3).heap.size U3 U4 := by rw [← hU4]; exact (Below.refl _ _).drew
        have R4 : Blk U4 W.heap.size 51 (rv r) := R3.out.below BU4 R3.out.lt
        have Z4 := Lib.hid (Z3.out.below BU4 Z3.out.lt)
        have B4 := Lib.hid (B3.out.trans (BU4.mono B3.out.size))
        have M4 := Lib.hid (M.out.below B4.out)
        have TK := Lib.hid (take_t wB g x k y U4 M4.out HN.out HY.out)
        have FR := Lib.hid (rv_size r)
        refine wp_region_held (S := fun Y => Blk Y W.heap.size 51 (rv r)) (by kernel_rfl) ?_
        change wpAnyH _ _ _ _ _ _ _ _ (U3).drew
        rw [hU4]
        clear hU4 BU4
        refine wpAnyH_take (i := 0) (v := .agg (rv r).toArray) rfl (by kernel_rfl) (by kernel_rfl) (by kernel_rfl) (fun _ _ _ h => h) (yieldsIf_load_mid (by kernel_rfl) 51 (.tmp 4) rfl W.heap.size 0 (by go_simp) (rv r) _ (fun _ h => rows_of_blk h) Tryz.underlying51 rfl (FR.out)) R4 ?_
        refine wpAnyH_take (i := 1) (v := ?_) rfl (by kernel_rfl) (by kernel_rfl) (by kernel_rfl) (fun _ _ _ h => h) (Or.inl ⟨by kernel_rfl, ?_⟩) R4 ?_
        rotate_left 1
        · (intro w hS; clear hS; go_simp; try (with_reducible rfl))
        refine wpAnyH_take (i := 2) (v := ?_) rfl (by kernel_rfl) (by kernel_rfl) (by kernel_rfl) (fun _ _ _ h => h) (Or.inl ⟨by kernel_rfl, ?_⟩) R4 ?_
        rotate_left 1
        · (intro w hS; clear hS; go_simp; try (with_reducible rfl))
        refine wpAnyH_ready (rs := [3]) (by kernel_rfl) (by simp) ?_
        refine AllReadyH.cons rfl (fun K hK => ?_) AllReadyH.nil
        go_simp
        refine TK.out.mono ?_
        rintro e w5 ⟨rfl, x', m5, v5, s5, f5⟩
        have R5 : Blk w5 W.heap.size 51 (rv r) := v5.blk M4.out R4 (by decide) (by decide) (by have := HG.out; omega)
        have Z5 := Lib.hid (v5.blk M4.out Z4.out (by decide) (by decide) (by have := HG.out; omega))
        have M5 := Lib.hid m5; have V5 := Lib.hid ((Mv.of_below B4.out).trans v5); have S5 := Lib.hid s5; have F5 := Lib.hid f5
        have GV := Lib.hid (give_t r y.i.t y.p y.c w5)
        refine hK.out _ _ R5 (fun _ => ?_)
        clear hK K m5 v5 s5 f5 TK R4 Z4 M4
        refine wpAnyH_ready (rs := [4]) (by kernel_rfl) (by simp) ?_
        refine AllReadyH.cons rfl (fun K hK => ?_) AllReadyH.nil
        go_simp
        refine GV.out.mono ?_
        rintro e w6 ⟨rfl, b6⟩
        have R6 : Blk w6 W.heap.size 51 (rv r) := R5.below b6 R5.lt
        have Z6 := Lib.hid (Z5.out.below b6 Z5.out.lt)
        have M6 := Lib.hid (M5.out.below b6)
        have V6 := Lib.hid (V5.out.trans (Mv.of_below (x := x') (g := g) b6))
        have F6 := Lib.hid (F5.out.below b6)
        refine hK.out _ _ R6 (fun _ => ?_)
        clear hK K b6 GV R5 Z5 M5 V5 F5
        refine wpAnyH_ready (rs := [5]) (by kernel_rfl) (by simp) ?_
        refine AllReadyH.cons rfl (fun K hK => ?_) AllReadyH.nil
        rw [if_pos (by kernel_rfl)]
        refine wstore_part 26 (.tmp 6) (.tmp 40) (W.heap.size + 1) 0 26 [] [.int .i64 0, .int .i64 0, .int .i64 0, .slice none 0 0, .bool false] [] (pv ⟨giveP (qp r.r) y.i.t, y.p, y.c⟩) rfl (by rw [List.nil_append, List.append_nil]; exact Z6.out) rfl rfl (pv_size _) (pv_oneA _) rfl rfl ?_
        intro w7 a1 a2 a3
        have Z7 := Lib.hid (show Blk w7 (W.heap.size + 1) 26 (pv ⟨giveP (qp r.r) y.i.t, y.p, y.c⟩) by have := a1.out; rwa [List.nil_append, List.append_nil] at this)
        have K7 := a2.out.keptOne rfl
        have G7 : Blk w7 W.heap.size 51 (rv r) := R6.kept K7 (by omega)
        have M7 := Lib.hid (M6.out.far Z6.out (by have := HG.out; omega) (by have := HB.out; omega) K7)
        have V7 := Lib.hid (V6.out.far K7 (by omega))
        have F7 := Lib.hid (F6.out.far Z6.out K7)
        refine hK.out _ _ G7 (fun _ => ?_)
        clear hK K a1 a2 a3 K7 R6 Z6 M6 V6 F6
        refine wpAnyH_take (i := 6) (v := ?_) rfl (by kernel_rfl) (by kernel_rfl) (by kernel_rfl) (fun _ _ _ h => h) (Or.inl ⟨by kernel_rfl, ?_⟩) G7 ?_
        rotate_left 1
        · (intro w hS; clear hS; go_simp; try (with_reducible rfl))
        refine wpAnyH_done (by kernel_rfl) ?_ _
        go_simp
        go_wp2_with fail
        exact ret_blkS (p := 6) (u := 7) (ty := 26) rfl rfl (W.heap.size + 1) 26 _ _ rfl Z7.out Tryz.underlying26 rfl (pv_size ⟨giveP (qp r.r) y.i.t, y.p, y.c⟩) _ rfl ⟨x', ⟨giveP (qp r.r) y.i.t, y.p, y.c⟩, (by rw [HQ.out]; rfl), M7.out, V7.out, by rw [HQ.out]; exact S5.out, by rw [HQ.out], F7.out⟩
    | false =>
      have er := ER.out
      rw [eo, if_neg (by decide), Nat.add_zero] at er
      obtain rfl : oe = ow := er.symm
      have hq := HP.out
      by_cases h24 : 24 ≤ oe
      · have hj : (24 : Int) ≤ (oe : Int) := by omega
        rw [if_pos h24] at hq
        have HQ := Lib.hid hq
        clear hq
        go_upto_region 7 with (fail)
        have TT_ := Lib.hid (tell_t r 5 U3)
        have FR := Lib.hid (rv_size r)
        have FY := Lib.hid (pv_size ⟨tellP (qp r.r) 5, none, 0⟩)
        have FA := Lib.hid (pv_oneA ⟨tellP (qp r.r) 5, none, 0⟩)
        go_wp2_with ((with_reducible refine load_blk 51 (.tmp 4) (W.heap.size) 51 (rv r) _ rfl rfl ?_ Tryz.underlying51 ?_ ?_ ?_ ?_); exact R3.out; exact rfl; exact FR.out; exact rfl)
        refine TT_.out.mono ?_
        rintro e wt ⟨rfl, bt⟩
        have Z1 := Lib.hid (Z3.out.below bt Z3.out.lt)
        have RT := Lib.hid (Z1.out.setRow (pv ⟨tellP (qp r.r) 5, none, 0⟩))
        have BT := Lib.hid (below_setRow (g := W.heap.size + 1) (B3.out.trans (bt.mono B3.out.size)) (by omega) (pv ⟨tellP (qp r.r) 5, none, 0⟩).toArray)
        clear bt TT_
        go_wp2_with ((with_reducible refine store_blk 26 (.tmp 6) (.tmp 35) (W.heap.size + 1) 26 [.int .i64 0, .int .i64 0, .int .i64 0, .slice none 0 0, .bool false] (pv ⟨tellP (qp r.r) 5, none, 0⟩) rfl rfl ?_ ?_ ?_ ?_ ?_ ?_ ?_); exact Z1.out; exact rfl; exact FY.out; exact FA.out; exact rfl; exact rfl)
        exact ret_blkS (p := 6) (u := 7) (ty := 26) rfl rfl (W.heap.size + 1) 26 _ _ rfl RT.out Tryz.underlying26 rfl FY.out _ rfl ⟨x, ⟨tellP (qp r.r) 5, none, 0⟩, (by rw [HQ.out]; rfl), M.out.below BT.out, Mv.of_below BT.out, by rw [HQ.out], by rw [HQ.out], FT.nil _ _⟩
      · have hj : ¬ (24 : Int) ≤ (oe : Int) := by omega
        rw [if_neg h24] at hq
        have HQ := Lib.hid hq
        clear hq
        go_upto_region 8 with (fail)
        obtain ⟨U4, hU4⟩ : ∃ U, (U3).drew = U := ⟨_, rfl⟩
        have BU4 : Below (U3).heap.size U3 U4 := by rw [← hU4]; exact (Below.refl _ _).drew
        have R4 : Blk U4 W.heap.size 51 (rv r) := R3.out.below BU4 R3.out.lt
        have Z4 := Lib.hid (Z3.out.below BU4 Z3.out.lt)
        have B4 := Lib.hid (B3.out.trans (BU4.mono B3.out.size))
        have M4 := Lib.hid (M.out.below B4.out)
        have TK := Lib.hid (take_t wB g x k y U4 M4.out HN.out HY.out)
        have FR := Lib.hid (rv_size r)
        refine wp_region_held (S := fun Y => Blk Y W.heap.size 51 (rv r)) (by kernel_rfl) ?_
        change wpAnyH _ _ _ _ _ _ _ _ (U3).drew
        rw [hU4]
        clear hU4 BU4
        refine wpAnyH_take (i := 0) (v := .agg (rv r).toArray) rfl (by kernel_rfl) (by kernel_rfl) (by kernel_rfl) (fun _ _ _ h => h) (yieldsIf_load_mid (by kernel_rfl) 51 (.tmp 4) rfl W.heap.size 0 (by go_simp) (rv r) _ (fun _ h => rows_of_blk h) Tryz.underlying51 rfl (FR.out)) R4 ?_
        refine wpAnyH_take (i := 1) (v := ?_) rfl (by kernel_rfl) (by kernel_rfl) (by kernel_rfl) (fun _ _ _ h => h) (Or.inl ⟨by kernel_rfl, ?_⟩) R4 ?_
        rotate_left 1
        · (intro w hS; clear hS; go_simp; try (with_reducible rfl))
        refine wpAnyH_take (i := 2) (v := ?_) rfl (by kernel_rfl) (by kernel_rfl) (by kernel_rfl) (fun _ _ _ h => h) (Or.inl ⟨by kernel_rfl, ?_⟩) R4 ?_
        rotate_left 1
        · (intro w hS; clear hS; go_simp; try (with_reducible rfl))
        refine wpAnyH_ready (rs := [3]) (by kernel_rfl) (by simp) ?_
        refine AllReadyH.cons rfl (fun K hK => ?_) AllReadyH.nil
        go_simp
        refine TK.out.mono ?_
        rintro e w5 ⟨rfl, x', m5, v5, s5, f5⟩
        have R5 : Blk w5 W.heap.size 51 (rv r) := v5.blk M4.out R4 (by decide) (by decide) (by have := HG.out; omega)
        have Z5 := Lib.hid (v5.blk M4.out Z4.out (by decide) (by decide) (by have := HG.out; omega))
        have M5 := Lib.hid m5; have V5 := Lib.hid ((Mv.of_below B4.out).trans v5); have S5 := Lib.hid s5; have F5 := Lib.hid f5
        have GV := Lib.hid (give_t r y.i.t y.p y.c w5)
        refine hK.out _ _ R5 (fun _ => ?_)
        clear hK K m5 v5 s5 f5 TK R4 Z4 M4
        refine wpAnyH_ready (rs := [4]) (by kernel_rfl) (by simp) ?_
        refine AllReadyH.cons rfl (fun K hK => ?_) AllReadyH.nil
        go_simp
        refine GV.out.mono ?_
        rintro e w6 ⟨rfl, b6⟩
        have R6 : Blk w6 W.heap.size 51 (rv r) := R5.below b6 R5.lt
        have Z6 := Lib.hid (Z5.out.below b6 Z5.out.lt)
        have M6 := Lib.hid (M5.out.below b6)
        have V6 := Lib.hid (V5.out.trans (Mv.of_below (x := x') (g := g) b6))
        have F6 := Lib.hid (F5.out.below b6)
        refine hK.out _ _ R6 (fun _ => ?_)
        clear hK K b6 GV R5 Z5 M5 V5 F5
        refine wpAnyH_ready (rs := [5]) (by kernel_rfl) (by simp) ?_
        refine AllReadyH.cons rfl (fun K hK => ?_) AllReadyH.nil
        rw [if_pos (by kernel_rfl)]
        refine wstore_part 26 (.tmp 6) (.tmp 40) (W.heap.size + 1) 0 26 [] [.int .i64 0, .int .i64 0, .int .i64 0, .slice none 0 0, .bool false] [] (pv ⟨giveP (qp r.r) y.i.t, y.p, y.c⟩) rfl (by rw [List.nil_append, List.append_nil]; exact Z6.out) rfl rfl (pv_size _) (pv_oneA _) rfl rfl ?_
        intro w7 a1 a2 a3
        have Z7 := Lib.hid (show Blk w7 (W.heap.size + 1) 26 (pv ⟨giveP (qp r.r) y.i.t, y.p, y.c⟩) by have := a1.out; rwa [List.nil_append, List.append_nil] at this)
        have K7 := a2.out.keptOne rfl
        have G7 : Blk w7 W.heap.size 51 (rv r) := R6.kept K7 (by omega)
        have M7 := Lib.hid (M6.out.far Z6.out (by have := HG.out; omega) (by have := HB.out; omega) K7)
        have V7 := Lib.hid (V6.out.far K7 (by omega))
        have F7 := Lib.hid (F6.out.far Z6.out K7)
        refine hK.out _ _ G7 (fun _ => ?_)
        clear hK K a1 a2 a3 K7 R6 Z6 M6 V6 F6
        refine wpAnyH_take (i := 6) (v := ?_) rfl (by kernel_rfl) (by kernel_rfl) (by kernel_rfl) (fun _ _ _ h => h) (Or.inl ⟨by kernel_rfl, ?_⟩) G7 ?_
        rotate_left 1
        · (intro w hS; clear hS; go_simp; try (with_reducible rfl))
        refine wpAnyH_done (by kernel_rfl) ?_ _
        go_simp
        go_wp2_with fail
        exact ret_blkS (p := 6) (u := 7) (ty := 26) rfl rfl (W.heap.size + 1) 26 _ _ rfl Z7.out Tryz.underlying26 rfl (pv_size ⟨giveP (qp r.r) y.i.t, y.p, y.c⟩) _ rfl ⟨x', ⟨giveP (qp r.r) y.i.t, y.p, y.c⟩, (by rw [HQ.out]; rfl), M7.out, V7.out, by rw [HQ.out]; exact S5.out, by rw [HQ.out], F7.out⟩
end Go.Proofs.YtojianpbjckipaaGreatDoor
