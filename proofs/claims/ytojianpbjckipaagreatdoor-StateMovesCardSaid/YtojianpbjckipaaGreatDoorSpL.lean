/-
  PACKAGE space: a space that is worked on; goOn, take, note.
-/
import Derived.Test.YtojianpbjckipaaGreatDoorSpK
namespace Go.Proofs.YtojianpbjckipaaGreatDoor
open Go Go.RowKit Sh

/-- What is worked on: the space's own block, its items' row, its waiters' row. -/
def FF (x : Spv) (g k : Nat) : Prop := k = g ∨ OB x.ip k ∨ OB x.wp k
/-- A space that is worked on, in the block g. -/
structure SM (wB W : World) (g : Nat) (x : Spv) : Prop where
  box : Blk W g 29 (sv x)
  ge : wB.heap.size ≤ g
  bel : Below wB.heap.size wB W
  sf : SF wB.heap.size W x
/-- A step of the work. -/
structure Mv (g : Nat) (x x' : Spv) (W W' : World) : Prop where
  kept : Kept (FF x g) W W'
  grow : ∀ k, FF x' g k → FF x g k ∨ W.heap.size ≤ k
theorem OB.own {q : Option Addr} {k n c : Nat} (h : OB q k) : Value.ownBlock (.slice q n c) = some k := by
  obtain ⟨a, rfl, rfl⟩ := h
  rfl
theorem SM.below {wB W W' : World} {g : Nat} {x : Spv} (h : SM wB W g x) (hb : Below W.heap.size W W') : SM wB W' g x :=
  ⟨h.box.below hb h.box.lt, h.ge, h.bel.trans (hb.mono h.bel.size), h.sf.below hb⟩
theorem Mv.of_below {g : Nat} {x : Spv} {W W' : World} (hb : Below W.heap.size W W') : Mv g x x W W' := ⟨Kept.of_below hb, fun _ h => .inl h⟩
theorem Mv.trans {g : Nat} {x y z : Spv} {a b c : World} (h : Mv g x y a b) (k : Mv g y z b c) : Mv g x z a c := by
  refine ⟨⟨k.kept.os.trans h.kept.os, k.kept.tape.trans h.kept.tape, k.kept.output.trans h.kept.output, Nat.le_trans h.kept.size k.kept.size, fun i hi hf => ?_⟩, fun i hi => ?_⟩
  · refine (k.kept.block i (Nat.lt_of_lt_of_le hi h.kept.size) fun hy => ?_).trans (h.kept.block i hi hf)
    rcases h.grow i hy with h1 | h1
    · exact hf h1
    · omega
  · rcases k.grow i hi with h1 | h1
    · exact h.grow i h1
    · exact .inr (Nat.le_trans h.kept.size h1)
theorem SM.not {wB W : World} {g b : Nat} {x : Spv} {T : TypeId} {cs : List Value} (h : SM wB W g x) (hb : Blk W b T cs) (h1 : T ≠ 62) (h2 : T ≠ 64) (hne : b ≠ g) : ¬ FF x g b := fun hf => by
  rcases hf with e | e | e
  · exact hne e
  · exact own_apart h.sf.its hb (Ne.symm h1) e.own
  · exact own_apart h.sf.wts hb (Ne.symm h2) e.own
theorem SM.notF {wB W : World} {g : Nat} {x : Spv} {B c : Nat} {p : Option Addr} {l : List Fld} (h : SM wB W g x) (hf : FT W B p c l) : ∀ k, Value.ownBlock (.slice p l.length c) = some k → ¬ FF x g k := fun k hk e => by
  rcases e with e | e | e
  · exact own_apart hf h.box (by decide) (by rw [hk, e])
  · exact own_two h.sf.its hf (by decide) e.own hk
  · exact own_two h.sf.wts hf (by decide) e.own hk
theorem Mv.blk {wB W W' : World} {g b : Nat} {x x' : Spv} {T : TypeId} {cs : List Value} (m : Mv g x x' W W') (h : SM wB W g x) (hb : Blk W b T cs) (h1 : T ≠ 62) (h2 : T ≠ 64) (hne : b ≠ g) : Blk W' b T cs := hb.kept m.kept (h.not hb h1 h2 hne)
theorem Mv.ft {wB W W' : World} {g : Nat} {x x' : Spv} {B c : Nat} {p : Option Addr} {l : List Fld} (m : Mv g x x' W W') (h : SM wB W g x) (hf : FT W B p c l) : FT W' B p c l := own_kept hf m.kept (h.notF hf)
theorem SM.apartI {wB W : World} {g : Nat} {x : Spv} (h : SM wB W g x) : ¬ OB x.ip g := fun e => own_apart h.sf.its h.box (by decide) e.own
theorem SM.apartW {wB W : World} {g : Nat} {x : Spv} (h : SM wB W g x) : ¬ OB x.wp g := fun e => own_apart h.sf.wts h.box (by decide) e.own
/-- A cell of the space's own block is written: its rows stay. -/
theorem SF.set {B g i : Nat} {W : World} {x : Spv} {cs : List Value} (h : SF B W x) (hg : Blk W g 29 cs) (u : Value) : SF B (W.setCell ⟨g, i, none⟩ u) x := h.kept ((Kept.refl (fun b => b = g) W).setCell (p := ⟨g, i, none⟩) (.inl rfl) u) hg
theorem SM.now {wB W : World} {g : Nat} {x : Spv} (h : SM wB W g x) (n : Int) : SM wB (W.setCell ⟨g, 0, none⟩ (.int .i64 n)) g { x with now := n } ∧ Mv g x { x with now := n } W (W.setCell ⟨g, 0, none⟩ (.int .i64 n)) := by
  have hf := h.sf.set (i := 0) h.box (.int .i64 n)
  exact ⟨⟨h.box.store 0 _, h.ge, h.bel.setCell (p := ⟨g, 0, none⟩) h.ge _, ⟨hf.its, hf.it, hf.wts, hf.wt, hf.l4, hf.la⟩⟩, ⟨(Kept.refl (FF x g) W).setCell (p := ⟨g, 0, none⟩) (.inl (.inl rfl)) _, fun _ e => .inl e⟩⟩
/-- The items' row was worked on, then its head is written. -/
theorem SM.items {wB W W1 : World} {g : Nat} {x : Spv} (h : SM wB W g x) (l : List Itv) (q : Option Addr) (c : Nat) (hk : Kept (OB x.ip) W W1) (hq : ∀ k, OB q k → OB x.ip k ∨ W.heap.size ≤ k) (ho : W1.ownsRow wB.heap.size 62 3 (.slice q l.length c) l.length (l.flatMap iv)) (ht : ∀ y ∈ l, FT W1 wB.heap.size y.p y.c y.i.t) :
    SM wB (W1.setCell ⟨g, 1, none⟩ (.slice q l.length c)) g { x with its := l, ip := q, ic := c } ∧ Mv g x { x with its := l, ip := q, ic := c } W (W1.setCell ⟨g, 1, none⟩ (.slice q l.length c)) := by
  have hb : Blk W1 g 29 (sv x) := h.box.kept hk h.apartI
  have kF : ∀ {p c l}, FT W wB.heap.size p c l → FT W1 wB.heap.size p c l := fun hf => own_kept hf hk (fun k hk' e => own_two h.sf.its hf (by decide) e.own hk')
  have hs : SF wB.heap.size W1 { x with its := l, ip := q, ic := c } :=
    ⟨ho, ht, own_kept h.sf.wts hk (fun k hk' e => own_two h.sf.its h.sf.wts (by decide) e.own hk'), fun y hy => kF (h.sf.wt y hy), h.sf.l4, fun y hy => kF (h.sf.la y hy)⟩
  have hbel : Below wB.heap.size wB W1 := by
    refine h.bel.trans ⟨hk.os, hk.tape, hk.output, hk.size, fun k hlt => hk.block k (Nat.lt_of_lt_of_le hlt h.bel.size) fun e => ?_⟩
    have := (h.sf.its.lt k e.own).1
    omega
  refine ⟨⟨hb.store 1 _, h.ge, hbel.setCell (p := ⟨g, 1, none⟩) h.ge _, hs.set (i := 1) hb _⟩, ⟨(hk.mono fun k e => .inr (.inl e)).trans ((Kept.refl (FF x g) W1).setCell (p := ⟨g, 1, none⟩) (.inl (.inl rfl)) _), fun k e => ?_⟩⟩
  rcases e with e | e | e
  · exact .inl (.inl e)
  · rcases hq k e with e' | e'
    · exact .inl (.inr (.inl e'))
    · exact .inr e'
  · exact .inl (.inr (.inr e))
theorem goOn1_t (cb : Nat) (now : Int) (x : Itv) (W : World) (hc : W.cell? ⟨cb, 0, none⟩ = some (.int .i64 now)) (hl : cb < W.heap.size) :
    Calls Tryz.prog 101 #[.agg (iv x).toArray, .pointer (some ⟨cb, 0, none⟩)] W fun e W' => e = .returned (.bool (gone now x.i)) ∧ Below W.heap.size W W' := by
  have B0 := Lib.hid (Blk.new W 62 (iv x))
  have BW := Lib.hid ((Below.refl W.heap.size W).alloc (Nat.le_refl _) (.cells (iv x).toArray 62))
  have c0 := (BW.out.cell (p := ⟨cb, 0, none⟩) hl).trans hc
  have d1 := (iv_cells B0.out).2.1
  have hf : gone now x.i = ((x.i.un != 0) && decide (x.i.un ≤ now)) := rfl
  rw [hf]
  obtain ⟨un, hun⟩ : ∃ n, x.i.un = n := ⟨_, rfl⟩
  rw [hun] at d1 ⊢
  clear hun
  obtain ⟨xs, hx⟩ : ∃ l, iv x = l := ⟨_, rfl⟩
  rw [hx] at B0 BW c0 d1 ⊢
  clear hx hc hl B0 hf
  by_cases h0 : un = 0
  · subst h0
    go_enter Tryz.func101, Tryz.ntmps101
    go_wp2_with fail
    go_ret
    exact ⟨rfl, BW.out⟩
  · have e1 : (un != 0) = true := by rw [bne_iff_ne]; exact h0
    rw [e1]
    go_enter Tryz.func101, Tryz.ntmps101
    go_wp2_with fail
    go_ret
    exact ⟨by simp, BW.out⟩
set_option maxRecDepth 100000 in
set_option maxHeartbeats 1000000 in
theorem goOn_t (wB : World) (g : Nat) (x : Spv) (now : Int) (W : World) (h : SM wB W g x) (hn : x.its.length ≤ 1000) :
    Calls Tryz.prog 61 #[.pointer (some ⟨g, 0, none⟩), .int .i64 now] W fun e W' => e = .returned (.tuple #[]) ∧ ∃ x', SM wB W' g x' ∧ Mv g x x' W W' ∧ x'.sp = goOnP x.sp now := by
  obtain ⟨V, hV⟩ : ∃ V, W.alloc (.cells #[.int .i64 now] 3) = V := ⟨_, rfl⟩
  have B0 : Below W.heap.size W V := by rw [← hV]; exact (Below.refl _ _).alloc (Nat.le_refl _) _
  have M1 := h.below B0
  have G1 : Blk V W.heap.size 3 [.int .i64 now] := by rw [← hV]; exact Blk.new W 3 [.int .i64 now]
  have ct : V.cell? ⟨g, 0, none⟩ = some (.int .i64 x.now) := M1.box.cell 0
  have fz := M1.box.frozen 0
  obtain ⟨M2, V2⟩ := M1.now now
  have hg : g < W.heap.size := h.box.lt
  have hne : ¬ W.heap.size = g := by omega
  have G2 := G1.far (p := ⟨g, 0, none⟩) hne (.int .i64 now)
  have c1 := (sv_cells M2.box).2.1
  have DF_ := Lib.hid (deleteI_t 101 #[.pointer (some ⟨W.heap.size, 0, none⟩)] (fun y => gone now y.i) x.its x.its.length x.ic wB.heap.size x.ip _ rfl (by omega) M2.sf.its (enters_of Tryz.func101 (by kernel_rfl) rfl)
    (fun y W' hy hk => goOn1_t W.heap.size now y W' ((hk.cell (p := ⟨W.heap.size, 0, none⟩) G2.lt (fun e => own_apart M2.sf.its G2 (by decide) e.own)).trans (G2.cell 0)) (Nat.lt_of_lt_of_le G2.lt hk.size)))
  have M2H := Lib.hid M2; have V2H := Lib.hid ((Mv.of_below (x := x) (g := g) B0).trans V2)
  dsimp only at c1
  have cb : V.cell? ⟨W.heap.size, 0, none⟩ = some (.int .i64 now) := G1.cell 0
  clear h M1 M2 V2 B0 G1 G2
  go_enter Tryz.func61, Tryz.ntmps61
  go_upto_region 1 with (fail)
  clear hV
  go_wp2_with fail
  refine DF_.out.mono ?_
  rintro e w3 ⟨rfl, o3, k3⟩
  have ct3 : w3.cell? ⟨g, 1, none⟩ = some (.slice x.ip x.its.length x.ic) := (k3.cell (p := ⟨g, 1, none⟩) M2H.out.box.lt M2H.out.apartI).trans c1
  have fz3 := (M2H.out.box.kept k3 M2H.out.apartI).frozen 1
  obtain ⟨M3, V3⟩ := M2H.out.items (x.its.filter (fun y => !gone now y.i)) x.ip x.ic k3 (fun k e => .inl e) o3 (fun y hy => own_kept (M2H.out.sf.it y (List.mem_filter.1 hy).1) k3 (fun k hk e => own_two M2H.out.sf.its (M2H.out.sf.it y (List.mem_filter.1 hy).1) (by decide) e.own hk))
  have M3H := Lib.hid M3; have V3H := Lib.hid (V2H.out.trans V3)
  clear M3 V3 o3 k3 DF_ M2H V2H c1 ct fz cb
  go_wp2_with fail
  go_end0
  exact ⟨rfl, _, M3H.out, V3H.out, by
    unfold Spv.sp goOnP
    dsimp only
    congr 1
    rw [List.filter_map]
    rfl⟩
theorem map_erase {α β : Type} (g : α → β) (l : List α) (k : Nat) : (l.eraseIdx k).map g = (l.map g).eraseIdx k := by
  rw [List.eraseIdx_eq_take_drop_succ, List.eraseIdx_eq_take_drop_succ, List.map_append, List.map_take, List.map_drop]
/-- The item at a place goes; its row of fields is handed on. -/
theorem take_t (wB : World) (g : Nat) (x : Spv) (k : Nat) (y : Itv) (W : World) (h : SM wB W g x) (hn : x.its.length ≤ 1000) (hy : x.its[k]? = some y) :
    Calls Tryz.prog 152 #[.pointer (some ⟨g, 0, none⟩), .int .i64 (k : Int)] W fun e W' => e = .returned (.slice y.p y.i.t.length y.c) ∧ ∃ x', SM wB W' g x' ∧ Mv g x x' W W' ∧ x'.sp = { x.sp with its := x.sp.its.eraseIdx k } ∧ FT W' wB.heap.size y.p y.c y.i.t := by
  have hk : k < x.its.length := (List.getElem?_eq_some_iff.1 hy).1
  have c1 := (sv_cells h.box).2.1
  obtain ⟨gi, hgi, _, _, hgc, _⟩ := own_block h.sf.its (by omega)
  have ct : W.cell? ⟨gi, k * 3 + 2, none⟩ = some (.slice y.p y.i.t.length y.c) := (hgc (k * 3 + 2) (by omega)).trans (flat_get iv_len x.its k 2 y hy (by omega))
  have DA := Lib.hid (deleteAt_t x.its x.its.length x.ic wB.heap.size k x.ip W rfl (by omega) hk h.sf.its)
  have H := Lib.hid h; have HY := Lib.hid hy; have HGI := Lib.hid hgi; have HK := Lib.hid hk
  rw [hgi] at c1
  have k1 : IntKind.i64.wrap ((k : Int) + 1) = ((k + 1 : Nat) : Int) := by rw [IntWalk.i64_in _ (by omega)]; omega
  have k2 : (k : Int) < (x.its.length : Int) := by omega
  have nB : (x.its.length : Int) ≤ 9223372036854775807 := by omega
  rw [hgi] at DA
  clear h hgc hy hk
  go_enter Tryz.func152, Tryz.ntmps152
  go_wp2_with fail
  refine DA.out.mono ?_
  rintro e w3 ⟨rfl, o3, k3⟩
  rw [← hgi] at o3 k3 ⊢
  have ct3 : w3.cell? ⟨g, 1, none⟩ = some (.slice x.ip x.its.length x.ic) := (k3.cell (p := ⟨g, 1, none⟩) H.out.box.lt H.out.apartI).trans (by rw [hgi]; exact c1)
  have fz3 := (H.out.box.kept k3 H.out.apartI).frozen 1
  have le : (x.its.eraseIdx k).length = x.its.length - 1 := by rw [List.length_eraseIdx, if_pos HK.out]
  have kF : ∀ y ∈ x.its, FT w3 wB.heap.size y.p y.c y.i.t := fun y hy => own_kept (H.out.sf.it y hy) k3 (fun k hk e => own_two H.out.sf.its (H.out.sf.it y hy) (by decide) e.own hk)
  obtain ⟨M3, V3⟩ := H.out.items (x.its.eraseIdx k) x.ip x.ic k3 (fun k e => .inl e) (by rw [le]; exact o3) (fun z hz => kF z (List.mem_of_mem_eraseIdx hz))
  rw [le] at M3 V3
  have FY := Lib.hid (show FT (w3.setCell ⟨g, 1, none⟩ (.slice x.ip (x.its.length - 1) x.ic)) wB.heap.size y.p y.c y.i.t from V3.ft H.out (H.out.sf.it y (List.mem_of_getElem? HY.out)))
  have M3H := Lib.hid M3; have V3H := Lib.hid V3
  clear M3 V3 o3 k3 DA kF ct c1
  rw [hgi] at ct3 M3H V3H FY
  go_wp2_with fail
  go_ret
  exact ⟨rfl, _, M3H.out, V3H.out, by
    unfold Spv.sp
    dsimp only
    rw [map_erase], FY.out⟩
/-- A reply of the space's own block is written. -/
theorem SM.reply {wB W W' : World} {g c : Nat} {x : Spv} {y' : Rpv} (h : SM wB W g x) (hq : FT W wB.heap.size y'.p y'.c y'.r.t) (hb : But W.heap.size g W W') (hB : Blk W' g 29 (sv { x with last := x.last.set c y' })) :
    SM wB W' g { x with last := x.last.set c y' } ∧ Mv g x { x with last := x.last.set c y' } W W' := by
  have hk : Kept (fun b => b = g) W W' := ⟨hb.os, hb.tape, hb.output, hb.size, fun b h1 h2 => hb.block b h1 h2⟩
  have hs := h.sf.kept hk h.box
  have hq' : FT W' wB.heap.size y'.p y'.c y'.r.t := own_kept hq hk (fun b hb' e => own_apart hq h.box (by decide) (by rw [hb', e]))
  refine ⟨⟨hB, h.ge, h.bel.trans (hb.below h.ge h.bel.size), ⟨hs.its, hs.it, hs.wts, hs.wt, by show (x.last.set c y').length = 4; rw [List.length_set]; exact h.sf.l4, fun v hv => ?_⟩⟩, ⟨hk.mono fun k e => .inl e, fun k e => .inl e⟩⟩
  rcases List.mem_or_eq_of_mem_set hv with e | e
  · exact hs.la v e
  · rw [e]; exact hq'
theorem map_set_to {α β : Type} (g : α → β) (l : List α) (j : Nat) (y : α) : (l.set j y).map g = (l.map g).set j (g y) := List.map_set
set_option maxRecDepth 100000 in
set_option maxHeartbeats 2000000 in
theorem note2_t (wB : World) (g c : Nat) (x : Spv) (y : Rpv) (W : World) (h : SM wB W g x) (hc : y.r.cl = (c : Int)) (h4 : c < 4) (ht : TR W y.p y.r.t) (hl : y.r.t.length ≤ 1000) :
    Calls Tryz.prog 103 #[.pointer (some ⟨g, 0, none⟩), .agg (pv y).toArray] W fun e W' => e = .returned (.tuple #[]) ∧ ∃ x', SM wB W' g x' ∧ Mv g x x' W W' ∧ x'.sp = noteP x.sp y.r ∧ x'.its = x.its := by
  obtain ⟨V, hV⟩ : ∃ V, W.alloc (.cells (pv y).toArray 26) = V := ⟨_, rfl⟩
  have B0 : Below W.heap.size W V := by rw [← hV]; exact (Below.refl _ _).alloc (Nat.le_refl _) _
  have M1 := Lib.hid (show SM wB V.drew g x from (h.below B0).below (Below.refl _ _).drew)
  have G1 : Blk V.drew W.heap.size 26 (pv y) := by rw [← hV]; exact Blk.new W 26 (pv y)
  have hg : g < W.heap.size := h.box.lt
  have CR := Lib.hid (cloneReply_t y V.drew ((ht.below B0).below (Below.refl _ _).drew) (by omega))
  obtain ⟨z, hz⟩ : ∃ z, x.last[c]? = some z := ⟨_, List.getElem?_eq_getElem (by have := h.sf.l4; omega)⟩
  have HZ := Lib.hid hz
  have HC := Lib.hid hc
  have LL := Lib.hid (svL_len x c (by have := h.sf.l4; omega))
  have FS := Lib.hid (pv_size y)
  have V0 := Lib.hid (Mv.of_below (x := x) (g := g) (show Below W.heap.size W V.drew from B0.drew))
  have c4 : (c : Int) < 4 := by omega
  have hG := G1
  have HG := Lib.hid hg
  clear h ht hz hg B0
  go_enter Tryz.func103, Tryz.ntmps103
  go_upto_region 1 with (fail)
  clear hV
  refine wp_region_held (S := fun X => Blk X W.heap.size 26 (pv y)) (by kernel_rfl) ?_
  change wpAnyH _ _ _ _ _ _ _ _ V.drew
  refine wpAnyH_take (i := 0) (v := ?_) rfl (by kernel_rfl) (by kernel_rfl) (by kernel_rfl) (fun _ _ _ h => h) (Or.inl ⟨by kernel_rfl, ?_⟩) hG ?_
  rotate_left 1
  · (intro w hS; clear hS; go_simp; try (with_reducible rfl))
  refine wpAnyH_take (i := 1) (v := ?_) rfl (by kernel_rfl) (by kernel_rfl) (by kernel_rfl) (fun _ _ _ h => h) (Or.inl ⟨by kernel_rfl, ?_⟩) hG ?_
  rotate_left 1
  · (intro w hS; clear hS; go_simp; try (with_reducible rfl))
  refine wpAnyH_take (i := 2) (v := ?_) rfl (by kernel_rfl) (by kernel_rfl) (by kernel_rfl) (fun _ _ _ h => h) (Or.inl ⟨by kernel_rfl, ?_⟩) hG ?_
  rotate_left 1
  · (intro w hS; have hs := ((pv_cells hS).1.trans (by rw [HC.out])); clear hS; go_simp; try (with_reducible rfl))
  refine wpAnyH_take (i := 3) (v := .agg (pv y).toArray) rfl (by kernel_rfl) (by kernel_rfl) (by kernel_rfl) (fun _ _ _ h => h) (yieldsIf_load_mid (by kernel_rfl) 26 (.tmp 3) rfl W.heap.size 0 (by go_simp) (pv y) _ (fun _ h => rows_of_blk h) Tryz.underlying26 rfl (FS.out)) hG ?_
  refine wpAnyH_take (i := 5) (v := ?_) rfl (by kernel_rfl) (by kernel_rfl) (by kernel_rfl) (fun _ _ _ h => h) (Or.inl ⟨by kernel_rfl, ?_⟩) hG ?_
  rotate_left 1
  · (intro w hS; clear hS; go_simp; try (with_reducible rfl))
  refine wpAnyH_take (i := 6) (v := ?_) rfl (by kernel_rfl) (by kernel_rfl) (by kernel_rfl) (fun _ _ _ h => h) (Or.inl ⟨by kernel_rfl, ?_⟩) hG ?_
  rotate_left 1
  · (intro w hS; clear hS; go_simp; try (with_reducible rfl))
  refine wpAnyH_ready (rs := [4]) (by kernel_rfl) (by simp) ?_
  refine AllReadyH.cons rfl (fun K hK => ?_) AllReadyH.nil
  go_simp
  refine CR.out.mono ?_
  rintro e w2 ⟨y', rfl, hr, f2, b2⟩
  have M2 := Lib.hid (M1.out.below b2)
  have V2 := Lib.hid (V0.out.trans (Mv.of_below (x := x) (g := g) b2))
  have F2 := Lib.hid (f2.low M1.out.bel.size)
  have G2 : Blk w2 W.heap.size 26 (pv y) := hG.below b2 hG.lt
  have BB := Lib.hid (show Blk w2 g 29 (svL x c ++ (pv z ++ svR x c)) from by rw [← sv_at x c z HZ.out]; exact M2.out.box)
  have FS' := Lib.hid (pv_size y'); have F1' := Lib.hid (pv_oneA y')
  have HR := Lib.hid hr
  refine hK.out _ _ G2 (fun _ => ?_)
  clear hK K f2 b2 hr hG G1 CR M1 V0
  refine wpAnyH_take (i := 7) (v := ?_) rfl (by kernel_rfl) (by kernel_rfl) (by kernel_rfl) (fun _ _ _ h => h) (Or.inl ⟨by kernel_rfl, ?_⟩) G2 ?_
  rotate_left 1
  · (intro w hS; clear hS; go_simp; try (with_reducible rfl))
  refine wpAnyH_ready (rs := [8]) (by kernel_rfl) (by simp) ?_
  refine AllReadyH.cons rfl (fun K hK => ?_) AllReadyH.nil
  rw [if_pos (by kernel_rfl)]
  refine wstore_part 26 (.tmp 11) (.tmp 8) g (5 + c * 5) 29 (svL x c) (pv z) (svR x c) (pv y') rfl BB.out LL.out.symm rfl FS'.out F1'.out (by go_simp) (by go_simp) ?_
  intro w3 a1 a2 a3
  obtain ⟨M3, V3⟩ := M2.out.reply F2.out a2.out (by rw [sv_put x c z y' HZ.out]; exact a1.out)
  have M3H := Lib.hid M3; have V3H := Lib.hid (V2.out.trans V3)
  have G3 : Blk w3 W.heap.size 26 (pv y) := G2.but a2.out G2.lt (by have := HG.out; omega)
  clear M3 V3 a1 a2 a3 M2 V2 BB
  refine hK.out _ _ G3 (fun _ => ?_)
  clear hK K
  refine wpAnyH_done (by kernel_rfl) ?_ _
  go_simp
  go_wp2_with fail
  go_end0
  exact ⟨rfl, _, M3H.out, V3H.out, (by
    unfold Spv.sp noteP
    dsimp only
    rw [map_set_to, HR.out, HC.out]
    rfl), rfl⟩
theorem note_t (wB : World) (g c : Nat) (x : Spv) (y : Rpv) (W : World) (h : SM wB W g x) (hc : y.r.cl = (c : Int)) (h4 : c < 4) (ht : TR W y.p y.r.t) (hl : y.r.t.length ≤ 1000) :
    Calls Tryz.prog 103 #[.pointer (some ⟨g, 0, none⟩), .agg (pv y).toArray] W fun e W' => e = .returned (.tuple #[]) ∧ ∃ x', SM wB W' g x' ∧ Mv g x x' W W' ∧ x'.sp = noteP x.sp y.r := by
  refine (note2_t wB g c x y W h hc h4 ht hl).mono ?_
  rintro e w1 ⟨h1, x', h2, h3, h4, _⟩
  exact ⟨h1, x', h2, h3, h4⟩
end Go.Proofs.YtojianpbjckipaaGreatDoor
