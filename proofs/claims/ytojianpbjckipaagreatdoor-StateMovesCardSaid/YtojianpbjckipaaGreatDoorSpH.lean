/-
  PACKAGE space: clone.
-/
import Derived.Test.YtojianpbjckipaaGreatDoorSpF
namespace Go.Proofs.YtojianpbjckipaaGreatDoor
open Go Go.RowKit Sh

/-- A space of the call's own: all its rows are new. -/
structure SF (B : Nat) (W : World) (x : Spv) : Prop where
  its : W.ownsRow B 62 3 (.slice x.ip x.its.length x.ic) x.its.length (x.its.flatMap iv)
  it : ∀ y ∈ x.its, FT W B y.p y.c y.i.t
  wts : W.ownsRow B 64 4 (.slice x.wp x.wts.length x.wc) x.wts.length (x.wts.flatMap wv)
  wt : ∀ y ∈ x.wts, FT W B y.p y.c y.x.p
  l4 : x.last.length = 4
  la : ∀ y ∈ x.last, FT W B y.p y.c y.r.t
/-- Not too long. -/
structure Small (x : Sp) : Prop where
  n : x.its.length ≤ 1000
  it : ∀ y ∈ x.its, y.t.length ≤ 1000
  m : x.wts.length ≤ 1000
  wt : ∀ y ∈ x.wts, y.p.length ≤ 1000
  la : ∀ y ∈ x.last, y.t.length ≤ 1000
theorem SF.below {B : Nat} {W W' : World} {x : Spv} (h : SF B W x) (hb : Below W.heap.size W W') : SF B W' x :=
  ⟨own_below h.its hb, fun y hy => (h.it y hy).below hb, own_below h.wts hb, fun y hy => (h.wt y hy).below hb, h.l4, fun y hy => (h.la y hy).below hb⟩
theorem SF.w {B : Nat} {W : World} {x : Spv} (h : SF B W x) (hs : Small x.sp) : SpW W x := by
  have hn : x.its.length ≤ 1000 := by have := hs.n; rwa [show x.sp.its = x.its.map (·.i) from rfl, List.length_map] at this
  have hm : x.wts.length ≤ 1000 := by have := hs.m; rwa [show x.sp.wts = x.wts.map (·.x) from rfl, List.length_map] at this
  refine ⟨RowL.of_own iv_len rfl h.its, fun y hy => (h.it y hy).tr ?_, RowL.of_own wv_len rfl h.wts, fun y hy => (h.wt y hy).tr ?_, h.l4, fun y hy => (h.la y hy).tr ?_, by omega, by omega⟩
  · have := hs.it y.i (List.mem_map_of_mem hy); omega
  · have := hs.wt y.x (List.mem_map_of_mem hy); omega
  · have := hs.la y.r (List.mem_map_of_mem hy); omega
theorem flat_set {α : Type} {f : α → List Value} {sz : Nat} (hf : ∀ x, (f x).length = sz) : ∀ (l : List α) (j i : Nat) (x y : α) (v : Value), l[j]? = some x → i < sz → (f x).set i v = f y → (l.flatMap f).set (j * sz + i) v = (l.set j y).flatMap f
  | [], j, i, x, y, v, hx, _, _ => by simp at hx
  | z :: l, 0, i, x, y, v, hx, hi, hy => by
    obtain rfl : z = x := by simpa using hx
    rw [List.set_cons_zero, List.flatMap_cons, List.flatMap_cons, Nat.zero_mul, Nat.zero_add, List.set_append_left _ _ (by rw [hf]; exact hi), hy]
  | z :: l, j + 1, i, x, y, v, hx, hi, hy => by
    rw [List.set_cons_succ, List.flatMap_cons, List.flatMap_cons, List.set_append_right _ _ (by rw [hf, Nat.add_mul]; omega), hf, show (j + 1) * sz + i - sz = j * sz + i by rw [Nat.add_mul]; omega,
      flat_set hf l j i x y v (by simpa using hx) hi hy]
theorem map_set_same {α β : Type} (g : α → β) : ∀ (l : List α) (j : Nat) (x y : α), l[j]? = some x → g y = g x → (l.set j y).map g = l.map g
  | [], j, x, y, hx, _ => by simp at hx
  | z :: l, 0, x, y, hx, h => by
    obtain rfl : z = x := by simpa using hx
    simp [h]
  | z :: l, j + 1, x, y, hx, h => by
    rw [List.set_cons_succ, List.map_cons, List.map_cons, map_set_same g l j x y (by simpa using hx) h]
/-- Where clone stands in its rows. -/
structure CL (w0 W : World) (z : Spv) (x : Spv) (j k m : Nat) : Prop where
  box : Blk W w0.heap.size 29 (sv x)
  out : Blk W (w0.heap.size + 1) 29 [.int .i64 0, .slice none 0 0, .slice none 0 0, .int .i64 0, .int .i64 0, .int .i64 0, .int .i64 0, .int .i64 0, .slice none 0 0, .bool false, .int .i64 0, .int .i64 0, .int .i64 0, .slice none 0 0, .bool false, .int .i64 0, .int .i64 0, .int .i64 0, .slice none 0 0, .bool false, .int .i64 0, .int .i64 0, .int .i64 0, .slice none 0 0, .bool false]
  its : W.ownsRow w0.heap.size 62 3 (.slice x.ip x.its.length x.ic) x.its.length (x.its.flatMap iv)
  it : ∀ i y, i < j → x.its[i]? = some y → FT W w0.heap.size y.p y.c y.i.t
  itz : ∀ i, j ≤ i → x.its[i]? = z.its[i]?
  wts : 0 < k → W.ownsRow w0.heap.size 64 4 (.slice x.wp x.wts.length x.wc) x.wts.length (x.wts.flatMap wv)
  wt : ∀ i y, i + 1 < k → x.wts[i]? = some y → FT W w0.heap.size y.p y.c y.x.p
  wtz : ∀ i, k ≤ i + 1 → x.wts[i]? = z.wts[i]?
  l4 : x.last.length = 4
  la : ∀ i y, i < m → x.last[i]? = some y → FT W w0.heap.size y.p y.c y.r.t
  laz : ∀ i, m ≤ i → x.last[i]? = z.last[i]?
  sp : x.sp = z.sp
  wpz : k = 0 → x.wp = z.wp ∧ x.wc = z.wc ∧ x.wts = z.wts
  bel : Below w0.heap.size w0 W
theorem CL.below {w0 W W' : World} {z x : Spv} {j k m : Nat} (h : CL w0 W z x j k m) (hb : Below W.heap.size W W') : CL w0 W' z x j k m :=
  ⟨h.box.below hb h.box.lt, h.out.below hb h.out.lt, own_below h.its hb, fun i y hi hy => (h.it i y hi hy).below hb, h.itz, fun hk => own_below (h.wts hk) hb, fun i y hi hy => (h.wt i y hi hy).below hb, h.wtz, h.l4, fun i y hi hy => (h.la i y hi hy).below hb, h.laz, h.sp, h.wpz, h.bel.trans (hb.mono h.bel.size)⟩
/-- The own block of a row that isn't empty. -/
theorem own_block {W : World} {base n c sz : Nat} {e : TypeId} {q : Option Addr} {xs : List Value} (h : W.ownsRow base e sz (.slice q n c) n xs) (hn : 0 < n) : ∃ g, q = some ⟨g, 0, none⟩ ∧ base ≤ g ∧ g < W.heap.size ∧ (∀ i, i < n * sz → W.cell? ⟨g, i, none⟩ = xs[i]?) ∧ (∀ i, W.frozen? ⟨g, i, none⟩ = false) := by
  rcases h.2 with ⟨_, h0⟩ | ⟨g, cap, cur, e1, hb, hh, _⟩
  · omega
  · have hA : q = some ⟨g, 0, none⟩ := by injection e1
    subst hA
    exact ⟨g, rfl, hb, (Array.getElem?_eq_some_iff.1 hh).1, fun i hi => h.cellAt i hi, fun i => h.frozenAt i⟩
theorem own_kind {w : World} {B : Nat} {e : TypeId} {size : Nat} {v : Value} {n : Nat} {xs : List Value} (h : w.ownsRow B e size v n xs) {g : Nat} (hg : v.ownBlock = some g) : ∃ cs, Blk w g e cs := by
  rcases h.2 with ⟨rfl, _⟩ | ⟨g', cap, cur, rfl, _, hh, _⟩
  · cases hg
  · obtain rfl : g' = g := by simpa [Value.ownBlock] using hg
    exact ⟨cur.toList, by simpa [Blk] using hh⟩
/-- Two rows of things of two kinds lie apart. -/
theorem own_two {w : World} {B B' : Nat} {e e' : TypeId} {size size' : Nat} {v v' : Value} {n n' : Nat} {xs xs' : List Value} (h : w.ownsRow B e size v n xs) (h' : w.ownsRow B' e' size' v' n' xs') (hne : e ≠ e') {g : Nat} (hg : v.ownBlock = some g) : v'.ownBlock ≠ some g := fun hg' => by
  obtain ⟨cs, hb⟩ := own_kind h hg
  exact own_apart h' hb (Ne.symm hne) hg'
/-- A cell of a row is written: what is of another kind stays. -/
theorem own_stays {w : World} {B B' : Nat} {e e' : TypeId} {size size' : Nat} {v v' : Value} {n n' : Nat} {xs xs' : List Value} (h : w.ownsRow B e size v n xs) (h' : w.ownsRow B' e' size' v' n' xs') (hne : e ≠ e') {g : Nat} (hg : v.ownBlock = some g) (i : Nat) (u : Value) : (w.setCell ⟨g, i, none⟩ u).ownsRow B' e' size' v' n' xs' :=
  own_kept h' ((Kept.refl (fun k => k = g) w).setCell (p := ⟨g, i, none⟩) (.inl rfl) u) (fun k hk e => own_two h h' hne hg (by rw [hk, e]))
theorem set_get {α : Type} {l : List α} {j : Nat} {y : α} (hj : j < l.length) (i : Nat) (z : α) (h : (l.set j y)[i]? = some z) : (i = j ∧ z = y) ∨ (i ≠ j ∧ l[i]? = some z) := by
  by_cases hi : i = j
  · subst hi
    rw [List.getElem?_set_self hj] at h
    exact .inl ⟨rfl, (Option.some.inj h).symm⟩
  · rw [List.getElem?_set_ne (Ne.symm hi)] at h
    exact .inr ⟨hi, h⟩
/-- An item's row is put in the place of its old one. -/
theorem CL.item {w0 W : World} {z x : Spv} {j k m g : Nat} {y : Itv} {q : Option Addr} {d : Nat} (h : CL w0 W z x j k m) (hy : x.its[j]? = some y) (hq : FT W w0.heap.size q d y.i.t) (hg : x.ip = some ⟨g, 0, none⟩) :
    CL w0 (W.setCell ⟨g, j * 3 + 2, none⟩ (.slice q y.i.t.length d)) z { x with its := x.its.set j ⟨y.i, q, d⟩ } (j + 1) k m := by
  have hj : j < x.its.length := (List.getElem?_eq_some_iff.1 hy).1
  have hown := h.its
  rw [hg] at hown
  have hgk : Value.ownBlock (.slice (some ⟨g, 0, none⟩) x.its.length x.ic) = some g := rfl
  have hgl := hown.lt g hgk
  have hst := hown.stored (j * 3 + 2) (.slice q y.i.t.length d)
  have hfl : (x.its.flatMap iv).set (j * 3 + 2) (.slice q y.i.t.length d) = (x.its.set j ⟨y.i, q, d⟩).flatMap iv := flat_set iv_len x.its j 2 y ⟨y.i, q, d⟩ _ hy (by omega) rfl
  have hI : 62 ≠ 131 := by decide
  have hW : 62 ≠ 64 := by decide
  have n1 : w0.heap.size ≠ g := fun e => own_apart hown h.box (by decide) (by rw [hgk, e])
  have n2 : w0.heap.size + 1 ≠ g := fun e => own_apart hown h.out (by decide) (by rw [hgk, e])
  have hsv : sv { x with its := x.its.set j ⟨y.i, q, d⟩ } = sv x := by unfold sv; rw [List.length_set]
  have hmi : (x.its.set j ⟨y.i, q, d⟩).map (·.i) = x.its.map (·.i) := map_set_same (·.i) x.its j y ⟨y.i, q, d⟩ hy rfl
  have hFT : ∀ {q' : Option Addr} {d' : Nat} {l : List Fld}, FT W w0.heap.size q' d' l → FT (W.setCell ⟨g, j * 3 + 2, none⟩ (.slice q y.i.t.length d)) w0.heap.size q' d' l := fun hf => own_stays hown hf hI hgk _ _
  refine ⟨?_, h.out.far (p := ⟨g, j * 3 + 2, none⟩) n2 _, ?_, fun i v hi hv => ?_, fun i hi => ?_, fun hk => own_stays hown (h.wts hk) hW hgk _ _, fun i v hi hv => hFT (h.wt i v hi hv), h.wtz, h.l4, fun i v hi hv => hFT (h.la i v hi hv), h.laz, ?_, h.wpz, h.bel.setCell (p := ⟨g, j * 3 + 2, none⟩) hgl.1 _⟩
  · rw [hsv]
    exact h.box.far (p := ⟨g, j * 3 + 2, none⟩) n1 _
  · show World.ownsRow _ _ _ _ (.slice x.ip (x.its.set j ⟨y.i, q, d⟩).length x.ic) (x.its.set j ⟨y.i, q, d⟩).length ((x.its.set j ⟨y.i, q, d⟩).flatMap iv)
    rw [List.length_set, hg, ← hfl]
    exact hst.1
  · rcases set_get hj i v hv with ⟨_, rfl⟩ | ⟨hne, hv'⟩
    · exact hFT hq
    · exact hFT (h.it i v (by omega) hv')
  · show (x.its.set j ⟨y.i, q, d⟩)[i]? = _
    rw [List.getElem?_set_ne (by omega)]
    exact h.itz i (by omega)
  · rw [← h.sp]
    unfold Spv.sp
    rw [hmi]
/-- A waiter's row is put in the place of its old one. -/
theorem CL.waiter {w0 W : World} {z x : Spv} {j k m g : Nat} {y : Wtv} {q : Option Addr} {d : Nat} (h : CL w0 W z x j (k + 1) m) (hy : x.wts[k]? = some y) (hq : FT W w0.heap.size q d y.x.p) (hg : x.wp = some ⟨g, 0, none⟩) :
    CL w0 (W.setCell ⟨g, k * 4 + 3, none⟩ (.slice q y.x.p.length d)) z { x with wts := x.wts.set k ⟨y.x, q, d⟩ } j (k + 1 + 1) m := by
  have hj : k < x.wts.length := (List.getElem?_eq_some_iff.1 hy).1
  have hown := h.wts (Nat.succ_pos k)
  rw [hg] at hown
  have hgk : Value.ownBlock (.slice (some ⟨g, 0, none⟩) x.wts.length x.wc) = some g := rfl
  have hgl := hown.lt g hgk
  have hst := hown.stored (k * 4 + 3) (.slice q y.x.p.length d)
  have hfl : (x.wts.flatMap wv).set (k * 4 + 3) (.slice q y.x.p.length d) = (x.wts.set k ⟨y.x, q, d⟩).flatMap wv := flat_set wv_len x.wts k 3 y ⟨y.x, q, d⟩ _ hy (by omega) rfl
  have hI : 64 ≠ 131 := by decide
  have hW : 64 ≠ 62 := by decide
  have n1 : w0.heap.size ≠ g := fun e => own_apart hown h.box (by decide) (by rw [hgk, e])
  have n2 : w0.heap.size + 1 ≠ g := fun e => own_apart hown h.out (by decide) (by rw [hgk, e])
  have hsv : sv { x with wts := x.wts.set k ⟨y.x, q, d⟩ } = sv x := by unfold sv; rw [List.length_set]
  have hmi : (x.wts.set k ⟨y.x, q, d⟩).map (·.x) = x.wts.map (·.x) := map_set_same (·.x) x.wts k y ⟨y.x, q, d⟩ hy rfl
  have hFT : ∀ {q' : Option Addr} {d' : Nat} {l : List Fld}, FT W w0.heap.size q' d' l → FT (W.setCell ⟨g, k * 4 + 3, none⟩ (.slice q y.x.p.length d)) w0.heap.size q' d' l := fun hf => own_stays hown hf hI hgk _ _
  refine ⟨?_, h.out.far (p := ⟨g, k * 4 + 3, none⟩) n2 _, own_stays hown h.its hW hgk _ _, fun i v hi hv => hFT (h.it i v hi hv), h.itz, fun _ => ?_, fun i v hi hv => ?_, fun i hi => ?_, h.l4, fun i v hi hv => hFT (h.la i v hi hv), h.laz, ?_, fun e => absurd e (by omega), h.bel.setCell (p := ⟨g, k * 4 + 3, none⟩) hgl.1 _⟩
  · rw [hsv]
    exact h.box.far (p := ⟨g, k * 4 + 3, none⟩) n1 _
  · show World.ownsRow _ _ _ _ (.slice x.wp (x.wts.set k ⟨y.x, q, d⟩).length x.wc) (x.wts.set k ⟨y.x, q, d⟩).length ((x.wts.set k ⟨y.x, q, d⟩).flatMap wv)
    rw [List.length_set, hg, ← hfl]
    exact hst.1
  · rcases set_get hj i v hv with ⟨_, rfl⟩ | ⟨hne, hv'⟩
    · exact hFT hq
    · exact hFT (h.wt i v (by omega) hv')
  · show (x.wts.set k ⟨y.x, q, d⟩)[i]? = _
    rw [List.getElem?_set_ne (by omega)]
    exact h.wtz i (by omega)
  · rw [← h.sp]
    unfold Spv.sp
    rw [hmi]
/-- What changes the box alone leaves the rows. -/
theorem CL.own_box {w0 W W' : World} {z x : Spv} {j k m : Nat} {B : Nat} {e : TypeId} {size : Nat} {v : Value} {n : Nat} {xs : List Value} (h : CL w0 W z x j k m) (hk : Kept (fun b => b = w0.heap.size) W W') (ho : W.ownsRow B e size v n xs) (he : e ≠ 29) : W'.ownsRow B e size v n xs :=
  own_kept ho hk (fun b hb e' => own_apart ho h.box he (by rw [hb, e']))
theorem CL.wclone {w0 W : World} {z x : Spv} {j m : Nat} {q : Option Addr} {d : Nat} (h : CL w0 W z x j 0 m) (ho : W.ownsRow w0.heap.size 64 4 (.slice q x.wts.length d) x.wts.length (x.wts.flatMap wv)) :
    CL w0 (W.setCell ⟨w0.heap.size, 2, none⟩ (.slice q x.wts.length d)) z { x with wp := q, wc := d } j 1 m := by
  have hk : Kept (fun b => b = w0.heap.size) W (W.setCell ⟨w0.heap.size, 2, none⟩ (.slice q x.wts.length d)) := (Kept.refl (fun b => b = w0.heap.size) W).setCell (p := ⟨w0.heap.size, 2, none⟩) (.inl rfl) _
  refine ⟨h.box.store 2 _, h.out.far (p := ⟨w0.heap.size, 2, none⟩) (Nat.succ_ne_self _) _, h.own_box hk h.its (by decide), fun i y hi hy => h.own_box hk (h.it i y hi hy) (by decide), h.itz, fun _ => h.own_box hk ho (by decide), fun i y hi _ => absurd hi (by omega), fun i _ => h.wtz i (by omega), h.l4, fun i y hi hy => h.own_box hk (h.la i y hi hy) (by decide), h.laz, h.sp, fun e => absurd e (by omega), h.bel.setCell (p := ⟨w0.heap.size, 2, none⟩) (Nat.le_refl _) _⟩
theorem CL.start {w V W : World} {z : Spv} {q : Option Addr} {d : Nat} (hV : V = (w.alloc (.cells (sv z).toArray 29)).alloc (.cells #[.int .i64 0, .slice none 0 0, .slice none 0 0, .int .i64 0, .int .i64 0, .int .i64 0, .int .i64 0, .int .i64 0, .slice none 0 0, .bool false, .int .i64 0, .int .i64 0, .int .i64 0, .slice none 0 0, .bool false, .int .i64 0, .int .i64 0, .int .i64 0, .slice none 0 0, .bool false, .int .i64 0, .int .i64 0, .int .i64 0, .slice none 0 0, .bool false] 29)) (h4 : z.last.length = 4)
    (hb : Below V.heap.size V W) (ho : W.ownsRow V.heap.size 62 3 (.slice q z.its.length d) z.its.length (z.its.flatMap iv)) :
    CL w (W.setCell ⟨w.heap.size, 1, none⟩ (.slice q z.its.length d)) z { z with ip := q, ic := d } 0 0 0 := by
  have hs : V.heap.size = w.heap.size + 2 := by rw [hV]; exact alloc2_size _ _ _
  have B1 : Blk V w.heap.size 29 (sv z) := by rw [hV]; exact (Blk.new w 29 (sv z)).alloc _
  have B2 : Blk V (w.heap.size + 1) 29 [.int .i64 0, .slice none 0 0, .slice none 0 0, .int .i64 0, .int .i64 0, .int .i64 0, .int .i64 0, .int .i64 0, .slice none 0 0, .bool false, .int .i64 0, .int .i64 0, .int .i64 0, .slice none 0 0, .bool false, .int .i64 0, .int .i64 0, .int .i64 0, .slice none 0 0, .bool false, .int .i64 0, .int .i64 0, .int .i64 0, .slice none 0 0, .bool false] := by rw [hV]; exact Blk.new2 w _ _ _
  have BV : Below w.heap.size w V := by rw [hV]; exact ((Below.refl w.heap.size w).alloc (Nat.le_refl _) _).alloc (by simp) _
  have hk : Kept (fun b => b = w.heap.size) W (W.setCell ⟨w.heap.size, 1, none⟩ (.slice q z.its.length d)) := (Kept.refl (fun b => b = w.heap.size) W).setCell (p := ⟨w.heap.size, 1, none⟩) (.inl rfl) _
  have ho' := own_base ho (base' := w.heap.size) fun k hk => by have := (ho.lt k hk).1; omega
  refine ⟨(B1.below hb B1.lt).store 1 _, (B2.below hb B2.lt).far (p := ⟨w.heap.size, 1, none⟩) (Nat.succ_ne_self _) _, own_kept ho' hk (fun b hb' e => own_apart ho' (B1.below hb B1.lt) (by decide) (by rw [hb', e])), fun i y hi _ => absurd hi (by omega), fun i _ => rfl, fun h => absurd h (by omega), fun i y hi _ => absurd hi (by omega), fun i _ => rfl, h4, fun i y hi _ => absurd hi (by omega), fun i _ => rfl, rfl, fun _ => ⟨rfl, rfl, rfl⟩, (BV.trans (hb.mono BV.size)).setCell (p := ⟨w.heap.size, 1, none⟩) (Nat.le_refl _) _⟩
/-- A reply is put in the place of its old one. -/
theorem CL.reply {w0 W W' : World} {z x : Spv} {j k m : Nat} {y y' : Rpv} (h : CL w0 W z x j k m) (hy : x.last[m]? = some y) (hr : y'.r = y.r) (hq : FT W w0.heap.size y'.p y'.c y'.r.t) (hb : But W.heap.size w0.heap.size W W') (hB : Blk W' w0.heap.size 29 (sv { x with last := x.last.set m y' })) :
    CL w0 W' z { x with last := x.last.set m y' } j k (m + 1) := by
  have hm : m < x.last.length := (List.getElem?_eq_some_iff.1 hy).1
  have hk : Kept (fun b => b = w0.heap.size) W W' := ⟨hb.os, hb.tape, hb.output, hb.size, fun b h1 h2 => hb.block b h1 h2⟩
  have hmi : (x.last.set m y').map (·.r) = x.last.map (·.r) := map_set_same (·.r) x.last m y y' hy hr
  refine ⟨hB, h.out.kept hk (Nat.succ_ne_self _), h.own_box hk h.its (by decide), fun i y hi hy => h.own_box hk (h.it i y hi hy) (by decide), h.itz, fun hp => h.own_box hk (h.wts hp) (by decide), fun i y hi hy => h.own_box hk (h.wt i y hi hy) (by decide), h.wtz, ?_, fun i v hi hv => ?_, fun i hi => ?_, ?_, h.wpz, h.bel.trans (hb.below (Nat.le_refl _) h.bel.size)⟩
  · show (x.last.set m y').length = 4
    rw [List.length_set]
    exact h.l4
  · rcases set_get hm i v hv with ⟨_, rfl⟩ | ⟨hne, hv'⟩
    · exact h.own_box hk hq (by decide)
    · exact h.own_box hk (h.la i v (by omega) hv') (by decide)
  · show (x.last.set m y')[i]? = _
    rw [List.getElem?_set_ne (by omega)]
    exact h.laz i (by omega)
  · rw [← h.sp]
    unfold Spv.sp
    rw [hmi]
theorem CL.sf {w0 W : World} {z x : Spv} {j k m : Nat} (h : CL w0 W z x j (k + 1) m) (hj : x.its.length ≤ j) (hk : x.wts.length ≤ k) (hm : 4 ≤ m) : SF w0.heap.size W x := by
  refine ⟨h.its, fun y hy => ?_, h.wts (Nat.succ_pos k), fun y hy => ?_, h.l4, fun y hy => ?_⟩
  · obtain ⟨i, hi⟩ := List.getElem?_of_mem hy
    exact h.it i y (by have := (List.getElem?_eq_some_iff.1 hi).1; omega) hi
  · obtain ⟨i, hi⟩ := List.getElem?_of_mem hy
    exact h.wt i y (by have := (List.getElem?_eq_some_iff.1 hi).1; omega) hi
  · obtain ⟨i, hi⟩ := List.getElem?_of_mem hy
    exact h.la i y (by have := (List.getElem?_eq_some_iff.1 hi).1; have := h.l4; omega) hi
theorem CL.lens {w0 W : World} {z x : Spv} {j k m : Nat} (h : CL w0 W z x j k m) : x.its.length = z.its.length ∧ x.wts.length = z.wts.length := by
  have e := h.sp
  have h1 := congrArg (fun s : Sp => s.its.length) e
  have h2 := congrArg (fun s : Sp => s.wts.length) e
  simpa [Spv.sp] using And.intro h1 h2
/-- Where a round of the items' loop reads. -/
structure CI (w0 W : World) (x : Spv) (g : Nat) (j : Nat) (y : Itv) : Prop where
  c1 : W.cell? ⟨w0.heap.size, 1, none⟩ = some (.slice (some ⟨g, 0, none⟩) x.its.length x.ic)
  ct : W.cell? ⟨g, j * 3 + 2, none⟩ = some (.slice y.p y.i.t.length y.c)
/-- Where a round of the waiters' loop reads. -/
structure CJ (w0 W : World) (x : Spv) (g : Nat) (j : Nat) (y : Wtv) : Prop where
  c1 : W.cell? ⟨w0.heap.size, 2, none⟩ = some (.slice (some ⟨g, 0, none⟩) x.wts.length x.wc)
  ct : W.cell? ⟨g, j * 4 + 3, none⟩ = some (.slice y.p y.x.p.length y.c)
theorem SF.kept {B g : Nat} {W W' : World} {x : Spv} {cs : List Value} (h : SF B W x) (hk : Kept (fun b => b = g) W W') (hg : Blk W g 29 cs) : SF B W' x := by
  have f : ∀ {p c l}, FT W B p c l → FT W' B p c l := fun hf => own_kept hf hk (fun b hb e => own_apart hf hg (by decide) (by rw [hb, e]))
  exact ⟨own_kept h.its hk (fun b hb e => own_apart h.its hg (by decide) (by rw [hb, e])), fun y hy => f (h.it y hy), own_kept h.wts hk (fun b hb e => own_apart h.wts hg (by decide) (by rw [hb, e])), fun y hy => f (h.wt y hy), h.l4, fun y hy => f (h.la y hy)⟩
def svL (x : Spv) (j : Nat) : List Value := svA x ++ (x.last.take j).flatMap pv
def svR (x : Spv) (j : Nat) : List Value := (x.last.drop (j + 1)).flatMap pv
theorem svL_len (x : Spv) (j : Nat) (h : j ≤ x.last.length) : (svL x j).length = 5 + j * 5 := by
  unfold svL
  rw [List.length_append, flat_length pv_len, List.length_take, Nat.min_eq_left h]
  rfl
theorem sv_at (x : Spv) (j : Nat) (y : Rpv) (hy : x.last[j]? = some y) : sv x = svL x j ++ (pv y ++ svR x j) := by
  obtain ⟨hj, rfl⟩ := List.getElem?_eq_some_iff.1 hy
  have e : x.last = x.last.take j ++ (x.last[j] :: x.last.drop (j + 1)) := by rw [← List.drop_eq_getElem_cons hj, List.take_append_drop]
  show svA x ++ x.last.flatMap pv = _
  conv => lhs; rw [e]
  unfold svL svR
  rw [List.flatMap_append, List.flatMap_cons, List.append_assoc]
theorem sv_put (x : Spv) (j : Nat) (y y' : Rpv) (hy : x.last[j]? = some y) : sv { x with last := x.last.set j y' } = svL x j ++ (pv y' ++ svR x j) := by
  obtain ⟨hj, rfl⟩ := List.getElem?_eq_some_iff.1 hy
  show svA x ++ (x.last.set j y').flatMap pv = _
  rw [List.set_eq_take_append_cons_drop, if_pos hj]
  unfold svL svR
  rw [List.flatMap_append, List.flatMap_cons, List.append_assoc]
theorem sv_one (x : Spv) : (sv x).toArray.all (·.oneCell') = true := by
  rw [Array.all_eq_true']
  intro v hv
  have hv : v ∈ sv x := by simpa using hv
  unfold sv at hv
  rcases List.mem_append.1 hv with h | h
  · simp only [List.mem_cons, List.not_mem_nil, or_false] at h
    rcases h with rfl | rfl | rfl | rfl | rfl <;> rfl
  · exact flat_one pv_one x.last v h
set_option maxRecDepth 100000 in
set_option maxHeartbeats 4000000 in
theorem clone_t (z : Spv) (w : World) (hz : SpW w z) (hs : Small z.sp) :
    Calls Tryz.prog 59 #[.agg (sv z).toArray] w fun e w' => ∃ x : Spv, e = .returned (.agg (sv x).toArray) ∧ x.sp = z.sp ∧ SF w.heap.size w' x ∧ Below w.heap.size w w' := by
  have hn : z.its.length ≤ 1000 := by have := hs.n; rwa [show z.sp.its = z.its.map (·.i) from rfl, List.length_map] at this
  have hm : z.wts.length ≤ 1000 := by have := hs.m; rwa [show z.sp.wts = z.wts.map (·.x) from rfl, List.length_map] at this
  have HT1 := Lib.hid (fun (i : Nat) (y : Itv) (h : z.its[i]? = some y) => And.intro (hz.it y (List.mem_of_getElem? h)) (hs.it y.i (List.mem_map_of_mem (List.mem_of_getElem? h))))
  have HT2 := Lib.hid (fun (i : Nat) (y : Wtv) (h : z.wts[i]? = some y) => And.intro (hz.wt y (List.mem_of_getElem? h)) (hs.wt y.x (List.mem_map_of_mem (List.mem_of_getElem? h))))
  have HT3 := Lib.hid (fun (i : Nat) (y : Rpv) (h : z.last[i]? = some y) => And.intro (hz.la y (List.mem_of_getElem? h)) (hs.la y.r (List.mem_map_of_mem (List.mem_of_getElem? h))))
  have HZ := Lib.hid hz
  obtain ⟨V, hV⟩ : ∃ V, (w.alloc (.cells (sv z).toArray 29)).alloc (.cells #[.int .i64 0, .slice none 0 0, .slice none 0 0, .int .i64 0, .int .i64 0, .int .i64 0, .int .i64 0, .int .i64 0, .slice none 0 0, .bool false, .int .i64 0, .int .i64 0, .int .i64 0, .slice none 0 0, .bool false, .int .i64 0, .int .i64 0, .int .i64 0, .slice none 0 0, .bool false, .int .i64 0, .int .i64 0, .int .i64 0, .slice none 0 0, .bool false] 29) = V := ⟨_, rfl⟩
  have HV := Lib.hid hV
  have BV : Below w.heap.size w V := by rw [← hV]; exact ((Below.refl w.heap.size w).alloc (Nat.le_refl _) _).alloc (by simp) _
  have B1 : Blk V w.heap.size 29 (sv z) := by rw [← hV]; exact (Blk.new w 29 (sv z)).alloc _
  have c1 := (sv_cells B1).2.1
  have fz := B1.frozen 1
  have CI_ := Lib.hid (cloneI_t z.its z.ip z.its.length z.ic V rfl (hz.below BV).its (by omega))
  have BVH := Lib.hid BV; have B1H := Lib.hid B1
  clear hz hs BV B1
  go_enter Tryz.func59, Tryz.ntmps59
  go_upto_region 1 with (fail)
  clear hV
  go_wp2_with fail
  refine CI_.out.mono ?_
  rintro e w1 ⟨q, d, rfl, o1, b1⟩
  have K0 := Lib.hid (CL.start (z := z) HV.out.symm HZ.out.l4 b1 o1)
  have ct := (b1.cell (p := ⟨w.heap.size, 1, none⟩) B1H.out.lt).trans c1
  have ff := (B1H.out.below b1 B1H.out.lt).frozen 1
  clear o1 b1 c1 fz CI_
  go_upto_region 3 with (fail)
  go_loopw [13] (fun x wr => ∃ j : Nat, j ≤ z.its.length ∧ x = .int .i64 (j : Int) ∧ ∃ X, CL w wr z X j 0 0) (fun x _ => z.its.length - (intOf x).toNat)
  case atStart => exact ⟨0, by omega, rfl, _, K0.out⟩
  case round =>
    obtain ⟨j, hj, rfl, X, hK0⟩ := hrel
    have K1 := Lib.hid hK0
    clear hK0 K0
    have LE := K1.out.lens
    by_cases hlt : j < z.its.length
    · obtain ⟨y, hy⟩ : ∃ y, z.its[j]? = some y := ⟨_, List.getElem?_eq_getElem hlt⟩
      have hyX : X.its[j]? = some y := (K1.out.itz j (Nat.le_refl _)).trans hy
      obtain ⟨g, hg, _, hgl, hgc, _⟩ := own_block K1.out.its (by omega)
      have R1 := Lib.hid (show CI w wr.drew X g j y from ⟨(sv_cells K1.out.box).2.1.trans (by rw [hg]), (hgc (j * 3 + 2) (by omega)).trans (flat_get iv_len X.its j 2 y hyX (by omega))⟩)
      have KD := Lib.hid (show CL w wr.drew z X j 0 0 from K1.out.below (Below.refl _ _).drew)
      have CF := Lib.hid (cloneF_t y.i.t y.p y.i.t.length y.c wr.drew rfl (rw_row.1 (((HT1.out j y hy).1.below KD.out.bel).t)) (by have := (HT1.out j y hy).2; omega))
      have j1 : (j : Int) < (z.its.length : Int) := by omega
      have j2 : (j : Int) < (X.its.length : Int) := by omega
      have nB : (X.its.length : Int) ≤ 9223372036854775807 := by omega
      have HYX := Lib.hid hyX; have HG := Lib.hid hg; have HLT := Lib.hid hlt
      clear hy hyX hg hgc hgl
      go_upto_region 5 with (fail)
      refine wp_region_E (fun W' => CI w W' X g j y) (fun i => i == 12) (by kernel_rfl) ?_
      change wpAnyE _ _ _ _ _ _ _ _ _ wr.drew
      refine wpAnyE_take (i := 0) (v := ?_) rfl (by kernel_rfl) (by kernel_rfl) (by kernel_rfl) (by kernel_rfl) (fun _ _ _ h => h) (Or.inl ⟨by kernel_rfl, ?_⟩) R1.out ?_
      rotate_left 1
      · (intro w hS; clear hS; go_simp; try (with_reducible rfl))
      refine wpAnyE_take (i := 1) (v := ?_) rfl (by kernel_rfl) (by kernel_rfl) (by kernel_rfl) (by kernel_rfl) (fun _ _ _ h => h) (Or.inl ⟨by kernel_rfl, ?_⟩) R1.out ?_
      rotate_left 1
      · (intro w hS; have hs := hS.c1; clear hS; go_simp; try (with_reducible rfl))
      refine wpAnyE_take (i := 2) (v := ?_) rfl (by kernel_rfl) (by kernel_rfl) (by kernel_rfl) (by kernel_rfl) (fun _ _ _ h => h) (Or.inl ⟨by kernel_rfl, ?_⟩) R1.out ?_
      rotate_left 1
      · (intro w hS; clear hS; go_simp; try (with_reducible rfl))
      refine wpAnyE_take (i := 3) (v := ?_) rfl (by kernel_rfl) (by kernel_rfl) (by kernel_rfl) (by kernel_rfl) (fun _ _ _ h => h) (Or.inl ⟨by kernel_rfl, ?_⟩) R1.out ?_
      rotate_left 1
      · (intro w hS; clear hS; go_simp; try (with_reducible rfl))
      refine wpAnyE_take (i := 4) (v := ?_) rfl (by kernel_rfl) (by kernel_rfl) (by kernel_rfl) (by kernel_rfl) (fun _ _ _ h => h) (Or.inl ⟨by kernel_rfl, ?_⟩) R1.out ?_
      rotate_left 1
      · (intro w hS; have hs := hS.c1; clear hS; go_simp; try (with_reducible rfl))
      refine wpAnyE_take (i := 5) (v := ?_) rfl (by kernel_rfl) (by kernel_rfl) (by kernel_rfl) (by kernel_rfl) (fun _ _ _ h => h) (Or.inl ⟨by kernel_rfl, ?_⟩) R1.out ?_
      rotate_left 1
      · (intro w hS; clear hS; go_simp; try (with_reducible rfl))
      refine wpAnyE_take (i := 6) (v := ?_) rfl (by kernel_rfl) (by kernel_rfl) (by kernel_rfl) (by kernel_rfl) (fun _ _ _ h => h) (Or.inl ⟨by kernel_rfl, ?_⟩) R1.out ?_
      rotate_left 1
      · (intro w hS; clear hS; go_simp; try (with_reducible rfl))
      refine wpAnyE_take (i := 7) (v := ?_) rfl (by kernel_rfl) (by kernel_rfl) (by kernel_rfl) (by kernel_rfl) (fun _ _ _ h => h) (Or.inl ⟨by kernel_rfl, ?_⟩) R1.out ?_
      rotate_left 1
      · (intro w hS; clear hS; go_simp; try (with_reducible rfl))
      refine wpAnyE_take (i := 8) (v := ?_) rfl (by kernel_rfl) (by kernel_rfl) (by kernel_rfl) (by kernel_rfl) (fun _ _ _ h => h) (Or.inl ⟨by kernel_rfl, ?_⟩) R1.out ?_
      rotate_left 1
      · (intro w hS; have hs := hS.ct; clear hS; go_simp; try (with_reducible rfl))
      refine wpAnyE_one (i := 9) (by kernel_rfl) rfl (by kernel_rfl) (fun K hK => ?_)
      go_simp
      refine CF.out.mono ?_
      rintro e w2 ⟨q2, d2, rfl, o2, b2⟩
      have K2 := Lib.hid (KD.out.below b2)
      have F2 := Lib.hid (show FT w2 w.heap.size q2 d2 y.i.t from own_base o2 (fun k hk => Nat.le_trans KD.out.bel.size (o2.lt k hk).1))
      obtain ⟨g', hg', _, _, hgc, hgf⟩ := own_block K2.out.its (by have := HLT.out; omega)
      obtain rfl : g = g' := by have := HG.out.symm.trans hg'; simpa using this
      have ct2 := (hgc (j * 3 + 2) (by omega)).trans (flat_get iv_len X.its j 2 y HYX.out (by omega))
      have ff2 := hgf (j * 3 + 2)
      have R2 := Lib.hid (show CI w w2 X g j y from ⟨(sv_cells K2.out.box).2.1.trans (by rw [HG.out]), ct2⟩)
      have K3 := Lib.hid (K2.out.item HYX.out F2.out HG.out)
      have ct3 : w2.cell? ⟨g, j * 3 + 2, none⟩ = some (.slice y.p y.i.t.length y.c) := ct2
      clear b2 o2 hg' hgc hgf ct2 K1 R1 KD CF K2 F2
      refine hK.out _ _ (.inr R2.out) ?_
      clear hK K
      refine wpAnyE_one (i := 10) (by kernel_rfl) rfl (by kernel_rfl) (fun K hK => ?_)
      go_simp
      refine hK.out _ _ (.inr R2.out) ?_
      clear hK K
      refine wpAnyE_one (i := 11) (by kernel_rfl) rfl (by kernel_rfl) (fun K hK => ?_)
      go_simp
      refine hK.out _ _ (.inr R2.out) ?_
      clear hK K
      refine wpAnyE_one (i := 12) (by kernel_rfl) rfl (by kernel_rfl) (fun K hK => ?_)
      go_simp
      refine hK.out _ _ (.inl rfl) ?_
      clear hK K
      refine wpAnyE_done (by kernel_rfl) ?_ _
      go_simp
      go_wp2_with fail
      go_roundw
      case rel => exact ⟨j + 1, HLT.out, by go_num, _, K3.out⟩
      case measure => simp [intOf]; omega
    · obtain rfl : j = z.its.length := by omega
      clear hlt hj ct ff LE
      obtain ⟨z1, z2, z3⟩ := K1.out.wpz rfl
      have c2 := (sv_cells K1.out.box).2.2.1
      rw [z1, z2, z3] at c2
      have fz := K1.out.box.frozen 2
      have CW := Lib.hid (cloneW_t z.wts z.wp z.wts.length z.wc wr rfl (HZ.out.below K1.out.bel).wts (by omega))
      have ZW := Lib.hid z3
      clear z1 z2 z3
      go_wp2_with fail
      refine CW.out.mono ?_
      rintro e w2 ⟨q2, d2, rfl, o2, b2⟩
      have ct := (b2.cell (p := ⟨w.heap.size, 2, none⟩) K1.out.box.lt).trans c2
      have ff := (K1.out.box.below b2 K1.out.box.lt).frozen 2
      have K2 := Lib.hid ((K1.out.below b2).wclone (q := q2) (d := d2) (by rw [ZW.out]; exact own_base o2 (fun k hk => Nat.le_trans K1.out.bel.size (o2.lt k hk).1)))
      rw [ZW.out] at K2
      clear b2 o2 c2 fz CW K1
      go_upto_region 9 with (fail)
      go_loopw [36] (fun x wr => ∃ j : Nat, j ≤ z.wts.length ∧ x = .int .i64 (j : Int) ∧ ∃ X, CL w wr z X z.its.length (j + 1) 0) (fun x _ => z.wts.length - (intOf x).toNat)
      case atStart => exact ⟨0, by omega, rfl, _, K2.out⟩
      case round =>
        obtain ⟨j, hj, rfl, X, hK0⟩ := hrel
        have K1 := Lib.hid hK0
        clear hK0 K2 ct ff
        have LE := K1.out.lens
        by_cases hlt : j < z.wts.length
        · obtain ⟨y, hy⟩ : ∃ y, z.wts[j]? = some y := ⟨_, List.getElem?_eq_getElem hlt⟩
          have hyX : X.wts[j]? = some y := (K1.out.wtz j (Nat.le_refl _)).trans hy
          obtain ⟨g, hg, _, hgl, hgc, _⟩ := own_block (K1.out.wts (Nat.succ_pos j)) (by omega)
          have R1 := Lib.hid (show CJ w wr.drew X g j y from ⟨(sv_cells K1.out.box).2.2.1.trans (by rw [hg]), (hgc (j * 4 + 3) (by omega)).trans (flat_get wv_len X.wts j 3 y hyX (by omega))⟩)
          have KD := Lib.hid (show CL w wr.drew z X z.its.length (j + 1) 0 from K1.out.below (Below.refl _ _).drew)
          have CF := Lib.hid (cloneF_t y.x.p y.p y.x.p.length y.c wr.drew rfl (rw_row.1 (((HT2.out j y hy).1.below KD.out.bel).t)) (by have := (HT2.out j y hy).2; omega))
          have j1 : (j : Int) < (z.wts.length : Int) := by omega
          have j2 : (j : Int) < (X.wts.length : Int) := by omega
          have nB : (X.wts.length : Int) ≤ 9223372036854775807 := by omega
          have HYX := Lib.hid hyX; have HG := Lib.hid hg; have HLT := Lib.hid hlt
          clear hy hyX hg hgc hgl
          go_upto_region 11 with (fail)
          refine wp_region_E (fun W' => CJ w W' X g j y) (fun i => i == 12) (by kernel_rfl) ?_
          change wpAnyE _ _ _ _ _ _ _ _ _ wr.drew
          refine wpAnyE_take (i := 0) (v := ?_) rfl (by kernel_rfl) (by kernel_rfl) (by kernel_rfl) (by kernel_rfl) (fun _ _ _ h => h) (Or.inl ⟨by kernel_rfl, ?_⟩) R1.out ?_
          rotate_left 1
          · (intro w hS; clear hS; go_simp; try (with_reducible rfl))
          refine wpAnyE_take (i := 1) (v := ?_) rfl (by kernel_rfl) (by kernel_rfl) (by kernel_rfl) (by kernel_rfl) (fun _ _ _ h => h) (Or.inl ⟨by kernel_rfl, ?_⟩) R1.out ?_
          rotate_left 1
          · (intro w hS; have hs := hS.c1; clear hS; go_simp; try (with_reducible rfl))
          refine wpAnyE_take (i := 2) (v := ?_) rfl (by kernel_rfl) (by kernel_rfl) (by kernel_rfl) (by kernel_rfl) (fun _ _ _ h => h) (Or.inl ⟨by kernel_rfl, ?_⟩) R1.out ?_
          rotate_left 1
          · (intro w hS; clear hS; go_simp; try (with_reducible rfl))
          refine wpAnyE_take (i := 3) (v := ?_) rfl (by kernel_rfl) (by kernel_rfl) (by kernel_rfl) (by kernel_rfl) (fun _ _ _ h => h) (Or.inl ⟨by kernel_rfl, ?_⟩) R1.out ?_
          rotate_left 1
          · (intro w hS; clear hS; go_simp; try (with_reducible rfl))
          refine wpAnyE_take (i := 4) (v := ?_) rfl (by kernel_rfl) (by kernel_rfl) (by kernel_rfl) (by kernel_rfl) (fun _ _ _ h => h) (Or.inl ⟨by kernel_rfl, ?_⟩) R1.out ?_
          rotate_left 1
          · (intro w hS; have hs := hS.c1; clear hS; go_simp; try (with_reducible rfl))
          refine wpAnyE_take (i := 5) (v := ?_) rfl (by kernel_rfl) (by kernel_rfl) (by kernel_rfl) (by kernel_rfl) (fun _ _ _ h => h) (Or.inl ⟨by kernel_rfl, ?_⟩) R1.out ?_
          rotate_left 1
          · (intro w hS; clear hS; go_simp; try (with_reducible rfl))
          refine wpAnyE_take (i := 6) (v := ?_) rfl (by kernel_rfl) (by kernel_rfl) (by kernel_rfl) (by kernel_rfl) (fun _ _ _ h => h) (Or.inl ⟨by kernel_rfl, ?_⟩) R1.out ?_
          rotate_left 1
          · (intro w hS; clear hS; go_simp; try (with_reducible rfl))
          refine wpAnyE_take (i := 7) (v := ?_) rfl (by kernel_rfl) (by kernel_rfl) (by kernel_rfl) (by kernel_rfl) (fun _ _ _ h => h) (Or.inl ⟨by kernel_rfl, ?_⟩) R1.out ?_
          rotate_left 1
          · (intro w hS; clear hS; go_simp; try (with_reducible rfl))
          refine wpAnyE_take (i := 8) (v := ?_) rfl (by kernel_rfl) (by kernel_rfl) (by kernel_rfl) (by kernel_rfl) (fun _ _ _ h => h) (Or.inl ⟨by kernel_rfl, ?_⟩) R1.out ?_
          rotate_left 1
          · (intro w hS; have hs := hS.ct; clear hS; go_simp; try (with_reducible rfl))
          refine wpAnyE_one (i := 9) (by kernel_rfl) rfl (by kernel_rfl) (fun K hK => ?_)
          go_simp
          refine CF.out.mono ?_
          rintro e w2 ⟨q2, d2, rfl, o2, b2⟩
          have K2 := Lib.hid (KD.out.below b2)
          have F2 := Lib.hid (show FT w2 w.heap.size q2 d2 y.x.p from own_base o2 (fun k hk => Nat.le_trans KD.out.bel.size (o2.lt k hk).1))
          obtain ⟨g', hg', _, _, hgc, hgf⟩ := own_block (K2.out.wts (Nat.succ_pos j)) (by have := HLT.out; omega)
          obtain rfl : g = g' := by have := HG.out.symm.trans hg'; simpa using this
          have ct2 := (hgc (j * 4 + 3) (by omega)).trans (flat_get wv_len X.wts j 3 y HYX.out (by omega))
          have ff2 := hgf (j * 4 + 3)
          have R2 := Lib.hid (show CJ w w2 X g j y from ⟨(sv_cells K2.out.box).2.2.1.trans (by rw [HG.out]), ct2⟩)
          have K3 := Lib.hid (K2.out.waiter HYX.out F2.out HG.out)
          have ct3 : w2.cell? ⟨g, j * 4 + 3, none⟩ = some (.slice y.p y.x.p.length y.c) := ct2
          clear b2 o2 hg' hgc hgf ct2 K1 R1 KD CF K2 F2
          refine hK.out _ _ (.inr R2.out) ?_
          clear hK K
          refine wpAnyE_one (i := 10) (by kernel_rfl) rfl (by kernel_rfl) (fun K hK => ?_)
          go_simp
          refine hK.out _ _ (.inr R2.out) ?_
          clear hK K
          refine wpAnyE_one (i := 11) (by kernel_rfl) rfl (by kernel_rfl) (fun K hK => ?_)
          go_simp
          refine hK.out _ _ (.inr R2.out) ?_
          clear hK K
          refine wpAnyE_one (i := 12) (by kernel_rfl) rfl (by kernel_rfl) (fun K hK => ?_)
          go_simp
          refine hK.out _ _ (.inl rfl) ?_
          clear hK K
          refine wpAnyE_done (by kernel_rfl) ?_ _
          go_simp
          go_wp2_with fail
          go_roundw
          case rel => exact ⟨j + 1, HLT.out, by go_num, _, K3.out⟩
          case measure => simp [intOf]; omega
        · obtain rfl : j = z.wts.length := by omega
          clear hlt hj LE
          go_upto_region 14 with (fail)
          go_loopw [52] (fun x wr => ∃ j : Nat, j ≤ 4 ∧ x = .int .i64 (j : Int) ∧ ∃ X, CL w wr z X z.its.length (z.wts.length + 1) j) (fun x _ => 4 - (intOf x).toNat)
          case atStart => exact ⟨0, by omega, rfl, _, K1.out⟩
          case round =>
            obtain ⟨j, hj, rfl, X, hK0⟩ := hrel
            have K2 := Lib.hid hK0
            clear hK0 K1
            by_cases hlt : j < 4
            · have L4 := K2.out.l4
              obtain ⟨y, hy⟩ : ∃ y, X.last[j]? = some y := ⟨_, List.getElem?_eq_getElem (by omega)⟩
              have hyz : z.last[j]? = some y := (K2.out.laz j (Nat.le_refl _)).symm.trans hy
              have SP := Lib.hid (sv_at X j y hy)
              have SS_ := Lib.hid (show ∀ y', sv { X with last := X.last.set j y' } = svL X j ++ (pv y' ++ svR X j) from fun y' => sv_put X j y y' hy)
              have LL := Lib.hid (svL_len X j (by omega))
              have BB := Lib.hid (show Blk wr w.heap.size 29 (svL X j ++ (pv y ++ svR X j)) from by rw [← sv_at X j y hy]; exact K2.out.box)
              have CR := Lib.hid (cloneReply_t y wr ((HT3.out j y hyz).1.below K2.out.bel) (by have := (HT3.out j y hyz).2; omega))
              have FS := Lib.hid (pv_size y)
              have j1 : (j : Int) < 4 := by omega
              have HY := Lib.hid hy; have HLT := Lib.hid hlt
              clear hy hyz hlt L4
              go_wp2_with ((with_reducible refine at_op (.load 26 (.tmp 58)) rfl ?_); go_must (refine load_part 26 (.tmp 58) w.heap.size (5 + j * 5) 29 (svL X j) (pv y) (svR X j) _ rfl rfl BB.out LL.out.symm Tryz.underlying26 rfl FS.out rfl ?_))
              refine CR.out.mono ?_
              rintro e w2 ⟨y', rfl, hr, f2, b2⟩
              have B2 := Lib.hid (BB.out.below b2 K2.out.box.lt)
              have FS' := Lib.hid (pv_size y'); have F1' := Lib.hid (pv_oneA y')
              have F2 := Lib.hid (f2.low K2.out.bel.size)
              have K3 := Lib.hid (K2.out.below b2)
              have HR := Lib.hid hr
              clear f2 b2 hr BB CR K2
              go_wp2_with ((with_reducible refine at_op (.store 26 (.tmp 62) (.tmp 60)) rfl ?_); go_must (refine store_part 26 (.tmp 62) (.tmp 60) w.heap.size (5 + j * 5) 29 (svL X j) (pv y) (svR X j) (pv y') rfl rfl B2.out LL.out.symm rfl FS'.out F1'.out rfl rfl ?_); intro w3 a1 a2 a3)
              have K4 := Lib.hid (K3.out.reply HY.out HR.out F2.out a2.out (by rw [SS_.out]; exact a1.out))
              clear a1 a2 a3 K3 B2
              go_roundw
              case rel => exact ⟨j + 1, HLT.out, by go_num, _, K4.out⟩
              case measure => simp [intOf]; omega
            · obtain rfl : j = 4 := by omega
              clear hlt hj
              have FS := Lib.hid (sv_size X K2.out.l4); have F1 := Lib.hid (sv_one X)
              have A1 := Lib.hid K2.out.box; have Z1 := Lib.hid K2.out.out
              have R2 := Lib.hid (K2.out.out.setRow (sv X))
              have SF_ := Lib.hid (show SF w.heap.size (wr.setRow (w.heap.size + 1) (sv X).toArray) X from by
                have hk : Kept (fun b => b = w.heap.size + 1) wr (wr.setRow (w.heap.size + 1) (sv X).toArray) := (Kept.refl (fun b => b = w.heap.size + 1) wr).setRowK (.inl rfl) _
                have hf := K2.out.sf (by have := K2.out.lens.1; omega) (by have := K2.out.lens.2; omega) (Nat.le_refl _)
                exact hf.kept hk Z1.out)
              have BF := Lib.hid (below_setRow K2.out.bel (Nat.le_succ _) (sv X).toArray)
              have SPX := Lib.hid K2.out.sp
              have SL := Lib.hid (sv_len X K2.out.l4)
              clear K2
              go_wp2_with (first
                | ((with_reducible refine load_blk 29 (.tmp 1) w.heap.size 29 (sv X) _ rfl rfl ?_ Tryz.underlying29 ?_ ?_ ?_ ?_); exact A1.out; exact rfl; exact FS.out; exact rfl)
                | ((with_reducible refine at_op (.store 29 (.tmp 2) (.tmp 64)) rfl ?_); go_must (refine store_blk 29 (.tmp 2) (.tmp 64) (w.heap.size + 1) 29 _ (sv X) rfl rfl Z1.out SL.out.symm FS.out F1.out rfl rfl ?_)))
              exact ret_blk (p := 2) (ty := 29) rfl rfl (w.heap.size + 1) 29 _ _ rfl R2.out Tryz.underlying29 rfl FS.out ⟨X, rfl, SPX.out, SF_.out, BF.out⟩
end Go.Proofs.YtojianpbjckipaaGreatDoor
