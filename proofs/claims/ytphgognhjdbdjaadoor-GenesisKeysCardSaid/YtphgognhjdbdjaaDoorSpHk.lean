/-
  PACKAGE space: clone.
-/
import Derived.Test.YtphgognhjdbdjaaDoorSpFk
namespace Go.Proofs.YtphgognhjdbdjaaDoor
open Go Go.RowKit Sh

/-- A space of the call's own: all its rows are new. -/
structure SF (B : Nat) (W : World) (x : Spv) : Prop where
  its : W.ownsRow B 89 3 (.slice x.ip x.its.length x.ic) x.its.length (x.its.flatMap iv)
  it : ∀ y ∈ x.its, FT W B y.p y.c y.i.t
  wts : W.ownsRow B 94 4 (.slice x.wp x.wts.length x.wc) x.wts.length (x.wts.flatMap wv)
  wt : ∀ y ∈ x.wts, FT W B y.p y.c y.x.p
  l4 : x.last.length = 4
  la : ∀ y ∈ x.last, FT W B y.p y.c y.r.t
/-- Not too long. -/
structure Small (x : Sp) : Prop where
  n : x.its.length ≤ 1000
  it : ∀ y ∈ x.its, y.t.length ≤ 1000
  m : x.wts.length ≤ 1000
  wt : ∀ y ∈ x.wts, y.p.length ≤ 1000
  la : ∀ y ∈ x.last, y.t.length ≤ 1000
theorem SF.below {B : Nat} {W W' : World} {x : Spv} (h : SF B W x) (hb : Below W.heap.size W W') : SF B W' x :=
  ⟨own_below h.its hb, fun y hy => (h.it y hy).below hb, own_below h.wts hb, fun y hy => (h.wt y hy).below hb, h.l4, fun y hy => (h.la y hy).below hb⟩
theorem SF.w {B : Nat} {W : World} {x : Spv} (h : SF B W x) (hs : Small x.sp) : SpW W x := by
  have hn : x.its.length ≤ 1000 := by have := hs.n; rwa [show x.sp.its = x.its.map (·.i) from rfl, List.length_map] at this
  have hm : x.wts.length ≤ 1000 := by have := hs.m; rwa [show x.sp.wts = x.wts.map (·.x) from rfl, List.length_map] at this
  refine ⟨RowL.of_own iv_len rfl h.its, fun y hy => (h.it y hy).tr ?_, RowL.of_own wv_len rfl h.wts, fun y hy => (h.wt y hy).tr ?_, h.l4, fun y hy => (h.la y hy).tr ?_, by omega, by omega⟩
  · have := hs.it y.i (List.mem_map_of_mem hy); omega
  · have := hs.wt y.x (List.mem_map_of_mem hy); omega
  · have := hs.la y.r (List.mem_map_of_mem hy); omega
theorem flat_set {α : Type} {f : α → List Value} {sz : Nat} (hf : ∀ x, (f x).length = sz) : ∀ (l : List α) (j i : Nat) (x y : α) (v : Value), l[j]? = some x → i < sz → (f x).set i v = f y → (l.flatMap f).set (j * sz + i) v = (l.set j y).flatMap f
  | [], j, i, x, y, v, hx, _, _ => by simp at hx
  | z :: l, 0, i, x, y, v, hx, hi, hy => by
    obtain rfl : z = x := by simpa using hx
    rw [List.set_cons_zero, List.flatMap_cons, List.flatMap_cons, Nat.zero_mul, Nat.zero_add, List.set_append_left _ _ (by rw [hf]; exact hi), hy]
  | z :: l, j + 1, i, x, y, v, hx, hi, hy => by
    rw [List.set_cons_succ, List.flatMap_cons, List.flatMap_cons, List.set_append_right _ _ (by rw [hf, Nat.add_mul]; omega), hf, show (j + 1) * sz + i - sz = j * sz + i by rw [Nat.add_mul]; omega,
      flat_set hf l j i x y v (by simpa using hx) hi hy]
theorem map_set_same {α β : Type} (g : α → β) : ∀ (l : List α) (j : Nat) (x y : α), l[j]? = some x → g y = g x → (l.set j y).map g = l.map g
  | [], j, x, y, hx, _ => by simp at hx
  | z :: l, 0, x, y, hx, h => by
    obtain rfl : z = x := by simpa using hx
    simp [h]
  | z :: l, j + 1, x, y, hx, h => by
    rw [List.set_cons_succ, List.map_cons, List.map_cons, map_set_same g l j x y (by simpa using hx) h]
/-- Where clone stands in its rows. -/
structure CL (w0 W : World) (z : Spv) (x : Spv) (j k m : Nat) : Prop where
  box : Blk W w0.heap.size 46 (sv x)
  out : Blk W (w0.heap.size + 1) 46 [.int .i64 0, .slice none 0 0, .slice none 0 0, .int .i64 0, .int .i64 0, .int .i64 0, .int .i64 0, .int .i64 0, .slice none 0 0, .bool false, .int .i64 0, .int .i64 0, .int .i64 0, .slice none 0 0, .bool false, .int .i64 0, .int .i64 0, .int .i64 0, .slice none 0 0, .bool false, .int .i64 0, .int .i64 0, .int .i64 0, .slice none 0 0, .bool false]
  its : W.ownsRow w0.heap.size 89 3 (.slice x.ip x.its.length x.ic) x.its.length (x.its.flatMap iv)
  it : ∀ i y, i < j → x.its[i]? = some y → FT W w0.heap.size y.p y.c y.i.t
  itz : ∀ i, j ≤ i → x.its[i]? = z.its[i]?
  wts : 0 < k → W.ownsRow w0.heap.size 94 4 (.slice x.wp x.wts.length x.wc) x.wts.length (x.wts.flatMap wv)
  wt : ∀ i y, i + 1 < k → x.wts[i]? = some y → FT W w0.heap.size y.p y.c y.x.p
  wtz : ∀ i, k ≤ i + 1 → x.wts[i]? = z.wts[i]?
  l4 : x.last.length = 4
  la : ∀ i y, i < m → x.last[i]? = some y → FT W w0.heap.size y.p y.c y.r.t
  laz : ∀ i, m ≤ i → x.last[i]? = z.last[i]?
  sp : x.sp = z.sp
  wpz : k = 0 → x.wp = z.wp ∧ x.wc = z.wc ∧ x.wts = z.wts
  bel : Below w0.heap.size w0 W
theorem CL.below {w0 W W' : World} {z x : Spv} {j k m : Nat} (h : CL w0 W z x j k m) (hb : Below W.heap.size W W') : CL w0 W' z x j k m :=
  ⟨h.box.below hb h.box.lt, h.out.below hb h.out.lt, own_below h.its hb, fun i y hi hy => (h.it i y hi hy).below hb, h.itz, fun hk => own_below (h.wts hk) hb, fun i y hi hy => (h.wt i y hi hy).below hb, h.wtz, h.l4, fun i y hi hy => (h.la i y hi hy).below hb, h.laz, h.sp, h.wpz, h.bel.trans (hb.mono h.bel.size)⟩
theorem own_kind {w : World} {B : Nat} {e : TypeId} {size : Nat} {v : Value} {n : Nat} {xs : List Value} (h : w.ownsRow B e size v n xs) {g : Nat} (hg : v.ownBlock = some g) : ∃ cs, Blk w g e cs := by
  rcases h.2 with ⟨rfl, _⟩ | ⟨g', cap, cur, rfl, _, hh, _⟩
  · cases hg
  · obtain rfl : g' = g := by simpa [Value.ownBlock] using hg
    exact ⟨cur.toList, by simpa [Blk] using hh⟩
/-- Two rows of things of two kinds lie apart. -/
theorem own_two {w : World} {B B' : Nat} {e e' : TypeId} {size size' : Nat} {v v' : Value} {n n' : Nat} {xs xs' : List Value} (h : w.ownsRow B e size v n xs) (h' : w.ownsRow B' e' size' v' n' xs') (hne : e ≠ e') {g : Nat} (hg : v.ownBlock = some g) : v'.ownBlock ≠ some g := fun hg' => by
  obtain ⟨cs, hb⟩ := own_kind h hg
  exact own_apart h' hb (Ne.symm hne) hg'
/-- A cell of a row is written: what is of another kind stays. -/
theorem own_stays {w : World} {B B' : Nat} {e e' : TypeId} {size size' : Nat} {v v' : Value} {n n' : Nat} {xs xs' : List Value} (h : w.ownsRow B e size v n xs) (h' : w.ownsRow B' e' size' v' n' xs') (hne : e ≠ e') {g : Nat} (hg : v.ownBlock = some g) (i : Nat) (u : Value) : (w.setCell ⟨g, i, none⟩ u).ownsRow B' e' size' v' n' xs' :=
  own_kept h' ((Kept.refl (fun k => k = g) w).setCell (p := ⟨g, i, none⟩) (.inl rfl) u) (fun k hk e => own_two h h' hne hg (by rw [hk, e]))
theorem set_get {α : Type} {l : List α} {j : Nat} {y : α} (hj : j < l.length) (i : Nat) (z : α) (h : (l.set j y)[i]? = some z) : (i = j ∧ z = y) ∨ (i ≠ j ∧ l[i]? = some z) := by
  by_cases hi : i = j
  · subst hi
    rw [List.getElem?_set_self hj] at h
    exact .inl ⟨rfl, (Option.some.inj h).symm⟩
  · rw [List.getElem?_set_ne (Ne.symm hi)] at h
    exact .inr ⟨hi, h⟩
/-- An item's row is put in the place of its old one. -/
theorem CL.item {w0 W : World} {z x : Spv} {j k m g : Nat} {y : Itv} {q : Option Addr} {d : Nat} (h : CL w0 W z x j k m) (hy : x.its[j]? = some y) (hq : FT W w0.heap.size q d y.i.t) (hg : x.ip = some ⟨g, 0, none⟩) :
    CL w0 (W.setCell ⟨g, j * 3 + 2, none⟩ (.slice q y.i.t.length d)) z { x with its := x.its.set j ⟨y.i, q, d⟩ } (j + 1) k m := by
  have hj : j < x.its.length := (List.getElem?_eq_some_iff.1 hy).1
  have hown := h.its
  rw [hg] at hown
  have hgk : Value.ownBlock (.slice (some ⟨g, 0, none⟩) x.its.length x.ic) = some g := rfl
  have hgl := hown.lt g hgk
  have hst := hown.stored (j * 3 + 2) (.slice q y.i.t.length d)
  have hfl : (x.its.flatMap iv).set (j * 3 + 2) (.slice q y.i.t.length d) = (x.its.set j ⟨y.i, q, d⟩).flatMap iv := flat_set iv_len x.its j 2 y ⟨y.i, q, d⟩ _ hy (by omega) rfl
  have hI : 89 ≠ 132 := by decide
  have hW : 89 ≠ 94 := by decide
  have n1 : w0.heap.size ≠ g := fun e => own_apart hown h.box (by decide) (by rw [hgk, e])
  have n2 : w0.heap.size + 1 ≠ g := fun e => own_apart hown h.out (by decide) (by rw [hgk, e])
  have hsv : sv { x with its := x.its.set j ⟨y.i, q, d⟩ } = sv x := by unfold sv; rw [List.length_set]
  have hmi : (x.its.set j ⟨y.i, q, d⟩).map (·.i) = x.its.map (·.i) := map_set_same (·.i) x.its j y ⟨y.i, q, d⟩ hy rfl
  have hFT : ∀ {q' : Option Addr} {d' : Nat} {l : List Fld}, FT W w0.heap.size q' d' l → FT (W.setCell ⟨g, j * 3 + 2, none⟩ (.slice q y.i.t.length d)) w0.heap.size q' d' l := fun hf => own_stays hown hf hI hgk _ _
  refine ⟨?_, h.out.far (p := ⟨g, j * 3 + 2, none⟩) n2 _, ?_, fun i v hi hv => ?_, fun i hi => ?_, fun hk => own_stays hown (h.wts hk) hW hgk _ _, fun i v hi hv => hFT (h.wt i v hi hv), h.wtz, h.l4, fun i v hi hv => hFT (h.la i v hi hv), h.laz, ?_, h.wpz, h.bel.setCell (p := ⟨g, j * 3 + 2, none⟩) hgl.1 _⟩
  · rw [hsv]
    exact h.box.far (p := ⟨g, j * 3 + 2, none⟩) n1 _
  · show World.ownsRow _ _ _ _ (.slice x.ip (x.its.set j ⟨y.i, q, d⟩).length x.ic) (x.its.set j ⟨y.i, q, d⟩).length ((x.its.set j ⟨y.i, q, d⟩).flatMap iv)
    rw [List.length_set, hg, ← hfl]
    exact hst.1
  · rcases set_get hj i v hv with ⟨_, rfl⟩ | ⟨hne, hv'⟩
    · exact hFT hq
    · exact hFT (h.it i v (by omega) hv')
  · show (x.its.set j ⟨y.i, q, d⟩)[i]? = _
    rw [List.getElem?_set_ne (by omega)]
    exact h.itz i (by omega)
  · rw [← h.sp]
    unfold Spv.sp
    rw [hmi]
theorem CL.sf {w0 W : World} {z x : Spv} {j k m : Nat} (h : CL w0 W z x j (k + 1) m) (hj : x.its.length ≤ j) (hk : x.wts.length ≤ k) (hm : 4 ≤ m) : SF w0.heap.size W x := by
  refine ⟨h.its, fun y hy => ?_, h.wts (Nat.succ_pos k), fun y hy => ?_, h.l4, fun y hy => ?_⟩
  · obtain ⟨i, hi⟩ := List.getElem?_of_mem hy
    exact h.it i y (by have := (List.getElem?_eq_some_iff.1 hi).1; omega) hi
  · obtain ⟨i, hi⟩ := List.getElem?_of_mem hy
    exact h.wt i y (by have := (List.getElem?_eq_some_iff.1 hi).1; omega) hi
  · obtain ⟨i, hi⟩ := List.getElem?_of_mem hy
    exact h.la i y (by have := (List.getElem?_eq_some_iff.1 hi).1; have := h.l4; omega) hi
/-- Where a round of the items' loop reads. -/
structure CI (w0 W : World) (x : Spv) (g : Nat) (j : Nat) (y : Itv) : Prop where
  c1 : W.cell? ⟨w0.heap.size, 1, none⟩ = some (.slice (some ⟨g, 0, none⟩) x.its.length x.ic)
  ct : W.cell? ⟨g, j * 3 + 2, none⟩ = some (.slice y.p y.i.t.length y.c)
/-- Where a round of the waiters' loop reads. -/
structure CJ (w0 W : World) (x : Spv) (g : Nat) (j : Nat) (y : Wtv) : Prop where
  c1 : W.cell? ⟨w0.heap.size, 2, none⟩ = some (.slice (some ⟨g, 0, none⟩) x.wts.length x.wc)
  ct : W.cell? ⟨g, j * 4 + 3, none⟩ = some (.slice y.p y.x.p.length y.c)
theorem SF.kept {B g : Nat} {W W' : World} {x : Spv} {cs : List Value} (h : SF B W x) (hk : Kept (fun b => b = g) W W') (hg : Blk W g 46 cs) : SF B W' x := by
  have f : ∀ {p c l}, FT W B p c l → FT W' B p c l := fun hf => own_kept hf hk (fun b hb e => own_apart hf hg (by decide) (by rw [hb, e]))
  exact ⟨own_kept h.its hk (fun b hb e => own_apart h.its hg (by decide) (by rw [hb, e])), fun y hy => f (h.it y hy), own_kept h.wts hk (fun b hb e => own_apart h.wts hg (by decide) (by rw [hb, e])), fun y hy => f (h.wt y hy), h.l4, fun y hy => f (h.la y hy)⟩
def svL (x : Spv) (j : Nat) : List Value := svA x ++ (x.last.take j).flatMap pv
def svR (x : Spv) (j : Nat) : List Value := (x.last.drop (j + 1)).flatMap pv
theorem svL_len (x : Spv) (j : Nat) (h : j ≤ x.last.length) : (svL x j).length = 5 + j * 5 := by
  unfold svL
  rw [List.length_append, flat_length pv_len, List.length_take, Nat.min_eq_left h]
  rfl
theorem sv_at (x : Spv) (j : Nat) (y : Rpv) (hy : x.last[j]? = some y) : sv x = svL x j ++ (pv y ++ svR x j) := by
  obtain ⟨hj, rfl⟩ := List.getElem?_eq_some_iff.1 hy
  have e : x.last = x.last.take j ++ (x.last[j] :: x.last.drop (j + 1)) := by rw [← List.drop_eq_getElem_cons hj, List.take_append_drop]
  show svA x ++ x.last.flatMap pv = _
  conv => lhs; rw [e]
  unfold svL svR
  rw [List.flatMap_append, List.flatMap_cons, List.append_assoc]
theorem sv_put (x : Spv) (j : Nat) (y y' : Rpv) (hy : x.last[j]? = some y) : sv { x with last := x.last.set j y' } = svL x j ++ (pv y' ++ svR x j) := by
  obtain ⟨hj, rfl⟩ := List.getElem?_eq_some_iff.1 hy
  show svA x ++ (x.last.set j y').flatMap pv = _
  rw [List.set_eq_take_append_cons_drop, if_pos hj]
  unfold svL svR
  rw [List.flatMap_append, List.flatMap_cons, List.append_assoc]
theorem sv_one (x : Spv) : (sv x).toArray.all (·.oneCell') = true := by
  rw [Array.all_eq_true']
  intro v hv
  have hv : v ∈ sv x := by simpa using hv
  unfold sv at hv
  rcases List.mem_append.1 hv with h | h
  · simp only [List.mem_cons, List.not_mem_nil, or_false] at h
    rcases h with rfl | rfl | rfl | rfl | rfl <;> rfl
  · exact flat_one pv_one x.last v h
end Go.Proofs.YtphgognhjdbdjaaDoor
