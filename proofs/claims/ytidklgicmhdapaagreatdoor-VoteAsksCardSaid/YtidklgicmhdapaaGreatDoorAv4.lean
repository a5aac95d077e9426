/-
  PACKAGE space, what is pure
-/
import Derived.Test.YtidklgicmhdapaaGreatDoorAv3
namespace Go.Proofs.YtidklgicmhdapaaGreatDoor
open Go Go.RowKit Sh

def f0 : Fld := ⟨0, 0, eS⟩
def gl (l : List Fld) : Nat → Fld := fun j => l.getD j f0
def fl (n : Nat) (G : Nat → Fld) : List Fld := (List.range n).map G
theorem fl_length (n : Nat) (G : Nat → Fld) : (fl n G).length = n := by simp [fl]
theorem gl_fl {n : Nat} {G : Nat → Fld} {j : Nat} (h : j < n) : gl (fl n G) j = G j := by
  simp [gl, fl, List.getD_eq_getElem?_getD, List.getElem?_range h]
structure It where
  own : Int
  un : Int
  t : List Fld
structure Wt where
  cl : Int
  sq : Int
  tk : Bool
  p : List Fld
structure Rp where
  cl : Int
  sq : Int
  kd : Int
  t : List Fld
  lt : Bool
structure Sp where
  now : Int
  its : List It
  wts : List Wt
  rd : Int
  wr : Int
  last : List Rp
def vT (t : List Fld) : Bool := mayV t.length (gl t)
def pT (p : List Fld) : Bool := mayP p.length (gl p)
def sT (a b : List Fld) : Bool := sameN a.length (gl a) b.length (gl b)
def clB (c : Int) : Bool := decide (0 ≤ c) && decide (c < 4)
def lastB (un now : Int) : Bool := (un == 0) || (decide (now < un) && decide (un ≤ 2199023255552))
def ownN (c : Int) (l : List It) : Nat := l.countP (fun i => i.own == c)
def itB (now : Int) (i : It) : Bool := clB i.own && (lastB i.un now && vT i.t)
def itsB (now : Int) (l : List It) : Bool := decide (l.length ≤ 64) && (l.all (itB now) && l.all (fun i => decide (ownN i.own l ≤ 24)))
def wtB (x : Wt) : Bool := clB x.cl && (decide (1 ≤ x.sq) && (decide (x.sq ≤ 1073741824) && pT x.p))
def wtsB (l : List Wt) : Bool := decide (l.length ≤ 16) && l.all wtB
def rpB (r : Rp) : Bool :=
  if r.sq = 0 then (r.kd == 0) && (r.t.isEmpty && !r.lt)
  else if r.sq < 0 ∨ 1073741824 < r.sq then false
  else if r.kd = 2 then vT r.t
  else decide (1 ≤ r.kd) && (decide (r.kd ≤ 6) && (r.t.isEmpty && !r.lt))
def lasB : Nat → List Rp → Bool
  | _, [] => true
  | c, r :: l => (r.cl == (c : Int)) && (rpB r && lasB (c + 1) l)
def alB (x : Int) : Bool := decide (0 ≤ x) && decide (x ≤ 15)
def spMay (s : Sp) : Bool := decide (0 ≤ s.now) && (decide (s.now ≤ 1099511627776) && (alB s.rd && (alB s.wr && (itsB s.now s.its && (wtsB s.wts && lasB 0 s.last)))))
def newS (rd wr : Int) : Sp := ⟨0, [], [], bits .and .i64 rd 15, bits .and .i64 wr 15, [⟨0, 0, 0, [], false⟩, ⟨1, 0, 0, [], false⟩, ⟨2, 0, 0, [], false⟩, ⟨3, 0, 0, [], false⟩]⟩
def i0 : It := ⟨0, 0, []⟩
def RowL {α : Type} (w : World) (p : Option Addr) (sz : Nat) (f : α → List Value) (l : List α) : Prop :=
  ∀ j x, l[j]? = some x → ∃ b o, p = some ⟨b, o, none⟩ ∧ b < w.heap.size ∧ w.rangeAt b (o + j * sz) (f x)
section
variable {α : Type} {w w' : World} {p : Option Addr} {sz : Nat} {f : α → List Value} {l : List α}
theorem RowL.below (h : RowL w p sz f l) (hb : Below w.heap.size w w') : RowL w' p sz f l := fun j x hx => by
  obtain ⟨b, o, e, hl, r⟩ := h j x hx
  exact ⟨b, o, e, Nat.lt_of_lt_of_le hl hb.size, fun i v hv => (hb.cell (p := ⟨b, o + j * sz + i, none⟩) hl).trans (r i v hv)⟩
theorem RowL.nil : RowL w p sz f ([] : List α) := fun j x hx => by simp at hx
theorem flat_length (hf : ∀ x, (f x).length = sz) : ∀ (l : List α), (l.flatMap f).length = l.length * sz
  | [] => by simp
  | x :: l => by rw [List.flatMap_cons, List.length_append, flat_length hf l, hf, List.length_cons, Nat.add_mul]; omega
theorem flat_get (hf : ∀ x, (f x).length = sz) : ∀ (l : List α) (j i : Nat) (x : α), l[j]? = some x → i < sz → (l.flatMap f)[j * sz + i]? = (f x)[i]?
  | [], j, i, x, hx, _ => by simp at hx
  | y :: l, 0, i, x, hx, hi => by
    obtain rfl : y = x := by simpa using hx
    rw [List.flatMap_cons, Nat.zero_mul, Nat.zero_add, List.getElem?_append_left (by rw [hf]; exact hi)]
  | y :: l, j + 1, i, x, hx, hi => by
    rw [List.flatMap_cons, List.getElem?_append_right (by rw [hf, Nat.add_mul]; omega), hf, show (j + 1) * sz + i - sz = j * sz + i by rw [Nat.add_mul]; omega]
    exact flat_get hf l j i x (by simpa using hx) hi
theorem flat_one (h1 : ∀ x, ∀ v ∈ f x, v.oneCell' = true) (l : List α) : ∀ v ∈ l.flatMap f, v.oneCell' = true := fun v hv => by
  obtain ⟨x, _, hx⟩ := List.mem_flatMap.1 hv
  exact h1 x v hx
theorem RowL.of_own {base n c : Nat} {e : TypeId} (hf : ∀ x, (f x).length = sz) (hn : n = l.length) (h : w.ownsRow base e sz (.slice p n c) n (l.flatMap f)) : RowL w p sz f l := fun j x hx => by
  have hj : j < l.length := (List.getElem?_eq_some_iff.1 hx).1
  rcases h.2 with ⟨_, h0⟩ | ⟨g, cap, cur, e, _, hh, _⟩
  · omega
  · have hA : p = some ⟨g, 0, none⟩ := by injection e
    subst hA
    refine ⟨g, 0, rfl, (Array.getElem?_eq_some_iff.1 hh).1, fun i v hv => ?_⟩
    have hi : i < sz := by have := (List.getElem?_eq_some_iff.1 hv).1; rwa [hf] at this
    have hm : j * sz + i < n * sz := by
      have : (j + 1) * sz ≤ n * sz := Nat.mul_le_mul_right _ (by omega)
      rw [Nat.add_mul] at this
      omega
    rw [show 0 + j * sz + i = j * sz + i by omega, h.cellAt (j * sz + i) hm, flat_get hf l j i x hx hi]
    exact hv
theorem RowL.flat (hf : ∀ x, (f x).length = sz) (h : RowL w p sz f l) (hn : 0 < l.length) (hz : 0 < sz) : ∃ a : Addr, p = some a ∧ a.spot = none ∧ ∀ j u, (l.flatMap f)[j]? = some u → w.cell? (a.add j) = some u := by
  obtain ⟨b, o, rfl, _, _⟩ := h 0 l[0] (List.getElem?_eq_getElem hn)
  refine ⟨⟨b, o, none⟩, rfl, rfl, fun j u hu => ?_⟩
  have hj : j < l.length * sz := by have := (List.getElem?_eq_some_iff.1 hu).1; rwa [flat_length hf] at this
  have hd : j / sz < l.length := Nat.div_lt_of_lt_mul (by rw [Nat.mul_comm]; exact hj)
  have hm : j % sz < sz := Nat.mod_lt _ hz
  have he : j / sz * sz + j % sz = j := by rw [Nat.mul_comm]; exact Nat.div_add_mod j sz
  obtain ⟨b', o', e, _, r⟩ := h (j / sz) l[j / sz] (List.getElem?_eq_getElem hd)
  injection e with e
  injection e with e1 e2
  subst e1 e2
  rw [← he, flat_get hf l (j / sz) (j % sz) l[j / sz] (List.getElem?_eq_getElem hd) hm] at hu
  have := r (j % sz) u hu
  rw [Nat.add_assoc, he] at this
  rw [show (⟨b, o, none⟩ : Addr).add j = ⟨b, o + j, none⟩ by unfold Addr.add; split <;> simp_all]
  exact this
end
theorem run_append_rows {α : Type} {P : Program} {w : World} {f : α → List Value} {sz by_ : Nat} {z : Value} (t ty e : TypeId) (ht : P.underlying t = some (.slice e)) (hi : (P.info? e).map (fun i => (i.zero, i.size, i.bytes)) = some (some z, sz, by_)) (hz : z.cells.size = sz) (h0 : 0 < sz) (hby : by_ ≤ 1000)
    (hf : ∀ x, (f x).length = sz) (h1 : ∀ x, ∀ v ∈ f x, v.oneCell' = true) (base : Nat) (v : Value) (n : Nat) (xs : List Value) (hown : w.ownsRow base e sz v n xs) (p : Option Addr) (m c : Nat) (l : List α) (hm : l.length = m) (hp : RowL w p sz f l)
    (h63 : n + m ≤ 1000000) (hbase : base ≤ w.heap.size) :
    ∃ v' w', (Builtin.append_ #[t, t] ty #[v, .slice p m c]).run P w = .ok v' w' ∧ w'.ownsRow base e sz v' (n + m) (xs ++ l.flatMap f) ∧ w.grownBy w' v.ownBlock ∧ (v'.ownBlock = v.ownBlock ∨ v'.ownBlock = some w.heap.size) ∧ (m = 0 → v' = v) := by
  obtain ⟨i, hi', hzi, hs, hb⟩ : ∃ i, P.info? e = some i ∧ i.zero = some z ∧ i.size = sz ∧ i.bytes = by_ := by
    cases hq : P.info? e with
    | none => simp [hq] at hi
    | some i => simp [hq] at hi; exact ⟨i, rfl, hi⟩
  by_cases hm0 : m = 0
  · subst hm0
    obtain rfl : l = [] := List.eq_nil_of_length_eq_zero hm
    refine ⟨v, w, ?_, by simpa using hown, ⟨rfl, rfl, rfl, Nat.le_refl _, fun _ _ _ => rfl⟩, .inl rfl, fun _ => rfl⟩
    rcases hown.2 with ⟨rfl, rfl⟩ | ⟨g, cap, cur, rfl, _, hcur, hnc, _⟩
    · cases p <;> simp [Builtin.append_, run_underlying ht, sizeOf, typeInfo, hi', Builtin.lenOf, Builtin.firstCells, loadCells, loadCellsFrom]
    · cases p <;> simp [Builtin.append_, run_underlying ht, sizeOf, typeInfo, hi', Builtin.lenOf, Builtin.firstCells, hnc, storeCells, loadCells, loadCellsFrom]
  · obtain ⟨ad, rfl, _, hc⟩ := hp.flat hf (by omega) h0
    have hbig : (n + m) * by_ ≤ 140737488355328 := Nat.le_trans (Nat.mul_le_mul h63 hby) (by omega)
    obtain ⟨v', w', hr, h2, h3, _, h5⟩ := run_append_own_at (P := P) w base t ty e i z sz by_ ht hi' hzi hs hb hz h0 v n xs hown ad m c (l.flatMap f) (by rw [flat_length hf, hm]) hc (flat_one h1 l) (by simp only [maxLen]; omega) hbig hbase
    exact ⟨v', w', hr, h2, h3, h5, fun h => absurd h hm0⟩
section
variable {ops : Array Oper} {rest : List Oper} {o : Oper} {a : Act} {Q : Exit → Act → World → Prop} {w : World} {α : Type} {P : Program} {f : α → List Value} {sz by_ : Nat} {z : Value}
theorem wp_append_rows {K : Act → World → Prop} (s x : Operand) (t : TypeId) (ho : o.op = .call { callee := .builtin .append, args := #[s, x], argTypes := #[t, t] })
    (e : TypeId) (ht : P.underlying t = some (.slice e)) (hi : (P.info? e).map (fun i => (i.zero, i.size, i.bytes)) = some (some z, sz, by_)) (hz : z.cells.size = sz) (h0 : 0 < sz) (hby : by_ ≤ 1000)
    (hf : ∀ x, (f x).length = sz) (h1 : ∀ x, ∀ v ∈ f x, v.oneCell' = true) (base : Nat) (v : Value) (n : Nat) (xs : List Value) (hs : a.eval s = v) (hown : w.ownsRow base e sz v n xs) (p : Option Addr) (m c : Nat) (hx : a.eval x = .slice p m c) (l : List α) (hm : l.length = m) (hp : RowL w p sz f l)
    (h63 : n + m ≤ 1000000) (hbase : base ≤ w.heap.size)
    (h : ∀ v' w', Hid (w'.ownsRow base e sz v' (n + m) (xs ++ l.flatMap f)) → Hid (w.grownBy w' v.ownBlock) → Hid (v'.ownBlock = v.ownBlock ∨ v'.ownBlock = some w.heap.size) → Hid (m = 0 → v' = v) → K (a.put o.dst v') w') : o.wp P a w K Q := by
  obtain ⟨v', w', hr, h2, h3, h5, h6⟩ := run_append_rows (P := P) (w := w) t o.type e ht hi hz h0 hby hf h1 base v n xs hown p m c l hm hp h63 hbase
  unfold Oper.wp execOp
  simp only [ho, resolve, invoke, builtin, Sem.run_bind, Sem.run_pure, Result.andThen_ok, List.map_toArray, List.map_cons, List.map_nil, hs, hx, hr]
  exact h v' w' (Lib.hid h2) (Lib.hid h3) (Lib.hid h5) (Lib.hid h6)
theorem append_rows (s x : Operand) (t : TypeId) (hgd : o.guard = none) (ho : o.op = .call { callee := .builtin .append, args := #[s, x], argTypes := #[t, t] })
    (e : TypeId) (ht : P.underlying t = some (.slice e)) (hi : (P.info? e).map (fun i => (i.zero, i.size, i.bytes)) = some (some z, sz, by_)) (hz : z.cells.size = sz) (h0 : 0 < sz) (hby : by_ ≤ 1000)
    (hf : ∀ x, (f x).length = sz) (h1 : ∀ x, ∀ v ∈ f x, v.oneCell' = true) (base : Nat) (v : Value) (n : Nat) (xs : List Value) (hs : a.eval s = v) (hown : w.ownsRow base e sz v n xs) (p : Option Addr) (m c : Nat) (hx : a.eval x = .slice p m c) (l : List α) (hm : l.length = m) (hp : RowL w p sz f l)
    (h63 : n + m ≤ 1000000) (hbase : base ≤ w.heap.size)
    (h : ∀ v' w', Hid (w'.ownsRow base e sz v' (n + m) (xs ++ l.flatMap f)) → Hid (w.grownBy w' v.ownBlock) → Hid (v'.ownBlock = v.ownBlock ∨ v'.ownBlock = some w.heap.size) → Hid (m = 0 → v' = v) → wpList P ops Q rest (a.put o.dst v') w') : wpList P ops Q (o :: rest) a w :=
  wpList_plain hgd fun _ hK => wp_append_rows s x t ho e ht hi hz h0 hby hf h1 base v n xs hs hown p m c hx l hm hp h63 hbase fun v' w' h2 h3 h5 h6 => hK _ _ (h v' w' h2 h3 h5 h6)
end
structure Itv where
  i : It
  p : Option Addr
  c : Nat
structure Wtv where
  x : Wt
  p : Option Addr
  c : Nat
structure Rpv where
  r : Rp
  p : Option Addr
  c : Nat
structure Spv where
  now : Int
  its : List Itv
  ip : Option Addr
  ic : Nat
  wts : List Wtv
  wp : Option Addr
  wc : Nat
  rd : Int
  wr : Int
  last : List Rpv
def iv (x : Itv) : List Value := [.int .i64 x.i.own, .int .i64 x.i.un, .slice x.p x.i.t.length x.c]
def wv (x : Wtv) : List Value := [.int .i64 x.x.cl, .int .i64 x.x.sq, .bool x.x.tk, .slice x.p x.x.p.length x.c]
def pv (x : Rpv) : List Value := [.int .i64 x.r.cl, .int .i64 x.r.sq, .int .i64 x.r.kd, .slice x.p x.r.t.length x.c, .bool x.r.lt]
def sv (x : Spv) : List Value := [.int .i64 x.now, .slice x.ip x.its.length x.ic, .slice x.wp x.wts.length x.wc, .int .i64 x.rd, .int .i64 x.wr] ++ x.last.flatMap pv
def Spv.sp (x : Spv) : Sp := ⟨x.now, x.its.map (·.i), x.wts.map (·.x), x.rd, x.wr, x.last.map (·.r)⟩
theorem iv_len (x : Itv) : (iv x).length = 3 := rfl
theorem wv_len (x : Wtv) : (wv x).length = 4 := rfl
theorem pv_len (x : Rpv) : (pv x).length = 5 := rfl
theorem iv_one (x : Itv) : ∀ v ∈ iv x, v.oneCell' = true := fun v hv => by
  simp only [iv, List.mem_cons, List.not_mem_nil, or_false] at hv
  rcases hv with rfl | rfl | rfl <;> rfl
theorem wv_one (x : Wtv) : ∀ v ∈ wv x, v.oneCell' = true := fun v hv => by
  simp only [wv, List.mem_cons, List.not_mem_nil, or_false] at hv
  rcases hv with rfl | rfl | rfl | rfl <;> rfl
theorem pv_one (x : Rpv) : ∀ v ∈ pv x, v.oneCell' = true := fun v hv => by
  simp only [pv, List.mem_cons, List.not_mem_nil, or_false] at hv
  rcases hv with rfl | rfl | rfl | rfl | rfl <;> rfl
theorem iv_size (x : Itv) : (Tryz.prog.info? 108).map (·.size) = some (iv x).length := by
  show (Tryz.prog.info? 108).map (·.size) = some 3
  kernel_rfl
theorem wv_size (x : Wtv) : (Tryz.prog.info? 113).map (·.size) = some (wv x).length := by
  show (Tryz.prog.info? 113).map (·.size) = some 4
  kernel_rfl
theorem pv_size (x : Rpv) : (Tryz.prog.info? 79).map (·.size) = some (pv x).length := by
  show (Tryz.prog.info? 79).map (·.size) = some 5
  kernel_rfl
theorem sv_len (x : Spv) (h : x.last.length = 4) : (sv x).length = 25 := by
  unfold sv
  rw [List.length_append, flat_length pv_len, h]
  rfl
theorem sv_size (x : Spv) (h : x.last.length = 4) : (Tryz.prog.info? 82).map (·.size) = some (sv x).length := by
  rw [sv_len x h]
  kernel_rfl
structure TR (w : World) (p : Option Addr) (l : List Fld) : Prop where
  t : Rw w p l.length (gl l)
  n : l.length ≤ 9223372036854775807
theorem TR.below {w w' : World} {p : Option Addr} {l : List Fld} (h : TR w p l) (hb : Below w.heap.size w w') : TR w' p l := ⟨h.t.below hb, h.n⟩
structure SpW (w : World) (x : Spv) : Prop where
  its : RowL w x.ip 3 iv x.its
  it : ∀ y ∈ x.its, TR w y.p y.i.t
  wts : RowL w x.wp 4 wv x.wts
  wt : ∀ y ∈ x.wts, TR w y.p y.x.p
  l4 : x.last.length = 4
  la : ∀ y ∈ x.last, TR w y.p y.r.t
  n : x.its.length ≤ 9223372036854775807
  m : x.wts.length ≤ 9223372036854775807
theorem SpW.below {w w' : World} {x : Spv} (h : SpW w x) (hb : Below w.heap.size w w') : SpW w' x :=
  ⟨h.its.below hb, fun y hy => (h.it y hy).below hb, h.wts.below hb, fun y hy => (h.wt y hy).below hb, h.l4, fun y hy => (h.la y hy).below hb, h.n, h.m⟩
end Go.Proofs.YtidklgicmhdapaaGreatDoor
