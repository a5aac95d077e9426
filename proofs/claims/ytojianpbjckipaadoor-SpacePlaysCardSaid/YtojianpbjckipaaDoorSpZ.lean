/-
  LAYER 8: a row of asks; play.
-/
import Derived.Test.YtojianpbjckipaaDoorSpY
namespace Go.Proofs.YtojianpbjckipaaDoor
open Go Go.RowKit Sh

section
variable {P : Program} {ops : Array Oper} {Q : Exit → Act → World → Prop} {md : Region.Mode} {S : World → Prop} {last : Nat → Bool}
/-- The one that may come up now loads a whole block. -/
theorem wpAnyE_load {i : Nat} {o : Oper} {fuel : Nat} {listed : Array Bool} {a : Act} {w : World} (hr : Region.ready md ops listed = [i]) (hi : ops[i]? = some o) (hwd : Region.wanted o (yielded ops a.tmps) = true)
    (ty : TypeId) (x : Operand) (g : Nat) (t : TypeId) (cs : List Value) (d : TypeDesc) (ho : o.op = .load ty x) (hg : Blk w g t cs) (hu : P.underlying ty = some d) (hd : d.isRow = true) (hz : (P.info? ty).map (·.size) = some cs.length) (hx : a.eval x = .pointer (some ⟨g, 0, none⟩))
    (hS : last i = true ∨ S w) (h : wpAnyE P md ops Q S last fuel (listed.setIfInBounds i true) (a.put o.dst (.agg cs.toArray)) w) : wpAnyE P md ops Q S last (fuel + 1) listed a w :=
  wpAnyE_one hr hi hwd fun _ hK => wload_part ty x g 0 t [] cs [] d ho (by simpa using hg) rfl hu hd hz hx (hK.out _ _ hS h)
/-- The one that may come up now stores a whole block. -/
theorem wpAnyE_store {i : Nat} {o : Oper} {fuel : Nat} {listed : Array Bool} {a : Act} {w : World} (hr : Region.ready md ops listed = [i]) (hi : ops[i]? = some o) (hwd : Region.wanted o (yielded ops a.tmps) = true)
    (ty : TypeId) (x y : Operand) (g : Nat) (t : TypeId) (cs cs' : List Value) (ho : o.op = .store ty x y) (hg : Blk w g t cs) (hl : cs.length = cs'.length) (hz : (P.info? ty).map (·.size) = some cs'.length) (h1 : cs'.toArray.all (·.oneCell') = true)
    (hx : a.eval x = .pointer (some ⟨g, 0, none⟩)) (hy : a.eval y = .agg cs'.toArray)
    (h : ∀ w', Blk w' g t cs' → Kept (fun b => b = g) w w' → (last i = true ∨ S w') ∧ wpAnyE P md ops Q S last fuel (listed.setIfInBounds i true) (a.put o.dst undef) w') : wpAnyE P md ops Q S last (fuel + 1) listed a w :=
  wpAnyE_one hr hi hwd fun _ hK => wstore_part ty x y g 0 t [] cs [] cs' ho (by simpa using hg) rfl hl hz h1 hx hy fun w' a1 a2 _ => by
    obtain ⟨h1, h2⟩ := h w' (by simpa using a1.out) (a2.out.keptOne rfl)
    exact hK.out _ _ h1 h2
end
/-- An Ask as it lies. -/
structure Av where
  r : Rv
  d : Int
def al (x : Av) : List Value := rv x.r ++ [.int .i64 x.d]
/-- A row of asks. -/
structure AW (w : World) (A : Option Addr) (n : Nat) (F : Nat → Av) : Prop where
  at_ : ∀ j, j < n → ∃ b o, A = some ⟨b, o, none⟩ ∧ b < w.heap.size ∧ w.rangeAt b (o + j * 7) (al (F j))
  r : ∀ j, j < n → RvW w (F j).r
theorem AW.below {w w' : World} {A : Option Addr} {n : Nat} {F : Nat → Av} (h : AW w A n F) (hb : Below w.heap.size w w') : AW w' A n F :=
  ⟨fun j hj => by
    obtain ⟨b, o, e, hl, r⟩ := h.at_ j hj
    exact ⟨b, o, e, Nat.lt_of_lt_of_le hl hb.size, rows_below r hb hl⟩, fun j hj => (h.r j hj).below hb⟩
theorem AW.read {w : World} {A : Option Addr} {n : Nat} {F : Nat → Av} (h : AW w A n F) {j : Nat} (hj : j < n) : ∃ b o, A = some ⟨b, o, none⟩ ∧ b < w.heap.size ∧ w.rangeAt b (o + j * 7) (rv (F j).r) ∧ w.cell? ⟨b, o + j * 7 + 6, none⟩ = some (.int .i64 (F j).d) := by
  obtain ⟨b, o, e, hl, r⟩ := h.at_ j hj
  refine ⟨b, o, e, hl, fun i v hv => r i v ?_, r 6 _ rfl⟩
  unfold al
  rw [List.getElem?_append_left (List.getElem?_eq_some_iff.1 hv).1]
  exact hv
/-- A space that is worked on in the block g. -/
structure PL (w0 W : World) (g : Nat) (x : Spv) : Prop where
  box : Blk W g 31 (sv x)
  sf : SF w0.heap.size W x
  op : Op15 x.sp
  ge : w0.heap.size ≤ g
  bel : Below w0.heap.size w0 W
theorem PL.w {w0 W : World} {g : Nat} {x : Spv} (h : PL w0 W g x) : SpW W x := h.sf.w h.op.may.small
theorem PL.below {w0 W W' : World} {g : Nat} {x : Spv} (h : PL w0 W g x) (hb : Below W.heap.size W W') : PL w0 W' g x := ⟨h.box.below hb h.box.lt, h.sf.below hb, h.op, h.ge, h.bel.trans (hb.mono h.bel.size)⟩
theorem sf_new (rd wr a b c d : Int) (B : Nat) (W : World) : SF B W (nsp rd wr a b c d) :=
  ⟨World.ownsRow_nil _ _ _ _, (fun y hy => by cases hy), World.ownsRow_nil _ _ _ _, (fun y hy => by cases hy), rfl, fun y hy => by
    simp only [nsp, List.mem_cons, List.not_mem_nil, or_false] at hy
    rcases hy with rfl | rfl | rfl | rfl <;> exact FT.nil _ _⟩
theorem PL.put {w0 W W' V : World} {g : Nat} {x x' : Spv} (h : PL w0 W g x) (hs : SF W.heap.size W' x') (ho : Op15 x'.sp) (hb : Below W.heap.size W W') (hk : Kept (fun b => b = g) W' V) (hx : Blk V g 31 (sv x')) : PL w0 V g x' := by
  have bx := h.box.below hb h.box.lt
  have b1 : Below w0.heap.size w0 W' := h.bel.trans (hb.mono h.bel.size)
  exact ⟨hx, (hs.low h.bel.size).kept hk bx, ho, h.ge, b1.trans ⟨hk.os, hk.tape, hk.output, hk.size, fun k hlt => hk.block k (Nat.lt_of_lt_of_le hlt b1.size) (by have := h.ge; omega)⟩⟩
def zSp : List Value := [.int .i64 0, .slice none 0 0, .slice none 0 0, .int .i64 0, .int .i64 0, .int .i64 0, .int .i64 0, .int .i64 0, .slice none 0 0, .bool false, .int .i64 0, .int .i64 0, .int .i64 0, .slice none 0 0, .bool false, .int .i64 0, .int .i64 0, .int .i64 0, .slice none 0 0, .bool false, .int .i64 0, .int .i64 0, .int .i64 0, .slice none 0 0, .bool false]
end Go.Proofs.YtojianpbjckipaaDoor
