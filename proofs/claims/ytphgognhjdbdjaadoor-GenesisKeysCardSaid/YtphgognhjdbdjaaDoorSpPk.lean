/-
  LAYERS 6, 7 as layer 8 wants them: no bytes.
-/
import Derived.Test.YtphgognhjdbdjaaDoorTpEk
import Derived.Laws.IdiomStrings
namespace Go.Proofs.YtphgognhjdbdjaaDoor
open Go Go.RowKit Sh

def eS : ByteArray := { data := #[] }
theorem Kept.setRowK {F : Nat → Prop} {a w : World} (h : Kept F a w) {g : Nat} (hg : F g ∨ a.heap.size ≤ g) (c : Array Value) : Kept F a (w.setRow g c) :=
  ⟨h.os, h.tape, h.output, by simpa using h.size, fun k hk hf => by
    have hne : k ≠ g := fun e => by
      subst e
      rcases hg with h1 | h1
      · exact hf h1
      · omega
    exact (setRow_other w g k c hne).trans (h.block k hk hf)⟩
theorem world_at {P : Program} {c : Code} {Q : Exit → Act → World → Prop} {a : Act} {w : World} (R : World → Prop) (h : R w) (k : ∀ W, R W → Code.wp P c Q a W) : Code.wp P c Q a w := k w h
/-- A field whose number is one. -/
def InR (f : Fld) : Prop := -9223372036854775808 ≤ f.n ∧ f.n ≤ 9223372036854775807
theorem Rw.congr {w : World} {p : Option Addr} {n : Nat} {G H : Nat → Fld} (h : Rw w p n G) (hg : ∀ j, j < n → G j = H j) : Rw w p n H := fun j hj => by
  obtain ⟨b, o, e, hl, r⟩ := h j hj
  exact ⟨b, o, e, hl, by rw [← hg j hj]; exact r⟩
/-- A request: who, its number, its kind, how long, its two rows of fields. -/
structure Rq where
  cl : Int
  sq : Int
  kd : Int
  le : Int
  n : Nat
  G : Nat → Fld
  m : Nat
  H : Nat → Fld
structure InRq (r : Rq) : Prop where
  p : ∀ j, j < r.n → InR (r.G j)
  t : ∀ j, j < r.m → InR (r.H j)
/-- What a request that may be has. -/
structure MayH (r : Rq) : Prop where
  cl0 : 0 ≤ r.cl
  cl4 : r.cl < 4
  sq1 : 1 ≤ r.sq
  sqm : r.sq ≤ 1073741824
  k1 : 1 ≤ r.kd
  k8 : r.kd ≤ 8
  le0 : 0 ≤ r.le
  lem : r.le ≤ 1099511627776
  p : r.n = 0 ∨ mayP r.n r.G = true
  t : r.m = 0 ∨ mayP r.m r.H = true
/-- A whole block is loaded where a guard says yes. -/
theorem load_blk_gO {P : Program} {ops : Array Oper} {rest : List Oper} {o : Oper} {a : Act} {w : World} {Q : Exit → Act → World → Prop} (ty : TypeId) (x : Operand) (g : Nat) (t : TypeId) (cs : List Value) (d : TypeDesc)
    (hw : Region.wanted o (yielded ops a.tmps) = true) (ho : o.op = .load ty x) (hg : Blk w g t cs) (hu : P.underlying ty = some d) (hd : d.isRow = true) (hi : (P.info? ty).map (·.size) = some cs.length)
    (hx : a.eval x = .pointer (some ⟨g, 0, none⟩)) (h : wpList P ops Q rest (a.put o.dst (.agg cs.toArray)) w) : wpList P ops Q (o :: rest) a w :=
  BigFrame.wpList_want hw fun _ hK => wload_part ty x g 0 t [] cs [] d ho (by simpa using hg) rfl hu hd hi hx (hK _ _ h)
/-- The load of ONE operation, named by the slot that it writes. -/
theorem load_blk_gdO {P : Program} {ops : Array Oper} {rest : List Oper} {o : Oper} {a : Act} {w : World} {Q : Exit → Act → World → Prop} (D : Nat) (ty : TypeId) (x : Operand) (g : Nat) (t : TypeId) (cs : List Value) (d : TypeDesc)
    (_hD : o.dst = some D) (hw : Region.wanted o (yielded ops a.tmps) = true) (ho : o.op = .load ty x) (hg : Blk w g t cs) (hu : P.underlying ty = some d) (hd : d.isRow = true) (hi : (P.info? ty).map (·.size) = some cs.length)
    (hx : a.eval x = .pointer (some ⟨g, 0, none⟩)) (h : wpList P ops Q rest (a.put o.dst (.agg cs.toArray)) w) : wpList P ops Q (o :: rest) a w :=
  load_blk_gO ty x g t cs d hw ho hg hu hd hi hx h
/-- A request as it is handed on: where its rows lie. -/
structure Rv where
  r : Rq
  p : Option Addr
  c : Nat
  t : Option Addr
  d : Nat
/-- Its rows. -/
structure RvW (w : World) (x : Rv) : Prop where
  p : Rw w x.p x.r.n x.r.G
  t : Rw w x.t x.r.m x.r.H
  n : x.r.n ≤ 9223372036854775807
  m : x.r.m ≤ 9223372036854775807
theorem RvW.below {w w' : World} {x : Rv} (h : RvW w x) (hb : Below w.heap.size w w') : RvW w' x := ⟨h.p.below hb, h.t.below hb, h.n, h.m⟩
end Go.Proofs.YtphgognhjdbdjaaDoor
