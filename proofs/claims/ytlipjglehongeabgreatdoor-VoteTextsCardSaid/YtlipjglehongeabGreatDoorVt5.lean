/-
  PACKAGE tuple
  LAYERS 6, 7 as layer 8 wants them
-/
import Derived.Test.YtlipjglehongeabGreatDoorVt4
import Derived.Laws.IdiomStrings
namespace Go.Proofs.YtlipjglehongeabGreatDoor
open Go Go.RowKit Sh

def sameN (n : Nat) (G : Nat → Fld) (m : Nat) (H : Nat → Fld) : Bool := decide (n = m) && allN (fun j => sameF (G j) (H j)) n
end Go.Proofs.YtlipjglehongeabGreatDoor
namespace Go.Proofs.YtlipjglehongeabGreatDoor
open Go Go.RowKit Sh

def eS : ByteArray := { data := #[] }
theorem Kept.setRowK {F : Nat → Prop} {a w : World} (h : Kept F a w) {g : Nat} (hg : F g ∨ a.heap.size ≤ g) (c : Array Value) : Kept F a (w.setRow g c) :=
  ⟨h.os, h.tape, h.output, by simpa using h.size, fun k hk hf => by
    have hne : k ≠ g := fun e => by
      subst e
      rcases hg with h1 | h1
      · exact hf h1
      · omega
    exact (setRow_other w g k c hne).trans (h.block k hk hf)⟩
theorem world_at {P : Program} {c : Code} {Q : Exit → Act → World → Prop} {a : Act} {w : World} (R : World → Prop) (h : R w) (k : ∀ W, R W → Code.wp P c Q a W) : Code.wp P c Q a w := k w h
def InR (f : Fld) : Prop := -9223372036854775808 ≤ f.n ∧ f.n ≤ 9223372036854775807
theorem Rw.congr {w : World} {p : Option Addr} {n : Nat} {G H : Nat → Fld} (h : Rw w p n G) (hg : ∀ j, j < n → G j = H j) : Rw w p n H := fun j hj => by
  obtain ⟨b, o, e, hl, r⟩ := h j hj
  exact ⟨b, o, e, hl, by rw [← hg j hj]; exact r⟩
structure Rq where
  cl : Int
  sq : Int
  kd : Int
  le : Int
  n : Nat
  G : Nat → Fld
  m : Nat
  H : Nat → Fld
theorem load_blk_gO {P : Program} {ops : Array Oper} {rest : List Oper} {o : Oper} {a : Act} {w : World} {Q : Exit → Act → World → Prop} (ty : TypeId) (x : Operand) (g : Nat) (t : TypeId) (cs : List Value) (d : TypeDesc)
    (hw : Region.wanted o (yielded ops a.tmps) = true) (ho : o.op = .load ty x) (hg : Blk w g t cs) (hu : P.underlying ty = some d) (hd : d.isRow = true) (hi : (P.info? ty).map (·.size) = some cs.length)
    (hx : a.eval x = .pointer (some ⟨g, 0, none⟩)) (h : wpList P ops Q rest (a.put o.dst (.agg cs.toArray)) w) : wpList P ops Q (o :: rest) a w :=
  BigFrame.wpList_want hw fun _ hK => wload_part ty x g 0 t [] cs [] d ho (by simpa using hg) rfl hu hd hi hx (hK _ _ h)
theorem load_blk_gdO {P : Program} {ops : Array Oper} {rest : List Oper} {o : Oper} {a : Act} {w : World} {Q : Exit → Act → World → Prop} (D : Nat) (ty : TypeId) (x : Operand) (g : Nat) (t : TypeId) (cs : List Value) (d : TypeDesc)
    (_hD : o.dst = some D) (hw : Region.wanted o (yielded ops a.tmps) = true) (ho : o.op = .load ty x) (hg : Blk w g t cs) (hu : P.underlying ty = some d) (hd : d.isRow = true) (hi : (P.info? ty).map (·.size) = some cs.length)
    (hx : a.eval x = .pointer (some ⟨g, 0, none⟩)) (h : wpList P ops Q rest (a.put o.dst (.agg cs.toArray)) w) : wpList P ops Q (o :: rest) a w :=
  load_blk_gO ty x g t cs d hw ho hg hu hd hi hx h
structure Rv where
  r : Rq
  p : Option Addr
  c : Nat
  t : Option Addr
  d : Nat
def rv (x : Rv) : List Value := [.int .i64 x.r.cl, .int .i64 x.r.sq, .int .i64 x.r.kd, .slice x.p x.r.n x.c, .slice x.t x.r.m x.d, .int .i64 x.r.le]
end Go.Proofs.YtlipjglehongeabGreatDoor
