/-
  MEMORY: a block that is known whole (as a list of cells), a slice that reads as a list of bytes, and what draws, new blocks and stores do to them.
-/
import Derived.Test.YthcebaegijlbdaaDoorPure
import Derived.Below
import Derived.Laws.OwnMore
import Derived.Deep.Draws
import Derived.Laws.Rows
import Derived.Laws.Tables
import Derived.Laws.NewBlocks
import Derived.Deep.MidRow
namespace Go.Proofs.YthcebaegijlbdaaDoor
open Go Go.RowKit Sh

/-- Block g is just the cells cs, of element type t, all of them writable. -/
def Blk (w : World) (g : Nat) (t : TypeId) (cs : List Value) : Prop := w.heap[g]? = some (.cells cs.toArray t (0, 0))

namespace Blk
variable {w w' : World} {g : Nat} {t : TypeId} {cs : List Value}
theorem lt (h : Blk w g t cs) : g < w.heap.size := by
  by_cases hlt : g < w.heap.size
  · exact hlt
  · have : w.heap[g]? = none := Array.getElem?_eq_none (by omega)
    rw [Blk, this] at h
    cases h
theorem cell (h : Blk w g t cs) (i : Nat) : w.cell? ⟨g, i, none⟩ = cs[i]? := by
  rw [cell_of_row w g i _ t (0, 0) h]; simp
theorem frozen (h : Blk w g t cs) (i : Nat) : w.frozen? ⟨g, i, none⟩ = false := by
  unfold Blk at h; simp [World.frozen?, h]
theorem new (w : World) (t : TypeId) (cs : List Value) : Blk (w.alloc (.cells cs.toArray t)) w.heap.size t cs := heap_alloc_new w _
theorem new2 (w : World) (o : Obj) (t : TypeId) (cs : List Value) : Blk ((w.alloc o).alloc (.cells cs.toArray t)) (w.heap.size + 1) t cs := heap_alloc2_new w o _
theorem drew (h : Blk w g t cs) : Blk w.drew g t cs := h
theorem drewN (h : Blk w g t cs) (n : Nat) : Blk (w.drewN n) g t cs := h
theorem alloc (h : Blk w g t cs) (o : Obj) : Blk (w.alloc o) g t cs := (Below.heap_alloc w o g h.lt).trans h
theorem store (h : Blk w g t cs) (i : Nat) (u : Value) : Blk (w.setCell ⟨g, i, none⟩ u) g t (cs.set i u) := by
  unfold Blk at h ⊢
  simp [World.setCell, Array.getElem?_modify, h]
theorem far (h : Blk w g t cs) {p : Addr} (hp : g ≠ p.block) (u : Value) : Blk (w.setCell p u) g t cs := (Below.heap_setCell w p u g hp).trans h
theorem below {B : Nat} (h : Blk w g t cs) (hb : Below B w w') (hg : g < B) : Blk w' g t cs := (hb.block g hg).trans h
theorem setRow (h : Blk w g t cs) (cs' : List Value) : Blk (w.setRow g cs'.toArray) g t cs' := setRow_heap w g _ _ t (0, 0) h
theorem setRow_far (h : Blk w g t cs) {g' : Nat} (hg : g ≠ g') (c : Array Value) : Blk (w.setRow g' c) g t cs := (setRow_other w g' g c hg).trans h
theorem apart {g' : Nat} {t' : TypeId} {cs' : List Value} (h : Blk w g t cs) (h' : Blk w g' t' cs') (hne : t ≠ t') : g ≠ g' := by
  rintro rfl
  unfold Blk at h h'
  rw [h] at h'
  injection h' with h'
  injection h' with _ ht
  exact hne ht
end Blk
/-- A whole block is loaded. -/
theorem load_blk {P : Program} {ops : Array Oper} {rest : List Oper} {o : Oper} {a : Act} {w : World} {Q : Exit → Act → World → Prop} (ty : TypeId) (x : Operand) (g : Nat) (t : TypeId) (cs : List Value) (d : TypeDesc)
    (hgd : o.guard = none) (ho : o.op = .load ty x) (hg : Blk w g t cs) (hu : P.underlying ty = some d) (hd : (match d with | .struct _ | .array _ _ => true | _ => false) = true) (hi : (P.info? ty).map (·.size) = some cs.length)
    (hx : a.eval x = .pointer (some ⟨g, 0, none⟩)) (h : wpList P ops Q rest (a.put o.dst (.agg cs.toArray)) w) : wpList P ops Q (o :: rest) a w :=
  wpList_load_row hgd ty x ho g hx t cs.toArray (0, 0) d hg hu hd (by simpa using hi) h
/-- A whole block is written. -/
theorem store_blk {P : Program} {ops : Array Oper} {rest : List Oper} {o : Oper} {a : Act} {w : World} {Q : Exit → Act → World → Prop} (ty : TypeId) (x y : Operand) (g : Nat) (t : TypeId) (cs cs' : List Value)
    (hgd : o.guard = none) (ho : o.op = .store ty x y) (hg : Blk w g t cs) (hl : cs.length = cs'.length) (hi : (P.info? ty).map (·.size) = some cs'.length) (h1 : cs'.toArray.all (·.oneCell') = true)
    (hx : a.eval x = .pointer (some ⟨g, 0, none⟩)) (hy : a.eval y = .agg cs'.toArray) (h : wpList P ops Q rest (a.put o.dst undef) (w.setRow g cs'.toArray)) : wpList P ops Q (o :: rest) a w :=
  wpList_store_row hgd ty x y ho g cs'.toArray hx hy t cs.toArray hg (by simpa using hi) (by simpa using hl) h1 h
theorem below_setRow {B g : Nat} {a w : World} (h : Below B a w) (hB : B ≤ g) (c : Array Value) : Below B a (w.setRow g c) :=
  h.trans ⟨rfl, rfl, rfl, by simp, fun k hk => setRow_other w g k c (by omega)⟩
/-- The function's end, where its result is a whole block of cells. -/
theorem ret_blk {P : Program} {fn : Func} {R : Ending → World → Prop} {a : Act} {w : World} {p : Tmp} {ty : TypeId} (hr : fn.results = #[.cell p ty]) (hd : a.defers = []) (g : Nat) (t : TypeId) (cs : List Value) (d : TypeDesc)
    (hp : a.tmps.getD p undef = .pointer (some ⟨g, 0, none⟩)) (hg : Blk w g t cs) (hu : P.underlying ty = some d)
    (hdd : (match d with | .struct _ | .array _ _ => true | _ => false) = true) (hi : (P.info? ty).map (·.size) = some cs.length)
    (hR : R (.returned (.agg cs.toArray)) w) : bodyPost P fn R .ret a w :=
  bodyPost_ret_by (results_cell_row hr a.tmps w g t cs.toArray (0, 0) d hp hg hu hdd (by simpa using hi)) hd hR

def u32s (l : List Nat) : List Value := l.map fun (n : Nat) => .int .u32 (n : Int)
def u8s (l : List Nat) : List Value := l.map fun (n : Nat) => .int .u8 (n : Int)
theorem u32s_one (l : List Nat) : (u32s l).toArray.all (·.oneCell') = true := all_oneCell_toArray (fun v hv => by obtain ⟨n, _, rfl⟩ := List.mem_map.1 hv; rfl)
theorem u8s_one (l : List Nat) : (u8s l).toArray.all (·.oneCell') = true := all_oneCell_toArray (fun v hv => by obtain ⟨n, _, rfl⟩ := List.mem_map.1 hv; rfl)
theorem u32s_length (l : List Nat) : (u32s l).length = l.length := List.length_map _
theorem u8s_length (l : List Nat) : (u8s l).length = l.length := List.length_map _
theorem u32s_get (l : List Nat) (i : Nat) (h : i < l.length) : (u32s l)[i]? = some (.int .u32 ((gt l i : Nat) : Int)) := by
  simp [u32s, gt, List.getD_eq_getElem?_getD, List.getElem?_eq_getElem h]
theorem u8s_get (l : List Nat) (i : Nat) (h : i < l.length) : (u8s l)[i]? = some (.int .u8 ((gt l i : Nat) : Int)) := by
  simp [u8s, gt, List.getD_eq_getElem?_getD, List.getElem?_eq_getElem h]
theorem u32s_set (l : List Nat) (i v : Nat) : (u32s l).set i (.int .u32 (v : Int)) = u32s (l.set i v) := by simp [u32s, List.map_set]
theorem u8s_set (l : List Nat) (i v : Nat) : (u8s l).set i (.int .u8 (v : Int)) = u8s (l.set i v) := by simp [u8s, List.map_set]

theorem gt_of_lt {l : List Nat} {i : Nat} (h : i < l.length) : gt l i = l[i] := by simp [gt, List.getD_eq_getElem?_getD, List.getElem?_eq_getElem h]
theorem gt_out {l : List Nat} {i : Nat} (h : l.length ≤ i) : gt l i = 0 := by simp [gt, List.getD_eq_getElem?_getD, List.getElem?_eq_none h]
theorem gt_app_left {l m : List Nat} {i : Nat} (h : i < l.length) : gt (l ++ m) i = gt l i := by simp [gt, List.getD_eq_getElem?_getD, List.getElem?_append_left h]
theorem gt_app_right {l m : List Nat} {i : Nat} (h : l.length ≤ i) : gt (l ++ m) i = gt m (i - l.length) := by simp [gt, List.getD_eq_getElem?_getD, List.getElem?_append_right h]

/-- Bytes lie in memory, from the address a on. -/
def BytesAt (w : World) (b o : Nat) (l : List Nat) : Prop := ∀ j, j < l.length → w.cell? ⟨b, o + j, none⟩ = some (.int .u8 ((gt l j : Nat) : Int))
theorem BytesAt.below {w w' : World} {B b o : Nat} {l : List Nat} (h : BytesAt w b o l) (hb : Below B w w') (hB : b < B) : BytesAt w' b o l :=
  fun j hj => (hb.cell (p := ⟨b, o + j, none⟩) hB).trans (h j hj)
/-- The table K of package sha lies in its variable. -/
structure KAt (w : World) : Prop where
  lt : 1 < w.heap.size
  cell : ∀ j, j < 64 → w.cell? ⟨1, j, none⟩ = some (.int .u32 ((gt ks j : Nat) : Int))
theorem KAt.below {w w' : World} {B : Nat} (h : KAt w) (hb : Below B w w') (hB : 1 < B) : KAt w' :=
  ⟨Nat.lt_of_lt_of_le h.lt hb.size, fun j hj => (hb.cell (p := ⟨1, j, none⟩) hB).trans (h.cell j hj)⟩
def Bytes (l : List Nat) : Prop := ∀ i, gt l i < 256
def Words (l : List Nat) : Prop := ∀ i, gt l i < 4294967296
end Go.Proofs.YthcebaegijlbdaaDoor
