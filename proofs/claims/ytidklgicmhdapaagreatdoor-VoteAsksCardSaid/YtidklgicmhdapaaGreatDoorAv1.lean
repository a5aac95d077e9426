/-
  MEMORY
-/
import Derived.Test.YtidklgicmhdapaaGreatDoorAv0
import Derived.Test.YtidklgicmhdapaaGreatDoorChecked
import Derived.Below
import Derived.Laws.OwnMore
import Derived.Deep.Draws
import Derived.Laws.Rows
import Derived.Laws.Tables
import Derived.Laws.NewBlocks
import Derived.Deep.MidRow
import Derived.Laws.CopyOwn
import Derived.Lib.Hide
import Derived.Lib.SliceRun
import Derived.Orders
import Derived.WalkKit
import Derived.Maps.AppendAt
import Derived.Deep.AppendLies
import Derived.StillTailTactics
import Derived.OwnWalk
import Derived.BigQuiet
import Derived.Deep.QuietTactic
import Derived.Laws.BytesArg
import Derived.Laws.BytesString
import Derived.OrdersHeld
namespace Go.Proofs.YtidklgicmhdapaaGreatDoor
open Go Go.RowKit Sh

def Blk (w : World) (g : Nat) (t : TypeId) (cs : List Value) : Prop := w.heap[g]? = some (.cells cs.toArray t (0, 0))

namespace Blk
variable {w w' : World} {g : Nat} {t : TypeId} {cs : List Value}
theorem lt (h : Blk w g t cs) : g < w.heap.size := by
  by_cases hlt : g < w.heap.size
  · exact hlt
  · have : w.heap[g]? = none := Array.getElem?_eq_none (by omega)
    rw [Blk, this] at h
    cases h
theorem cell (h : Blk w g t cs) (i : Nat) : w.cell? ⟨g, i, none⟩ = cs[i]? := by
  rw [cell_of_row w g i _ t (0, 0) h]; simp
theorem frozen (h : Blk w g t cs) (i : Nat) : w.frozen? ⟨g, i, none⟩ = false := by
  unfold Blk at h; simp [World.frozen?, h]
theorem new (w : World) (t : TypeId) (cs : List Value) : Blk (w.alloc (.cells cs.toArray t)) w.heap.size t cs := heap_alloc_new w _
theorem new2 (w : World) (o : Obj) (t : TypeId) (cs : List Value) : Blk ((w.alloc o).alloc (.cells cs.toArray t)) (w.heap.size + 1) t cs := heap_alloc2_new w o _
theorem drew (h : Blk w g t cs) : Blk w.drew g t cs := h
theorem drewN (h : Blk w g t cs) (n : Nat) : Blk (w.drewN n) g t cs := h
theorem alloc (h : Blk w g t cs) (o : Obj) : Blk (w.alloc o) g t cs := (Below.heap_alloc w o g h.lt).trans h
theorem store (h : Blk w g t cs) (i : Nat) (u : Value) : Blk (w.setCell ⟨g, i, none⟩ u) g t (cs.set i u) := by
  unfold Blk at h ⊢
  simp [World.setCell, Array.getElem?_modify, h]
theorem far (h : Blk w g t cs) {p : Addr} (hp : g ≠ p.block) (u : Value) : Blk (w.setCell p u) g t cs := (Below.heap_setCell w p u g hp).trans h
theorem below {B : Nat} (h : Blk w g t cs) (hb : Below B w w') (hg : g < B) : Blk w' g t cs := (hb.block g hg).trans h
theorem setRow (h : Blk w g t cs) (cs' : List Value) : Blk (w.setRow g cs'.toArray) g t cs' := setRow_heap w g _ _ t (0, 0) h
theorem setRow_far (h : Blk w g t cs) {g' : Nat} (hg : g ≠ g') (c : Array Value) : Blk (w.setRow g' c) g t cs := (setRow_other w g' g c hg).trans h
theorem apart {g' : Nat} {t' : TypeId} {cs' : List Value} (h : Blk w g t cs) (h' : Blk w g' t' cs') (hne : t ≠ t') : g ≠ g' := by
  rintro rfl
  unfold Blk at h h'
  rw [h] at h'
  injection h' with h'
  injection h' with _ ht
  exact hne ht
end Blk
theorem load_blk {P : Program} {ops : Array Oper} {rest : List Oper} {o : Oper} {a : Act} {w : World} {Q : Exit → Act → World → Prop} (ty : TypeId) (x : Operand) (g : Nat) (t : TypeId) (cs : List Value) (d : TypeDesc)
    (hgd : o.guard = none) (ho : o.op = .load ty x) (hg : Blk w g t cs) (hu : P.underlying ty = some d) (hd : (match d with | .struct _ | .array _ _ => true | _ => false) = true) (hi : (P.info? ty).map (·.size) = some cs.length)
    (hx : a.eval x = .pointer (some ⟨g, 0, none⟩)) (h : wpList P ops Q rest (a.put o.dst (.agg cs.toArray)) w) : wpList P ops Q (o :: rest) a w :=
  wpList_load_row hgd ty x ho g hx t cs.toArray (0, 0) d hg hu hd (by simpa using hi) h
theorem store_blk {P : Program} {ops : Array Oper} {rest : List Oper} {o : Oper} {a : Act} {w : World} {Q : Exit → Act → World → Prop} (ty : TypeId) (x y : Operand) (g : Nat) (t : TypeId) (cs cs' : List Value)
    (hgd : o.guard = none) (ho : o.op = .store ty x y) (hg : Blk w g t cs) (hl : cs.length = cs'.length) (hi : (P.info? ty).map (·.size) = some cs'.length) (h1 : cs'.toArray.all (·.oneCell') = true)
    (hx : a.eval x = .pointer (some ⟨g, 0, none⟩)) (hy : a.eval y = .agg cs'.toArray) (h : wpList P ops Q rest (a.put o.dst undef) (w.setRow g cs'.toArray)) : wpList P ops Q (o :: rest) a w :=
  wpList_store_row hgd ty x y ho g cs'.toArray hx hy t cs.toArray hg (by simpa using hi) (by simpa using hl) h1 h
theorem below_setRow {B g : Nat} {a w : World} (h : Below B a w) (hB : B ≤ g) (c : Array Value) : Below B a (w.setRow g c) :=
  h.trans ⟨rfl, rfl, rfl, by simp, fun k hk => setRow_other w g k c (by omega)⟩
theorem ret_blk {P : Program} {fn : Func} {R : Ending → World → Prop} {a : Act} {w : World} {p : Tmp} {ty : TypeId} (hr : fn.results = #[.cell p ty]) (hd : a.defers = []) (g : Nat) (t : TypeId) (cs : List Value) (d : TypeDesc)
    (hp : a.tmps.getD p undef = .pointer (some ⟨g, 0, none⟩)) (hg : Blk w g t cs) (hu : P.underlying ty = some d)
    (hdd : (match d with | .struct _ | .array _ _ => true | _ => false) = true) (hi : (P.info? ty).map (·.size) = some cs.length)
    (hR : R (.returned (.agg cs.toArray)) w) : bodyPost P fn R .ret a w :=
  bodyPost_ret_by (results_cell_row hr a.tmps w g t cs.toArray (0, 0) d hp hg hu hdd (by simpa using hi)) hd hR

def u32s (l : List Nat) : List Value := l.map fun (n : Nat) => .int .u32 (n : Int)
def u8s (l : List Nat) : List Value := l.map fun (n : Nat) => .int .u8 (n : Int)
theorem u32s_one (l : List Nat) : (u32s l).toArray.all (·.oneCell') = true := all_oneCell_toArray (fun v hv => by obtain ⟨n, _, rfl⟩ := List.mem_map.1 hv; rfl)
theorem u8s_one (l : List Nat) : (u8s l).toArray.all (·.oneCell') = true := all_oneCell_toArray (fun v hv => by obtain ⟨n, _, rfl⟩ := List.mem_map.1 hv; rfl)
theorem u32s_length (l : List Nat) : (u32s l).length = l.length := List.length_map _
theorem u8s_length (l : List Nat) : (u8s l).length = l.length := List.length_map _
theorem u32s_get (l : List Nat) (i : Nat) (h : i < l.length) : (u32s l)[i]? = some (.int .u32 ((gt l i : Nat) : Int)) := by
  simp [u32s, gt, List.getD_eq_getElem?_getD, List.getElem?_eq_getElem h]
theorem u8s_get (l : List Nat) (i : Nat) (h : i < l.length) : (u8s l)[i]? = some (.int .u8 ((gt l i : Nat) : Int)) := by
  simp [u8s, gt, List.getD_eq_getElem?_getD, List.getElem?_eq_getElem h]
theorem u32s_set (l : List Nat) (i v : Nat) : (u32s l).set i (.int .u32 (v : Int)) = u32s (l.set i v) := by simp [u32s, List.map_set]
theorem u8s_set (l : List Nat) (i v : Nat) : (u8s l).set i (.int .u8 (v : Int)) = u8s (l.set i v) := by simp [u8s, List.map_set]

theorem gt_of_lt {l : List Nat} {i : Nat} (h : i < l.length) : gt l i = l[i] := by simp [gt, List.getD_eq_getElem?_getD, List.getElem?_eq_getElem h]
theorem gt_out {l : List Nat} {i : Nat} (h : l.length ≤ i) : gt l i = 0 := by simp [gt, List.getD_eq_getElem?_getD, List.getElem?_eq_none h]
theorem gt_app_left {l m : List Nat} {i : Nat} (h : i < l.length) : gt (l ++ m) i = gt l i := by simp [gt, List.getD_eq_getElem?_getD, List.getElem?_append_left h]
theorem gt_app_right {l m : List Nat} {i : Nat} (h : l.length ≤ i) : gt (l ++ m) i = gt m (i - l.length) := by simp [gt, List.getD_eq_getElem?_getD, List.getElem?_append_right h]

def BytesAt (w : World) (b o : Nat) (l : List Nat) : Prop := ∀ j, j < l.length → w.cell? ⟨b, o + j, none⟩ = some (.int .u8 ((gt l j : Nat) : Int))
theorem BytesAt.below {w w' : World} {B b o : Nat} {l : List Nat} (h : BytesAt w b o l) (hb : Below B w w') (hB : b < B) : BytesAt w' b o l :=
  fun j hj => (hb.cell (p := ⟨b, o + j, none⟩) hB).trans (h j hj)
structure KAt (w : World) : Prop where
  lt : 1 < w.heap.size
  cell : ∀ j, j < 64 → w.cell? ⟨1, j, none⟩ = some (.int .u32 ((gt ks j : Nat) : Int))
theorem KAt.below {w w' : World} {B : Nat} (h : KAt w) (hb : Below B w w') (hB : 1 < B) : KAt w' :=
  ⟨Nat.lt_of_lt_of_le h.lt hb.size, fun j hj => (hb.cell (p := ⟨1, j, none⟩) hB).trans (h.cell j hj)⟩
def Bytes (l : List Nat) : Prop := ∀ i, gt l i < 256
end Go.Proofs.YtidklgicmhdapaaGreatDoor
namespace Go.Proofs.YtidklgicmhdapaaGreatDoor
open Go Go.RowKit Sh

structure But (B g : Nat) (w w' : World) : Prop where
  os : w'.os = w.os
  tape : w'.tape = w.tape
  output : w'.output = w.output
  size : w.heap.size ≤ w'.heap.size
  block : ∀ k, k < B → k ≠ g → w'.heap[k]? = w.heap[k]?
namespace But
variable {B g : Nat} {a b w w' : World}
theorem refl (B g : Nat) (w : World) : But B g w w := ⟨rfl, rfl, rfl, Nat.le_refl _, fun _ _ _ => rfl⟩
theorem trans (h : But B g a b) (k : But B g b w) : But B g a w :=
  ⟨k.os.trans h.os, k.tape.trans h.tape, k.output.trans h.output, Nat.le_trans h.size k.size, fun i hi hg => (k.block i hi hg).trans (h.block i hi hg)⟩
theorem mono {B' : Nat} (h : But B g a b) (hB : B' ≤ B) : But B' g a b := ⟨h.os, h.tape, h.output, h.size, fun k hk hg => h.block k (by omega) hg⟩
theorem of_below (h : Below B a b) (g : Nat) : But B g a b := ⟨h.os, h.tape, h.output, h.size, fun k hk _ => h.block k hk⟩
theorem below {B' : Nat} (h : But B g a b) (h1 : B' ≤ g) (h2 : B' ≤ B) : Below B' a b := ⟨h.os, h.tape, h.output, h.size, fun k hk => h.block k (by omega) (by omega)⟩
theorem setCell (h : But B g a w) (i : Nat) (u : Value) : But B g a (w.setCell ⟨g, i, none⟩ u) :=
  h.trans ⟨rfl, rfl, rfl, by simp [World.setCell], fun _ _ hk => Below.heap_setCell _ _ _ _ hk⟩
theorem setRow (h : But B g a w) (c : Array Value) : But B g a (w.setRow g c) :=
  h.trans ⟨rfl, rfl, rfl, by simp, fun k _ hg => setRow_other w g k c hg⟩
theorem drew (h : But B g a w) : But B g a w.drew := ⟨h.os, h.tape, h.output, h.size, h.block⟩
theorem cell (h : But B g a w) {p : Addr} (hp : p.block < B) (hg : p.block ≠ g) : w.cell? p = a.cell? p := World.cell?_of_block (w := a) (h.block p.block hp hg)
end But
theorem Blk.but {w w' : World} {B g g' : Nat} {t : TypeId} {cs : List Value} (h : Blk w g' t cs) (hb : But B g w w') (hg : g' < B) (hne : g' ≠ g) : Blk w' g' t cs := (hb.block g' hg hne).trans h
theorem BytesAt.but {w w' : World} {B g b o : Nat} {l : List Nat} (h : BytesAt w b o l) (hb : But B g w w') (hB : b < B) (hne : b ≠ g) : BytesAt w' b o l :=
  fun j hj => (hb.cell (p := ⟨b, o + j, none⟩) hB hne).trans (h j hj)
theorem KAt.but {w w' : World} {B g : Nat} (h : KAt w) (hb : But B g w w') (hB : 1 < B) (hne : 1 ≠ g) : KAt w' :=
  ⟨Nat.lt_of_lt_of_le h.lt hb.size, fun j hj => (hb.cell (p := ⟨1, j, none⟩) hB hne).trans (h.cell j hj)⟩

theorem setCells_row (g : Nat) (t : TypeId) : ∀ (M' : List Value) (w : World) (A M C : List Value), Blk w g t (A ++ (M ++ C)) → M.length = M'.length → Blk (w.setCells g A.length M') g t (A ++ (M' ++ C))
  | [], w, A, M, C, h, hl => by
    obtain rfl : M = [] := List.eq_nil_of_length_eq_zero hl
    exact h
  | v :: r, w, A, m :: M, C, h, hl => by
    have h1 := h.store A.length v
    rw [List.set_append_right _ _ (Nat.le_refl _), Nat.sub_self, List.cons_append, List.set_cons_zero] at h1
    have e : A ++ (v :: (M ++ C)) = (A ++ [v]) ++ (M ++ C) := by simp
    rw [e] at h1
    have h2 := setCells_row g t r _ (A ++ [v]) M C h1 (by simpa using hl)
    have e2 : A ++ (v :: r ++ C) = (A ++ [v]) ++ (r ++ C) := by simp
    rw [e2]
    have e3 : (A ++ [v]).length = A.length + 1 := by simp
    rw [e3] at h2
    exact h2
theorem But.setCells {B g : Nat} {a : World} : ∀ (vs : List Value) (o : Nat) (w : World), But B g a w → But B g a (w.setCells g o vs)
  | [], _, _, h => h
  | v :: r, o, _, h => But.setCells r (o + 1) _ (h.setCell o v)
theorem setCells_size (g : Nat) : ∀ (vs : List Value) (o : Nat) (w : World), (w.setCells g o vs).heap.size = w.heap.size
  | [], _, _ => rfl
  | v :: r, o, w => (setCells_size g r (o + 1) _).trans (by simp [World.setCell])
theorem there_of {w : World} {g : Nat} {t : TypeId} {A M C : List Value} (h : Blk w g t (A ++ (M ++ C))) : w.there g A.length M.length := fun j hj => by
  rw [h.cell, h.frozen, List.getElem?_append_right (by omega), List.getElem?_append_left (by omega), List.getElem?_eq_getElem (by omega)]
  exact ⟨rfl, rfl⟩
theorem range_of {w : World} {g : Nat} {t : TypeId} {A M C : List Value} (h : Blk w g t (A ++ (M ++ C))) : w.rangeAt g A.length M := fun j v hv => by
  have hj : j < M.length := (List.getElem?_eq_some_iff.1 hv).1
  rw [h.cell, List.getElem?_append_right (by omega), List.getElem?_append_left (by omega), ← hv]
  congr 1; omega

theorem sliceAt_low {P : Program} {t e : TypeId} {n : Nat} (hu : P.underlying t = some (.array n e)) (hs : (P.info? e).map (·.size) = some 1) (g off : Nat) (k : IntKind) (l : Int) (m : Nat) (h0 : 0 ≤ l) (h1 : l ≤ n) (hm : m = n - l.toNat) :
    ∃ p, (0 < m → p = some ⟨g, off + l.toNat, none⟩) ∧ ∀ W, (Instr.sliceAt t (.pointer (some ⟨g, off, none⟩)) (some (.int k l)) none none).run P W = .ok (.slice p m m) W := by
  have hz : ∀ W, (sizeOf e).run P W = .ok 1 W := by
    cases hq : P.info? e with
    | none => simp [hq] at hs
    | some i => simp [hq] at hs; intro W; simp [sizeOf, typeInfo, hq, hs]
  refine ⟨some (if n = l.toNat then ⟨g, off, none⟩ else ⟨g, off + l.toNat, none⟩), fun h => by rw [if_neg (by omega)], fun W => ?_⟩
  subst hm
  have e1 : ∀ W, (Instr.sliceBound (.int k l) n .sliceB).run P W = .ok l.toNat W := fun W => by
    simp [Instr.sliceBound, asIntOf, h0, h1]
  simp [Instr.sliceAt, Instr.sureAddr, run_underlying hu, Instr.sliceBounds, e1, hz, Result.andThen]
  by_cases hn : n = l.toNat
  · simp [hn]
  · simp [hn, Addr.add_mid]
theorem slice_low {P : Program} {t e : TypeId} (hu : P.underlying t = some (.slice e)) (hs : (P.info? e).map (·.size) = some 1) (p : Option Addr) (n c : Nat) (k : IntKind) (l : Nat) (h1 : l ≤ n) (hc : n ≤ c) :
    ∃ p2, (l < n → ∀ g off, p = some ⟨g, off, none⟩ → p2 = some ⟨g, off + l, none⟩) ∧ ∀ W, (Instr.slice t (.slice p n c) (some (.int k (l : Int))) none none).run P W = .ok (.slice p2 (n - l) (c - l)) W := by
  have hz : ∀ W, (sizeOf e).run P W = .ok 1 W := by
    cases hq : P.info? e with
    | none => simp [hq] at hs
    | some i => simp [hq] at hs; intro W; simp [sizeOf, typeInfo, hq, hs]
  have e1 : ∀ W, (Instr.sliceBound (.int k (l : Int)) n .sliceB).run P W = .ok l W := fun W => by
    simp [Instr.sliceBound, asIntOf, h1]
  refine ⟨if c = l then p else p.map (·.add l), fun h g off hp => ?_, fun W => ?_⟩
  · rw [if_neg (by omega), hp]; simp [Addr.add_mid]
  · simp [Instr.slice, run_underlying hu, Instr.sliceBounds, e1, hz, Result.andThen]
theorem sliceAt_all {P : Program} {t e : TypeId} {n : Nat} (hu : P.underlying t = some (.array n e)) (hs : (P.info? e).map (·.size) = some 1) (g off : Nat) :
    ∀ W, (Instr.sliceAt t (.pointer (some ⟨g, off, none⟩)) none none none).run P W = .ok (.slice (some ⟨g, off, none⟩) n n) W := by
  have hz : ∀ W, (sizeOf e).run P W = .ok 1 W := by
    cases hq : P.info? e with
    | none => simp [hq] at hs
    | some i => simp [hq] at hs; intro W; simp [sizeOf, typeInfo, hq, hs]
  intro W
  simp [Instr.sliceAt, Instr.sureAddr, run_underlying hu, Instr.sliceBounds, hz, Result.andThen, Addr.add]
section
variable {P : Program} {ops : Array Oper} {rest : List Oper} {o : Oper} {a : Act} {w : World} {Q : Exit → Act → World → Prop}
theorem at_op (X : Op) (_ : o.op = X) (h : wpList P ops Q (o :: rest) a w) : wpList P ops Q (o :: rest) a w := h
theorem load_part (ty : TypeId) (x : Operand) (g off : Nat) (t : TypeId) (A M C : List Value) (d : TypeDesc) (hgd : o.guard = none) (ho : o.op = .load ty x) (hg : Blk w g t (A ++ (M ++ C))) (hoff : off = A.length)
    (hu : P.underlying ty = some d) (hd : d.isRow = true) (hi : (P.info? ty).map (·.size) = some M.length) (hx : a.eval x = .pointer (some ⟨g, off, none⟩))
    (h : wpList P ops Q rest (a.put o.dst (.agg M.toArray)) w) : wpList P ops Q (o :: rest) a w := by
  subst hoff
  exact wpList_load_mid hgd ty x ho g A.length hx M d (range_of hg) hu hd hi h
theorem store_part (ty : TypeId) (x y : Operand) (g off : Nat) (t : TypeId) (A M C M' : List Value) (hgd : o.guard = none) (ho : o.op = .store ty x y) (hg : Blk w g t (A ++ (M ++ C))) (hoff : off = A.length)
    (hl : M.length = M'.length) (hi : (P.info? ty).map (·.size) = some M'.length) (h1 : M'.toArray.all (·.oneCell') = true) (hx : a.eval x = .pointer (some ⟨g, off, none⟩)) (hy : a.eval y = .agg M'.toArray)
    (h : ∀ w', Hid (Blk w' g t (A ++ (M' ++ C))) → Hid (But w.heap.size g w w') → Hid (w'.heap.size = w.heap.size) → wpList P ops Q rest (a.put o.dst undef) w') : wpList P ops Q (o :: rest) a w := by
  subst hoff
  refine wpList_store_mid hgd ty x y ho g A.length M'.toArray hx hy (by simpa [hl] using there_of hg) (by simpa using hi) h1 (h _ ?_ ?_ ?_)
  · exact Lib.hid (setCells_row g t M' w A M C hg hl)
  · exact Lib.hid (But.setCells _ _ _ (But.refl _ _ _))
  · exact Lib.hid (setCells_size _ _ _ _)
theorem wpOp_mk {i : Nat} {K : Act → World → Prop} (hi : ops[i]? = some o) (hw : Region.wanted o (yielded ops a.tmps) = true) (h : o.wp P a w K Q) : wpOp P ops Q i K a w := by
  unfold wpOp
  rw [hi]
  simp only [hw, if_true]
  exact Or.inl h
theorem wload_part {K : Act → World → Prop} (ty : TypeId) (x : Operand) (g off : Nat) (t : TypeId) (A M C : List Value) (d : TypeDesc) (ho : o.op = .load ty x) (hg : Blk w g t (A ++ (M ++ C))) (hoff : off = A.length)
    (hu : P.underlying ty = some d) (hd : d.isRow = true) (hi : (P.info? ty).map (·.size) = some M.length) (hx : a.eval x = .pointer (some ⟨g, off, none⟩))
    (h : K (a.put o.dst (.agg M.toArray)) w) : o.wp P a w K Q := by
  subst hoff
  exact wp_load_mid ty x ho g A.length hx M d (range_of hg) hu hd hi h
theorem wstore_part {K : Act → World → Prop} (ty : TypeId) (x y : Operand) (g off : Nat) (t : TypeId) (A M C M' : List Value) (ho : o.op = .store ty x y) (hg : Blk w g t (A ++ (M ++ C))) (hoff : off = A.length)
    (hl : M.length = M'.length) (hi : (P.info? ty).map (·.size) = some M'.length) (h1 : M'.toArray.all (·.oneCell') = true) (hx : a.eval x = .pointer (some ⟨g, off, none⟩)) (hy : a.eval y = .agg M'.toArray)
    (h : ∀ w', Hid (Blk w' g t (A ++ (M' ++ C))) → Hid (But w.heap.size g w w') → Hid (w'.heap.size = w.heap.size) → K (a.put o.dst undef) w') : o.wp P a w K Q := by
  subst hoff
  refine wp_store_mid ty x y ho g A.length M'.toArray hx hy (by simpa [hl] using there_of hg) (by simpa using hi) h1 (h _ ?_ ?_ ?_)
  · exact Lib.hid (setCells_row g t M' w A M C hg hl)
  · exact Lib.hid (But.setCells _ _ _ (But.refl _ _ _))
  · exact Lib.hid (setCells_size _ _ _ _)
theorem clear_part (x : Operand) (dT elem : TypeId) (g off n cap : Nat) (p : Option Addr) (t : TypeId) (A M C : List Value) (hgd : o.guard = none) (ho : o.op = .call { callee := .builtin .clear, args := #[x], argTypes := #[dT] })
    (hg : Blk w g t (A ++ (M ++ C))) (hoff : off = A.length) (hn : n = M.length) (hu : P.underlying dT = some (.slice elem)) (hz : (P.info? elem).map (fun i => (i.zero, i.size)) = some (some (.int .u8 0), 1))
    (hx : a.eval x = .slice p n cap) (hp : 0 < n → p = some ⟨g, off, none⟩)
    (h : ∀ w', Hid (Blk w' g t (A ++ (u8s (List.replicate n 0) ++ C))) → Hid (But w.heap.size g w w') → Hid (w'.heap.size = w.heap.size) → wpList P ops Q rest (a.put o.dst (.tuple #[])) w') : wpList P ops Q (o :: rest) a w := by
  have hzero : ∀ w, (zeroValue elem).run P w = .ok (.int .u8 0) w := by
    cases hq : P.info? elem with
    | none => simp [hq] at hz
    | some i => simp [hq] at hz; intro w; simp [zeroValue, typeInfo, hq, hz.1]
  refine wpList_plain hgd fun K hK => ?_
  by_cases h0 : n = 0
  · subst h0
    have hM : M = [] := List.eq_nil_of_length_eq_zero hn.symm
    subst hM
    have hrun : (Builtin.clear_ #[dT] o.type #[.slice p 0 cap]).run P w = .ok (.tuple #[]) w := by
      cases p <;> simp [Builtin.clear_, run_underlying hu, Result.andThen]
    unfold Oper.wp
    simp [execOp, ho, resolve, invoke, builtin, hx, hrun, Result.andThen]
    exact hK _ _ (h w (Lib.hid hg) (Lib.hid (But.refl _ _ _)) (Lib.hid rfl))
  · obtain rfl := hp (by omega)
    subst hoff hn
    have hrun := Lib.run_clear_slice (P := P) w dT elem o.type (.int .u8 0) hu hzero rfl rfl g A.length M.length cap (by omega) (fun j hj => (there_of hg j hj).1) (fun j hj => (there_of hg j hj).2)
    unfold Oper.wp
    simp [execOp, ho, resolve, invoke, builtin, hx, hrun, Result.andThen]
    have e : List.replicate M.length (Value.int .u8 0) = u8s (List.replicate M.length 0) := by simp [u8s]
    rw [e]
    refine hK _ _ (h _ ?_ ?_ ?_)
    · exact Lib.hid (setCells_row g t _ w A M C hg (by simp [u8s]))
    · exact Lib.hid (But.setCells _ _ _ (But.refl _ _ _))
    · exact Lib.hid (setCells_size _ _ _ _)
theorem copy_part (d s : Operand) (dT sT elem : TypeId) (g off dLen dCap sLen sCap nn : Nat) (dp sp : Option Addr) (t : TypeId) (A M C M' : List Value) (hgd : o.guard = none)
    (ho : o.op = .call { callee := .builtin .copy, args := #[d, s], argTypes := #[dT, sT] }) (hu : P.underlying dT = some (.slice elem)) (hsz : (P.info? elem).map (·.size) = some 1)
    (hg : Blk w g t (A ++ (M ++ C))) (hoff : off = A.length) (hl : M.length = M'.length) (hn : M'.length = Nat.min sLen dLen) (hd : a.eval d = .slice dp dLen dCap) (hs : a.eval s = .slice sp sLen sCap)
    (hpos : 0 < M'.length → dp = some ⟨g, off, none⟩ ∧ ∃ ad, sp = some ad ∧ ∀ j v, M'[j]? = some v → w.cell? (ad.add j) = some v) (h1 : ∀ v ∈ M', v.oneCell' = true) (hnn : M'.length = nn)
    (h : ∀ w', Hid (Blk w' g t (A ++ (M' ++ C))) → Hid (But w.heap.size g w w') → Hid (w'.heap.size = w.heap.size) → wpList P ops Q rest (a.put o.dst (.int .i64 (nn : Int))) w') : wpList P ops Q (o :: rest) a w := by
  subst hnn
  by_cases h0 : M'.length = 0
  · obtain rfl : M' = [] := List.eq_nil_of_length_eq_zero h0
    obtain rfl : M = [] := List.eq_nil_of_length_eq_zero hl
    exact wpList_copy_nothing hgd d s dT sT ho elem hu hsz dp sp dLen dCap sLen sCap hd hs (by simpa using hn.symm) (h w (Lib.hid hg) (Lib.hid (But.refl _ _ _)) (Lib.hid rfl))
  · obtain ⟨rfl, ad, rfl, hsrc⟩ := hpos (by omega)
    subst hoff
    refine wpList_copy_own hgd d s dT sT ho elem hu hsz g A.length dLen dCap ad sLen sCap hd hs (A ++ (M ++ C)).toArray t hg M' hn hsrc (by simp; omega) h1 (h _ ?_ ?_ ?_)
    · have e : (A ++ (M ++ C)).take A.length ++ (M' ++ (A ++ (M ++ C)).drop (A.length + M'.length)) = A ++ (M' ++ C) := by
        rw [← hl, ← List.drop_drop, List.take_left, List.drop_left, List.drop_left]
      rw [← e]
      exact Lib.hid (hg.setRow _)
    · exact Lib.hid ((But.refl _ _ _).setRow _)
    · exact Lib.hid (by simp)
end
end Go.Proofs.YtidklgicmhdapaaGreatDoor
namespace Go.Proofs.YtidklgicmhdapaaGreatDoor
open Go Go.RowKit Sh

structure Kept (F : Nat → Prop) (w w' : World) : Prop where
  os : w'.os = w.os
  tape : w'.tape = w.tape
  output : w'.output = w.output
  size : w.heap.size ≤ w'.heap.size
  block : ∀ k, k < w.heap.size → ¬ F k → w'.heap[k]? = w.heap[k]?
namespace Kept
variable {F G : Nat → Prop} {a b w w' : World}
theorem refl (F : Nat → Prop) (w : World) : Kept F w w := ⟨rfl, rfl, rfl, Nat.le_refl _, fun _ _ _ => rfl⟩
theorem trans (h : Kept F a b) (k : Kept F b w) : Kept F a w :=
  ⟨k.os.trans h.os, k.tape.trans h.tape, k.output.trans h.output, Nat.le_trans h.size k.size, fun i hi hf => (k.block i (Nat.lt_of_lt_of_le hi h.size) hf).trans (h.block i hi hf)⟩
theorem mono (h : Kept F a b) (hF : ∀ k, F k → G k) : Kept G a b := ⟨h.os, h.tape, h.output, h.size, fun k hk hg => h.block k hk (fun hf => hg (hF k hf))⟩
theorem of_below (h : Below a.heap.size a b) : Kept F a b := ⟨h.os, h.tape, h.output, h.size, fun k hk _ => h.block k hk⟩
theorem drew (h : Kept F a w) : Kept F a w.drew := ⟨h.os, h.tape, h.output, h.size, h.block⟩
theorem drewN (h : Kept F a w) (n : Nat) : Kept F a (w.drewN n) := ⟨h.os, h.tape, h.output, h.size, h.block⟩
theorem alloc (h : Kept F a w) (o : Obj) : Kept F a (w.alloc o) := h.trans (of_below ((Below.refl _ _).alloc (Nat.le_refl _) o))
theorem setCell (h : Kept F a w) {p : Addr} (hp : F p.block ∨ a.heap.size ≤ p.block) (u : Value) : Kept F a (w.setCell p u) :=
  ⟨h.os, h.tape, h.output, by simpa [World.setCell] using h.size, fun k hk hf => (Below.heap_setCell w p u k (by
    rintro rfl
    rcases hp with hp | hp
    · exact hf hp
    · omega)).trans (h.block k hk hf)⟩
theorem grown (h : Kept F a w) {row : Option Nat} (hg : w.grownBy w' row) (hr : ∀ k, row = some k → F k ∨ a.heap.size ≤ k) : Kept F a w' :=
  ⟨hg.os.trans h.os, hg.tape.trans h.tape, hg.output.trans h.output, Nat.le_trans h.size hg.size, fun k hk hf => (hg.block k (Nat.lt_of_lt_of_le hk h.size) (fun e => by
    rcases hr k e.symm with hp | hp
    · exact hf hp
    · omega)).trans (h.block k hk hf)⟩
theorem to_below {B : Nat} (h : Kept (fun k => B ≤ k) a b) (hB : B ≤ a.heap.size) : Below B a b := ⟨h.os, h.tape, h.output, h.size, fun k hk => h.block k (by omega) (by omega)⟩
theorem cell (h : Kept F a w) {p : Addr} (hp : p.block < a.heap.size) (hf : ¬ F p.block) : w.cell? p = a.cell? p := World.cell?_of_block (w := a) (h.block p.block hp hf)
end Kept
theorem Blk.kept {F : Nat → Prop} {w w' : World} {g : Nat} {t : TypeId} {cs : List Value} (h : Blk w g t cs) (hk : Kept F w w') (hf : ¬ F g) : Blk w' g t cs := (hk.block g h.lt hf).trans h
theorem grown_of_below {w w' : World} (h : Below w.heap.size w w') (row : Option Nat) : w.grownBy w' row := ⟨h.os, h.tape, h.output, h.size, fun k hk _ => h.block k hk⟩
theorem own_below {w w' : World} {base : Nat} {e : TypeId} {size : Nat} {v : Value} {n : Nat} {xs : List Value} (h : w.ownsRow base e size v n xs) (hb : Below w.heap.size w w') : w'.ownsRow base e size v n xs :=
  h.kept (grown_of_below hb none) (by cases v.ownBlock <;> simp)
theorem own_kept {F : Nat → Prop} {w w' : World} {base : Nat} {e : TypeId} {size : Nat} {v : Value} {n : Nat} {xs : List Value} (h : w.ownsRow base e size v n xs) (hb : Kept F w w') (hf : ∀ k, v.ownBlock = some k → ¬ F k) : w'.ownsRow base e size v n xs := by
  refine ⟨h.1, ?_⟩
  rcases h.2 with hn | ⟨g, cap, cur, rfl, hbb, hgg, rest⟩
  · exact .inl hn
  · exact .inr ⟨g, cap, cur, rfl, hbb, (hb.block g (Array.getElem?_eq_some_iff.1 hgg).1 (hf g rfl)).trans hgg, rest⟩
theorem own_base {w : World} {base base' : Nat} {e : TypeId} {size : Nat} {v : Value} {n : Nat} {xs : List Value} (h : w.ownsRow base e size v n xs) (hb : ∀ k, v.ownBlock = some k → base' ≤ k) : w.ownsRow base' e size v n xs := by
  refine ⟨h.1, ?_⟩
  rcases h.2 with hn | ⟨g, cap, cur, rfl, hbb, rest⟩
  · exact .inl hn
  · exact .inr ⟨g, cap, cur, rfl, hb g rfl, rest⟩
theorem own_form {w : World} {base : Nat} {e : TypeId} {size : Nat} {v : Value} {n : Nat} {xs : List Value} (h : w.ownsRow base e size v n xs) : ∃ A c, v = .slice A n c ∧ n ≤ c := by
  rcases h.2 with ⟨rfl, e⟩ | ⟨b, cap, _, rfl, _, _, hn, _⟩
  · exact ⟨_, _, by rw [e], by omega⟩
  · exact ⟨_, _, rfl, hn⟩
theorem own_apart {w : World} {base : Nat} {e t : TypeId} {size : Nat} {v : Value} {n : Nat} {xs cs : List Value} {g : Nat} (h : w.ownsRow base e size v n xs) (hg : Blk w g t cs) (hne : e ≠ t) : v.ownBlock ≠ some g := by
  rcases h.2 with ⟨rfl, _⟩ | ⟨g', cap, cur, rfl, _, hh, _⟩
  · simp [Value.ownBlock]
  · intro he
    have : g' = g := by simpa [Value.ownBlock] using he
    subst this
    unfold Blk at hg
    rw [hg] at hh
    injection hh with hh
    injection hh with _ ht
    exact hne ht.symm

def Sr (w : World) (p : Option Addr) (xs : List Nat) : Prop := 0 < xs.length → ∃ b o, p = some ⟨b, o, none⟩ ∧ b < w.heap.size ∧ BytesAt w b o xs
theorem Sr.nil {w : World} {p : Option Addr} : Sr w p [] := fun h => absurd h (by simp)
theorem Sr.below {w w' : World} {p : Option Addr} {xs : List Nat} (h : Sr w p xs) (hb : Below w.heap.size w w') : Sr w' p xs := fun hx => by
  obtain ⟨b, o, e, h1, h2⟩ := h hx
  exact ⟨b, o, e, Nat.lt_of_lt_of_le h1 hb.size, h2.below hb h1⟩
theorem Sr.kept {F : Nat → Prop} {w w' : World} {p : Option Addr} {xs : List Nat} (h : Sr w p xs) (hb : Kept F w w') (hf : 0 < xs.length → ∀ a : Addr, p = some a → ¬ F a.block) : Sr w' p xs := fun hx => by
  obtain ⟨b, o, rfl, h1, h2⟩ := h hx
  have hbk := hf hx ⟨b, o, none⟩ rfl
  exact ⟨b, o, rfl, Nat.lt_of_lt_of_le h1 hb.size, fun j hj => (hb.cell (p := ⟨b, o + j, none⟩) h1 hbk).trans (h2 j hj)⟩
theorem Sr.lt {w : World} {p : Option Addr} {xs : List Nat} (h : Sr w p xs) : 0 < xs.length → ∀ a : Addr, p = some a → a.block < w.heap.size := fun hx a ha => by
  obtain ⟨b, o, e, h1, _⟩ := h hx
  rw [ha] at e
  injection e with e
  subst e
  exact h1
theorem Sr.cells {w : World} {p : Option Addr} {xs : List Nat} (h : Sr w p xs) (hx : 0 < xs.length) : ∃ ad, p = some ad ∧ ∀ j u, (u8s xs)[j]? = some u → w.cell? (ad.add j) = some u := by
  obtain ⟨b, o, rfl, _, h2⟩ := h hx
  refine ⟨_, rfl, fun j u hu => ?_⟩
  have hj : j < xs.length := by
    have := (List.getElem?_eq_some_iff.1 hu).1
    rwa [u8s_length] at this
  rw [Addr.add_mid, h2 j hj, ← hu, u8s_get _ _ hj]
theorem u8s_app (l m : List Nat) : u8s (l ++ m) = u8s l ++ u8s m := List.map_append
theorem u8s_each (l : List Nat) : ∀ v ∈ u8s l, v.oneCell' = true := fun v hv => by obtain ⟨n, _, rfl⟩ := List.mem_map.1 hv; rfl

theorem Sr.of_own {w : World} {base : Nat} {e : TypeId} {A : Option Addr} {n c : Nat} {xs : List Nat} (h : w.ownsRow base e 1 (.slice A n c) n (u8s xs)) : Sr w A xs := fun hx => by
  have hn : xs.length = n := by have := h.1; rw [u8s_length] at this; omega
  obtain ⟨g, cap, hv, _, hlt⟩ := h.form (by omega)
  injection hv with h1 h2 h3
  subst h1
  refine ⟨g, 0, rfl, hlt, fun j hj => ?_⟩
  have := h.cells (g := g) rfl j _ (u8s_get xs j hj)
  rw [Addr.add_mid] at this
  exact this

section
variable {P : Program} (w : World)
theorem run_append_bytes (t ty e : TypeId) (ht : P.underlying t = some (.slice e)) (hi : (P.info? e).map (fun i => (i.zero, i.size, i.bytes)) = some (some (.int .u8 0), 1, 1)) (base : Nat) (v : Value) (n : Nat) (xs ys : List Nat)
    (hown : w.ownsRow base e 1 v n (u8s xs)) (p : Option Addr) (m c : Nat) (hm : ys.length = m) (hp : Sr w p ys) (h63 : n + m ≤ 70368744177664) (hbase : base ≤ w.heap.size) :
    ∃ v' w', (Builtin.append_ #[t, t] ty #[v, .slice p m c]).run P w = .ok v' w' ∧ w'.ownsRow base e 1 v' (n + m) (u8s (xs ++ ys)) ∧ w.grownBy w' v.ownBlock ∧ (v'.ownBlock = v.ownBlock ∨ v'.ownBlock = some w.heap.size) := by
  obtain ⟨i, hi', hz, hs, hby⟩ : ∃ i, P.info? e = some i ∧ i.zero = some (.int .u8 0) ∧ i.size = 1 ∧ i.bytes = 1 := by
    cases hq : P.info? e with
    | none => simp [hq] at hi
    | some i => simp [hq] at hi; exact ⟨i, rfl, hi⟩
  by_cases h0 : m = 0
  · subst h0
    obtain rfl : ys = [] := List.eq_nil_of_length_eq_zero hm
    refine ⟨v, w, ?_, by simpa using hown, ⟨rfl, rfl, rfl, Nat.le_refl _, fun _ _ _ => rfl⟩, .inl rfl⟩
    rcases hown.2 with ⟨rfl, rfl⟩ | ⟨g, cap, cur, rfl, _, hcur, hnc, _⟩
    · cases p <;> simp [Builtin.append_, run_underlying ht, sizeOf, typeInfo, hi', Builtin.lenOf, Builtin.firstCells, loadCells, loadCellsFrom]
    · cases p <;> simp [Builtin.append_, run_underlying ht, sizeOf, typeInfo, hi', Builtin.lenOf, Builtin.firstCells, hnc, storeCells, loadCells, loadCellsFrom]
  · obtain ⟨ad, rfl, hc⟩ := hp.cells (by omega)
    obtain ⟨v', w', hr, h2, h3, _, h5⟩ := run_append_own_at (P := P) w base t ty e i (.int .u8 0) 1 1 ht hi' hz hs hby rfl (by omega) v n (u8s xs) hown ad m c (u8s ys) (by rw [u8s_length]; omega) hc (u8s_each _) (by simp only [maxLen]; omega) (by omega) hbase
    exact ⟨v', w', hr, by rw [u8s_app]; exact h2, h3, h5⟩
variable {ops : Array Oper} {rest : List Oper} {o : Oper} {a : Act} {Q : Exit → Act → World → Prop} {w : World}
theorem wp_append_bytes {K : Act → World → Prop} (s x : Operand) (t : TypeId) (ho : o.op = .call { callee := .builtin .append, args := #[s, x], argTypes := #[t, t] })
    (e : TypeId) (ht : P.underlying t = some (.slice e)) (hi : (P.info? e).map (fun i => (i.zero, i.size, i.bytes)) = some (some (.int .u8 0), 1, 1)) (base : Nat) (v : Value) (n : Nat) (xs ys : List Nat) (hs : a.eval s = v)
    (hown : w.ownsRow base e 1 v n (u8s xs)) (p : Option Addr) (m c : Nat) (hx : a.eval x = .slice p m c) (hm : ys.length = m) (hp : Sr w p ys) (h63 : n + m ≤ 70368744177664) (hbase : base ≤ w.heap.size)
    (h : ∀ v' w', Hid (w'.ownsRow base e 1 v' (n + m) (u8s (xs ++ ys))) → Hid (w.grownBy w' v.ownBlock) → Hid (v'.ownBlock = v.ownBlock ∨ v'.ownBlock = some w.heap.size) → K (a.put o.dst v') w') : o.wp P a w K Q := by
  obtain ⟨v', w', hr, h2, h3, h5⟩ := run_append_bytes (P := P) w t o.type e ht hi base v n xs ys hown p m c hm hp h63 hbase
  unfold Oper.wp execOp
  simp only [ho, resolve, invoke, builtin, Sem.run_bind, Sem.run_pure, Result.andThen_ok, List.map_toArray, List.map_cons, List.map_nil, hs, hx, hr]
  exact h v' w' (Lib.hid h2) (Lib.hid h3) (Lib.hid h5)
theorem append_bytes (s x : Operand) (t : TypeId) (hgd : o.guard = none) (ho : o.op = .call { callee := .builtin .append, args := #[s, x], argTypes := #[t, t] })
    (e : TypeId) (ht : P.underlying t = some (.slice e)) (hi : (P.info? e).map (fun i => (i.zero, i.size, i.bytes)) = some (some (.int .u8 0), 1, 1)) (base : Nat) (v : Value) (n : Nat) (xs ys : List Nat) (hs : a.eval s = v)
    (hown : w.ownsRow base e 1 v n (u8s xs)) (p : Option Addr) (m c : Nat) (hx : a.eval x = .slice p m c) (hm : ys.length = m) (hp : Sr w p ys) (h63 : n + m ≤ 70368744177664) (hbase : base ≤ w.heap.size)
    (h : ∀ v' w', Hid (w'.ownsRow base e 1 v' (n + m) (u8s (xs ++ ys))) → Hid (w.grownBy w' v.ownBlock) → Hid (v'.ownBlock = v.ownBlock ∨ v'.ownBlock = some w.heap.size) → wpList P ops Q rest (a.put o.dst v') w') : wpList P ops Q (o :: rest) a w :=
  wpList_plain hgd fun _ hK => wp_append_bytes s x t ho e ht hi base v n xs ys hs hown p m c hx hm hp h63 hbase fun v' w' h2 h3 h5 => hK _ _ (h v' w' h2 h3 h5)
end
theorem slice_high {P : Program} {t e : TypeId} (hu : P.underlying t = some (.slice e)) (hs : (P.info? e).map (·.size) = some 1) (p : Option Addr) (n c : Nat) (k : IntKind) (m : Nat) (hc : m ≤ c) :
    ∀ W, (Instr.slice t (.slice p n c) none (some (.int k (m : Int))) none).run P W = .ok (.slice p m c) W := by
  have hz : ∀ W, (sizeOf e).run P W = .ok 1 W := by
    cases hq : P.info? e with
    | none => simp [hq] at hs
    | some i => simp [hq] at hs; intro W; simp [sizeOf, typeInfo, hq, hs]
  intro W
  have e1 : ∀ W, (Instr.sliceBound (.int k (m : Int)) c .sliceAcap).run P W = .ok m W := fun W => by
    simp [Instr.sliceBound, asIntOf, hc]
  simp [Instr.slice, run_underlying hu, Instr.sliceBounds, e1, hz, Result.andThen]
  intro _
  cases p <;> simp [Addr.add]
theorem sliceAt_high {P : Program} {t e : TypeId} {n : Nat} (hu : P.underlying t = some (.array n e)) (hs : (P.info? e).map (·.size) = some 1) (g off : Nat) (k : IntKind) (m : Nat) (hm : m ≤ n) :
    ∀ W, (Instr.sliceAt t (.pointer (some ⟨g, off, none⟩)) none (some (.int k (m : Int))) none).run P W = .ok (.slice (some ⟨g, off, none⟩) m n) W := by
  have hz : ∀ W, (sizeOf e).run P W = .ok 1 W := by
    cases hq : P.info? e with
    | none => simp [hq] at hs
    | some i => simp [hq] at hs; intro W; simp [sizeOf, typeInfo, hq, hs]
  intro W
  have e1 : ∀ W, (Instr.sliceBound (.int k (m : Int)) n .sliceAlen).run P W = .ok m W := fun W => by
    simp [Instr.sliceBound, asIntOf, hm]
  simp [Instr.sliceAt, Instr.sureAddr, run_underlying hu, Instr.sliceBounds, e1, hz, Result.andThen, Addr.add]
def Fresh (e : TypeId) (w w' : World) (v : Value) (l : List Nat) : Prop := w'.ownsRow w.heap.size e 1 v l.length (u8s l) ∧ Below w.heap.size w w'
end Go.Proofs.YtidklgicmhdapaaGreatDoor
namespace Go.Proofs.YtidklgicmhdapaaGreatDoor
open Go Go.RowKit Sh

theorem byte_info : (Tryz.prog.info? 5).map (fun i => (i.zero, i.size, i.bytes)) = some (some (.int .u8 0), 1, 1) := by kernel_rfl
theorem byte_size : (Tryz.prog.info? 5).map (·.size) = some 1 := by kernel_rfl
theorem nil_own (w : World) (base : Nat) : w.ownsRow base 5 1 (.slice none 0 0) 0 (u8s []) := World.ownsRow_nil _ _ _ _
theorem Sr.made (xs : List Nat) (w : World) (e : TypeId) (fr : Nat × Nat) : Sr (w.alloc (.cells (u8s xs).toArray e fr)) (some ⟨w.heap.size, 0, none⟩) xs := fun _ =>
  ⟨w.heap.size, 0, rfl, by simp, fun j hj => by rw [Nat.zero_add, cell_of_row _ _ j _ e fr (heap_alloc_new w _)]; simpa using u8s_get _ _ hj⟩
theorem sl_bytes {l : List Nat} (h : ∀ x ∈ l, x < 256) : Bytes l := fun i => by
  rcases Nat.lt_or_ge i l.length with hi | hi
  · rw [gt_of_lt hi]; exact h _ (List.getElem_mem _)
  · rw [gt_out hi]; decide
theorem Sr.one (x : Nat) (z : Int) (hz : (x : Int) = z) (w : World) (e : TypeId) (fr : Nat × Nat) : Sr (w.alloc (.cells #[.int .u8 z] e fr)) (some ⟨w.heap.size, 0, none⟩) [x] := fun _ => by
  subst hz
  refine ⟨w.heap.size, 0, rfl, by simp, fun j hj => ?_⟩
  rw [Nat.zero_add, cell_of_row _ _ j _ e fr (heap_alloc_new w _)]
  obtain rfl : j = 0 := by simpa using hj
  rfl
theorem shr_byte (v k : Nat) : (((v / 2 ^ k % 256 : Nat)) : Int) = (v : Int) / 2 ^ k % 256 := by rw [Int.natCast_emod, Int.natCast_ediv, Int.natCast_pow]; rfl
theorem app_bytes {l m : List Nat} (h1 : Bytes l) (h2 : Bytes m) : Bytes (l ++ m) := fun i => by
  rcases Nat.lt_or_ge i l.length with h | h
  · rw [gt_app_left h]; exact h1 i
  · rw [gt_app_right h]; exact h2 _
theorem nil_bytes : Bytes [] := fun i => by simp [gt]
end Go.Proofs.YtidklgicmhdapaaGreatDoor
namespace Go.Proofs.YtidklgicmhdapaaGreatDoor
open Go Go.RowKit Sh

def str (l : List Nat) : ByteArray := strOfNums (l.map fun (n : Nat) => (n : Int))
theorem conv_nothing {P : Program} (w : World) (src e dst : TypeId) (hs : P.underlying src = some (.slice e)) (he : P.underlying e = some (.int .u8)) (hd : P.underlying dst = some .string) (p : Option Addr) (c : Nat) :
    (convert src dst (.slice p 0 c)).run P w = .ok (.string (str [])) w := by
  rw [run_convert_bytes_string w src dst e _ 0 c hs he hd]
  cases p <;> simp [Conv.bytesToString, loadCells]
  all_goals rfl
theorem conv_bytes {P : Program} (w : World) (src e dst : TypeId) (hs : P.underlying src = some (.slice e)) (he : P.underlying e = some (.int .u8)) (hd : P.underlying dst = some .string) (p : Option Addr) (n c : Nat) (xs : List Nat) (hn : xs.length = n)
    (h : 0 < xs.length → ∃ b o, p = some ⟨b, o, none⟩ ∧ BytesAt w b o xs) : (convert src dst (.slice p n c)).run P w = .ok (.string (str xs)) w := by
  subst hn
  by_cases h0 : 0 < xs.length
  · obtain ⟨b, o, rfl, hb⟩ := h h0
    refine run_convert_bytes_arg (P := P) w src e hs he b o xs.length c (xs.map fun (n : Nat) => (n : Int)) (by simp) (fun i hi => ?_) dst hd
    rw [hb i hi]
    simp [gt, List.getD_eq_getElem?_getD, List.getElem?_eq_getElem hi]
  · obtain rfl : xs = [] := List.eq_nil_of_length_eq_zero (by omega)
    exact conv_nothing w src e dst hs he hd p c
end Go.Proofs.YtidklgicmhdapaaGreatDoor
namespace Go.Proofs.YtidklgicmhdapaaGreatDoor
open Go Go.RowKit

section
variable {P : Program} {ops : Array Oper} {Q : Exit → Act → World → Prop} {md : Region.Mode} {S : World → Prop} {last : Nat → Bool}
def wpAnyE (P : Program) (md : Region.Mode) (ops : Array Oper) (Q : Exit → Act → World → Prop) (S : World → Prop) (last : Nat → Bool) : Nat → Array Bool → Act → World → Prop
  | 0, listed, a, w => Region.ready md ops listed = [] ∧ Q .normal a w
  | fuel + 1, listed, a, w =>
    (Region.ready md ops listed = [] → Q .normal a w) ∧
    ∀ i ∈ Region.ready md ops listed, wpOp P ops Q i (fun a' w' => (last i = true ∨ S w') ∧ wpAnyE P md ops Q S last fuel (listed.setIfInBounds i true) a' w') a w
theorem wpAny_of_E : ∀ (fuel : Nat) (listed : Array Bool) (a : Act) (w : World), wpAnyE P md ops Q S last fuel listed a w → wpAny P md ops Q fuel listed a w
  | 0, _, _, _, h => h
  | fuel + 1, _, _, _, h => ⟨h.1, fun i hi => wpOp_mono (fun a' w' h' => wpAny_of_E fuel _ a' w' h'.2) (h.2 i hi)⟩
def waits (md : Region.Mode) (ops : Array Oper) (last : Nat → Bool) (i : Nat) : Bool :=
  !last i && (List.range ops.size).all fun j => !last j || match ops[j]? with
    | some oj => oj.after.any fun e => Region.binds md e && e.on == i
    | none => true
theorem waits_spec {i j : Nat} {listed : Array Bool} (h : waits md ops last i = true) (hun : listed.getD i true = false) (hj : j ∈ Region.ready md ops listed) : last j = false := by
  obtain ⟨_, oj, hoj, hall⟩ := mem_ready.1 hj
  cases hl : last j
  · rfl
  · simp only [waits, Bool.and_eq_true, List.all_eq_true, List.mem_range] at h
    have h1 := h.2 j (Array.getElem?_eq_some_iff.1 hoj).1
    simp only [hl, hoj, Bool.not_true, Bool.false_or] at h1
    obtain ⟨e, he, hb⟩ := Array.any_eq_true'.1 h1
    simp only [Bool.and_eq_true, beq_iff_eq] at hb
    have h2 := hall e he hb.1
    rw [hb.2] at h2
    rcases Nat.lt_or_ge i listed.size with h' | h'
    · simp [h'] at hun h2; rw [hun] at h2; cases h2
    · simp [Array.getElem?_eq_none h'] at h2
theorem wpAnyE_first {i : Nat} {oi : Oper} {v : Value} (hi : ops[i]? = some oi) (hsel : ∀ (j : Nat) (o : Oper) cs b, ops[j]? = some o → o.op ≠ .select cs b)
    (hQ : ∀ c a w, Q (.panic c) (a.put oi.dst v) w → Q (.panic c) a w) (hw : waits md ops last i = true) :
    ∀ (fuel : Nat) (listed : Array Bool) (a : Act) (w : World),
      (∀ j oj, ops[j]? = some oj → j ≠ i → listed.getD j true = false → (∀ e ∈ oj.after, Region.binds md e = true → e.on ≠ i) → oi.apart ops oj = true) →
      i ∈ Region.ready md ops listed → YieldsIf P ops S oi v a → S w →
      wpAnyE P md ops Q S last fuel (listed.setIfInBounds i true) (a.put oi.dst v) w → wpAnyE P md ops Q S last (fuel + 1) listed a w := by
  intro fuel
  induction fuel with
  | zero =>
    intro listed a w _ hr hy hS H
    refine ⟨fun h => (by rw [h] at hr; cases hr), fun j hj => ?_⟩
    by_cases hji : j = i
    · subst hji; exact hy.wpOp hi hS ⟨.inr hS, H⟩
    · have h0 := ready_mono hj hji
      rw [H.1] at h0
      cases h0
  | succ fuel ih =>
    intro listed a w hfree hr hy hS H
    refine ⟨fun h => (by rw [h] at hr; cases hr), fun j hj => ?_⟩
    by_cases hji : j = i
    · subst hji; exact hy.wpOp hi hS ⟨.inr hS, H⟩
    · have hlj := waits_spec hw (mem_ready.1 hr).1 hj
      have h1 := H.2 j (ready_mono hj hji)
      obtain ⟨hjun, oj, hoj, hall⟩ := mem_ready.1 hj
      have hnot : ∀ e ∈ oj.after, Region.binds md e = true → e.on ≠ i := fun e he hb heq => by
        have h2 := hall e he hb
        have h0 := (mem_ready.1 hr).1
        rw [heq] at h2
        rcases Nat.lt_or_ge i listed.size with h' | h'
        · simp [h'] at h0 h2; rw [h0] at h2; cases h2
        · simp [Array.getElem?_eq_none h'] at h2
      have h2 := wpOp_putIf hoj (hfree j oj hoj hji hjun hnot) (fun cs b => hsel i oi cs b hi) (fun cs b => hsel j oj cs b hoj) hQ hy h1
      have hfree' : ∀ k ok, ops[k]? = some ok → k ≠ i → (listed.setIfInBounds j true).getD k true = false →
          (∀ e ∈ ok.after, Region.binds md e = true → e.on ≠ i) → oi.apart ops ok = true := fun k ok hk hki hun hno => by
        refine hfree k ok hk hki ?_ hno
        by_cases hjk : j = k
        · subst hjk; exact hjun
        · rw [getD_set_ne true hjk] at hun; exact hun
      refine wpOp_mono (fun a' w' h3 => ?_) h2
      have hS' : S w' := by
        rcases h3.2.1 with hl | hl
        · rw [hlj] at hl; cases hl
        · exact hl
      refine ⟨.inr hS', ih (listed.setIfInBounds j true) a' w' hfree' (ready_mono hr (Ne.symm hji)) h3.1 hS' ?_⟩
      rw [Array.setIfInBounds_comm _ _ hji]
      exact h3.2.2
theorem wpAnyE_take {i : Nat} {oi : Oper} {v : Value} {fuel : Nat} {listed : Array Bool} {a : Act} {w : World} (hi : ops[i]? = some oi)
    (hs : Region.noSelect ops = true) (hf : Region.free md ops listed i = true) (hr : (Region.ready md ops listed).contains i = true) (hw : waits md ops last i = true)
    (hQ : ∀ c a w, Q (.panic c) (a.put oi.dst v) w → Q (.panic c) a w) (hy : YieldsIf P ops S oi v a) (hS : S w)
    (h : wpAnyE P md ops Q S last fuel (listed.setIfInBounds i true) (a.put oi.dst v) w) : wpAnyE P md ops Q S last (fuel + 1) listed a w :=
  wpAnyE_first hi (Region.noSelect_spec hs) hQ hw fuel listed a w (Region.free_spec hi hf) (by simpa using hr) hy hS h
theorem wpAnyE_one {i : Nat} {o : Oper} {fuel : Nat} {listed : Array Bool} {a : Act} {w : World} (hr : Region.ready md ops listed = [i]) (hi : ops[i]? = some o) (hwd : Region.wanted o (yielded ops a.tmps) = true)
    (h : ∀ K : Act → World → Prop, Hid (∀ a' w', (last i = true ∨ S w') → wpAnyE P md ops Q S last fuel (listed.setIfInBounds i true) a' w' → K a' w') → o.wp P a w K Q) : wpAnyE P md ops Q S last (fuel + 1) listed a w := by
  refine ⟨fun h0 => (by rw [hr] at h0; cases h0), fun j hj => ?_⟩
  rw [hr] at hj
  obtain rfl : j = i := by simpa using hj
  unfold wpOp
  rw [hi]
  simp only [hwd, if_true]
  exact Or.inl (h _ (fun a' w' h1 h2 => ⟨h1, h2⟩))
theorem wpAnyE_done {listed : Array Bool} {a : Act} {w : World} (hr : Region.ready md ops listed = []) (h : Q .normal a w) : ∀ fuel, wpAnyE P md ops Q S last fuel listed a w
  | 0 => ⟨hr, h⟩
  | _ + 1 => ⟨fun _ => h, by rw [hr]; simp⟩
theorem wp_region_E {id : Nat} {a : Act} {w : World} (S : World → Prop) (last : Nat → Bool) (hm : P.follows .mixedOrders = true)
    (h : wpAnyE P .any ops Q S last ops.size (Array.replicate ops.size false) a { w with drawn := w.drawn + 1 }) : (Code.region id ops true).wp P Q a w :=
  wp_region_any hm (wpAny_of_E _ _ _ _ h)
end
end Go.Proofs.YtidklgicmhdapaaGreatDoor
