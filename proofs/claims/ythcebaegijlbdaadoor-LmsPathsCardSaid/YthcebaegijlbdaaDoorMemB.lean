/-
  MEMORY, MORE: 'But B g w w'': below block number B nothing but block g has turned; loads and stores of a part of a block that is known whole; copy and clear into such a part.
-/
import Derived.Test.YthcebaegijlbdaaDoorMem
import Derived.Laws.CopyOwn
import Derived.Lib.Hide
import Derived.Lib.SliceRun
import Derived.Orders
namespace Go.Proofs.YthcebaegijlbdaaDoor
open Go Go.RowKit Sh

structure But (B g : Nat) (w w' : World) : Prop where
  os : w'.os = w.os
  tape : w'.tape = w.tape
  output : w'.output = w.output
  size : w.heap.size ≤ w'.heap.size
  block : ∀ k, k < B → k ≠ g → w'.heap[k]? = w.heap[k]?
namespace But
variable {B g : Nat} {a b w w' : World}
theorem refl (B g : Nat) (w : World) : But B g w w := ⟨rfl, rfl, rfl, Nat.le_refl _, fun _ _ _ => rfl⟩
theorem trans (h : But B g a b) (k : But B g b w) : But B g a w :=
  ⟨k.os.trans h.os, k.tape.trans h.tape, k.output.trans h.output, Nat.le_trans h.size k.size, fun i hi hg => (k.block i hi hg).trans (h.block i hi hg)⟩
theorem mono {B' : Nat} (h : But B g a b) (hB : B' ≤ B) : But B' g a b := ⟨h.os, h.tape, h.output, h.size, fun k hk hg => h.block k (by omega) hg⟩
theorem of_below (h : Below B a b) (g : Nat) : But B g a b := ⟨h.os, h.tape, h.output, h.size, fun k hk _ => h.block k hk⟩
theorem below {B' : Nat} (h : But B g a b) (h1 : B' ≤ g) (h2 : B' ≤ B) : Below B' a b := ⟨h.os, h.tape, h.output, h.size, fun k hk => h.block k (by omega) (by omega)⟩
theorem then_below (h : But B g a b) (k : Below B b w) : But B g a w := h.trans (of_below k g)
theorem setCell (h : But B g a w) (i : Nat) (u : Value) : But B g a (w.setCell ⟨g, i, none⟩ u) :=
  h.trans ⟨rfl, rfl, rfl, by simp [World.setCell], fun _ _ hk => Below.heap_setCell _ _ _ _ hk⟩
theorem setRow (h : But B g a w) (c : Array Value) : But B g a (w.setRow g c) :=
  h.trans ⟨rfl, rfl, rfl, by simp, fun k _ hg => setRow_other w g k c hg⟩
theorem drewN (h : But B g a w) (n : Nat) : But B g a (w.drewN n) := ⟨h.os, h.tape, h.output, h.size, h.block⟩
theorem drew (h : But B g a w) : But B g a w.drew := ⟨h.os, h.tape, h.output, h.size, h.block⟩
theorem alloc (h : But B g a w) (hB : B ≤ w.heap.size) (o : Obj) : But B g a (w.alloc o) :=
  h.then_below ((Below.refl B w).alloc hB o)
theorem cell (h : But B g a w) {p : Addr} (hp : p.block < B) (hg : p.block ≠ g) : w.cell? p = a.cell? p := World.cell?_of_block (w := a) (h.block p.block hp hg)
end But
theorem Blk.but {w w' : World} {B g g' : Nat} {t : TypeId} {cs : List Value} (h : Blk w g' t cs) (hb : But B g w w') (hg : g' < B) (hne : g' ≠ g) : Blk w' g' t cs := (hb.block g' hg hne).trans h
theorem BytesAt.but {w w' : World} {B g b o : Nat} {l : List Nat} (h : BytesAt w b o l) (hb : But B g w w') (hB : b < B) (hne : b ≠ g) : BytesAt w' b o l :=
  fun j hj => (hb.cell (p := ⟨b, o + j, none⟩) hB hne).trans (h j hj)
theorem KAt.but {w w' : World} {B g : Nat} (h : KAt w) (hb : But B g w w') (hB : 1 < B) (hne : 1 ≠ g) : KAt w' :=
  ⟨Nat.lt_of_lt_of_le h.lt hb.size, fun j hj => (hb.cell (p := ⟨1, j, none⟩) hB hne).trans (h.cell j hj)⟩

theorem setCells_row (g : Nat) (t : TypeId) : ∀ (M' : List Value) (w : World) (A M C : List Value), Blk w g t (A ++ (M ++ C)) → M.length = M'.length → Blk (w.setCells g A.length M') g t (A ++ (M' ++ C))
  | [], w, A, M, C, h, hl => by
    obtain rfl : M = [] := List.eq_nil_of_length_eq_zero hl
    exact h
  | v :: r, w, A, m :: M, C, h, hl => by
    have h1 := h.store A.length v
    rw [List.set_append_right _ _ (Nat.le_refl _), Nat.sub_self, List.cons_append, List.set_cons_zero] at h1
    have e : A ++ (v :: (M ++ C)) = (A ++ [v]) ++ (M ++ C) := by simp
    rw [e] at h1
    have h2 := setCells_row g t r _ (A ++ [v]) M C h1 (by simpa using hl)
    have e2 : A ++ (v :: r ++ C) = (A ++ [v]) ++ (r ++ C) := by simp
    rw [e2]
    have e3 : (A ++ [v]).length = A.length + 1 := by simp
    rw [e3] at h2
    exact h2
theorem But.setCells {B g : Nat} {a : World} : ∀ (vs : List Value) (o : Nat) (w : World), But B g a w → But B g a (w.setCells g o vs)
  | [], _, _, h => h
  | v :: r, o, _, h => But.setCells r (o + 1) _ (h.setCell o v)
theorem setCells_size (g : Nat) : ∀ (vs : List Value) (o : Nat) (w : World), (w.setCells g o vs).heap.size = w.heap.size
  | [], _, _ => rfl
  | v :: r, o, w => (setCells_size g r (o + 1) _).trans (by simp [World.setCell])
theorem there_of {w : World} {g : Nat} {t : TypeId} {A M C : List Value} (h : Blk w g t (A ++ (M ++ C))) : w.there g A.length M.length := fun j hj => by
  rw [h.cell, h.frozen, List.getElem?_append_right (by omega), List.getElem?_append_left (by omega), List.getElem?_eq_getElem (by omega)]
  exact ⟨rfl, rfl⟩
theorem range_of {w : World} {g : Nat} {t : TypeId} {A M C : List Value} (h : Blk w g t (A ++ (M ++ C))) : w.rangeAt g A.length M := fun j v hv => by
  have hj : j < M.length := (List.getElem?_eq_some_iff.1 hv).1
  rw [h.cell, List.getElem?_append_right (by omega), List.getElem?_append_left (by omega), ← hv]
  congr 1; omega

/-- 'arr[l:]' of an array of one-cell elements behind a pointer. -/
theorem sliceAt_low {P : Program} {t e : TypeId} {n : Nat} (hu : P.underlying t = some (.array n e)) (hs : (P.info? e).map (·.size) = some 1) (g off : Nat) (k : IntKind) (l : Int) (m : Nat) (h0 : 0 ≤ l) (h1 : l ≤ n) (hm : m = n - l.toNat) :
    ∃ p, (0 < m → p = some ⟨g, off + l.toNat, none⟩) ∧ ∀ W, (Instr.sliceAt t (.pointer (some ⟨g, off, none⟩)) (some (.int k l)) none none).run P W = .ok (.slice p m m) W := by
  have hz : ∀ W, (sizeOf e).run P W = .ok 1 W := by
    cases hq : P.info? e with
    | none => simp [hq] at hs
    | some i => simp [hq] at hs; intro W; simp [sizeOf, typeInfo, hq, hs]
  refine ⟨some (if n = l.toNat then ⟨g, off, none⟩ else ⟨g, off + l.toNat, none⟩), fun h => by rw [if_neg (by omega)], fun W => ?_⟩
  subst hm
  have e1 : ∀ W, (Instr.sliceBound (.int k l) n .sliceB).run P W = .ok l.toNat W := fun W => by
    simp [Instr.sliceBound, asIntOf, h0, h1]
  simp [Instr.sliceAt, Instr.sureAddr, run_underlying hu, Instr.sliceBounds, e1, hz, Result.andThen]
  by_cases hn : n = l.toNat
  · simp [hn]
  · simp [hn, Addr.add_mid]
/-- 's[l:]' of a slice of one-cell elements. -/
theorem slice_low {P : Program} {t e : TypeId} (hu : P.underlying t = some (.slice e)) (hs : (P.info? e).map (·.size) = some 1) (p : Option Addr) (n c : Nat) (k : IntKind) (l : Nat) (h1 : l ≤ n) (hc : n ≤ c) :
    ∃ p2, (l < n → ∀ g off, p = some ⟨g, off, none⟩ → p2 = some ⟨g, off + l, none⟩) ∧ ∀ W, (Instr.slice t (.slice p n c) (some (.int k (l : Int))) none none).run P W = .ok (.slice p2 (n - l) (c - l)) W := by
  have hz : ∀ W, (sizeOf e).run P W = .ok 1 W := by
    cases hq : P.info? e with
    | none => simp [hq] at hs
    | some i => simp [hq] at hs; intro W; simp [sizeOf, typeInfo, hq, hs]
  have e1 : ∀ W, (Instr.sliceBound (.int k (l : Int)) n .sliceB).run P W = .ok l W := fun W => by
    simp [Instr.sliceBound, asIntOf, h1]
  refine ⟨if c = l then p else p.map (·.add l), fun h g off hp => ?_, fun W => ?_⟩
  · rw [if_neg (by omega), hp]; simp [Addr.add_mid]
  · simp [Instr.slice, run_underlying hu, Instr.sliceBounds, e1, hz, Result.andThen]
/-- 'arr[:]' of an array of one-cell elements behind a pointer. -/
theorem sliceAt_all {P : Program} {t e : TypeId} {n : Nat} (hu : P.underlying t = some (.array n e)) (hs : (P.info? e).map (·.size) = some 1) (g off : Nat) :
    ∀ W, (Instr.sliceAt t (.pointer (some ⟨g, off, none⟩)) none none none).run P W = .ok (.slice (some ⟨g, off, none⟩) n n) W := by
  have hz : ∀ W, (sizeOf e).run P W = .ok 1 W := by
    cases hq : P.info? e with
    | none => simp [hq] at hs
    | some i => simp [hq] at hs; intro W; simp [sizeOf, typeInfo, hq, hs]
  intro W
  simp [Instr.sliceAt, Instr.sureAddr, run_underlying hu, Instr.sliceBounds, hz, Result.andThen, Addr.add]
section
variable {P : Program} {ops : Array Oper} {rest : List Oper} {o : Oper} {a : Act} {w : World} {Q : Exit → Act → World → Prop}
/-- A guard for an arm of the walk: it fits at the operation X alone. -/
theorem at_op (X : Op) (_ : o.op = X) (h : wpList P ops Q (o :: rest) a w) : wpList P ops Q (o :: rest) a w := h
theorem load_part (ty : TypeId) (x : Operand) (g off : Nat) (t : TypeId) (A M C : List Value) (d : TypeDesc) (hgd : o.guard = none) (ho : o.op = .load ty x) (hg : Blk w g t (A ++ (M ++ C))) (hoff : off = A.length)
    (hu : P.underlying ty = some d) (hd : d.isRow = true) (hi : (P.info? ty).map (·.size) = some M.length) (hx : a.eval x = .pointer (some ⟨g, off, none⟩))
    (h : wpList P ops Q rest (a.put o.dst (.agg M.toArray)) w) : wpList P ops Q (o :: rest) a w := by
  subst hoff
  exact wpList_load_mid hgd ty x ho g A.length hx M d (range_of hg) hu hd hi h
theorem store_part (ty : TypeId) (x y : Operand) (g off : Nat) (t : TypeId) (A M C M' : List Value) (hgd : o.guard = none) (ho : o.op = .store ty x y) (hg : Blk w g t (A ++ (M ++ C))) (hoff : off = A.length)
    (hl : M.length = M'.length) (hi : (P.info? ty).map (·.size) = some M'.length) (h1 : M'.toArray.all (·.oneCell') = true) (hx : a.eval x = .pointer (some ⟨g, off, none⟩)) (hy : a.eval y = .agg M'.toArray)
    (h : ∀ w', Hid (Blk w' g t (A ++ (M' ++ C))) → Hid (But w.heap.size g w w') → Hid (w'.heap.size = w.heap.size) → wpList P ops Q rest (a.put o.dst undef) w') : wpList P ops Q (o :: rest) a w := by
  subst hoff
  refine wpList_store_mid hgd ty x y ho g A.length M'.toArray hx hy (by simpa [hl] using there_of hg) (by simpa using hi) h1 (h _ ?_ ?_ ?_)
  · exact Lib.hid (setCells_row g t M' w A M C hg hl)
  · exact Lib.hid (But.setCells _ _ _ (But.refl _ _ _))
  · exact Lib.hid (setCells_size _ _ _ _)
theorem wpOp_mk {i : Nat} {K : Act → World → Prop} (hi : ops[i]? = some o) (hw : Region.wanted o (yielded ops a.tmps) = true) (h : o.wp P a w K Q) : wpOp P ops Q i K a w := by
  unfold wpOp
  rw [hi]
  simp only [hw, if_true]
  exact Or.inl h
/-- The same two, of one operation (in a region that draws its order). -/
theorem wload_part {K : Act → World → Prop} (ty : TypeId) (x : Operand) (g off : Nat) (t : TypeId) (A M C : List Value) (d : TypeDesc) (ho : o.op = .load ty x) (hg : Blk w g t (A ++ (M ++ C))) (hoff : off = A.length)
    (hu : P.underlying ty = some d) (hd : d.isRow = true) (hi : (P.info? ty).map (·.size) = some M.length) (hx : a.eval x = .pointer (some ⟨g, off, none⟩))
    (h : K (a.put o.dst (.agg M.toArray)) w) : o.wp P a w K Q := by
  subst hoff
  exact wp_load_mid ty x ho g A.length hx M d (range_of hg) hu hd hi h
theorem wstore_part {K : Act → World → Prop} (ty : TypeId) (x y : Operand) (g off : Nat) (t : TypeId) (A M C M' : List Value) (ho : o.op = .store ty x y) (hg : Blk w g t (A ++ (M ++ C))) (hoff : off = A.length)
    (hl : M.length = M'.length) (hi : (P.info? ty).map (·.size) = some M'.length) (h1 : M'.toArray.all (·.oneCell') = true) (hx : a.eval x = .pointer (some ⟨g, off, none⟩)) (hy : a.eval y = .agg M'.toArray)
    (h : ∀ w', Hid (Blk w' g t (A ++ (M' ++ C))) → Hid (But w.heap.size g w w') → Hid (w'.heap.size = w.heap.size) → K (a.put o.dst undef) w') : o.wp P a w K Q := by
  subst hoff
  refine wp_store_mid ty x y ho g A.length M'.toArray hx hy (by simpa [hl] using there_of hg) (by simpa using hi) h1 (h _ ?_ ?_ ?_)
  · exact Lib.hid (setCells_row g t M' w A M C hg hl)
  · exact Lib.hid (But.setCells _ _ _ (But.refl _ _ _))
  · exact Lib.hid (setCells_size _ _ _ _)
/-- clear(s) where s is a part of a block of bytes that is known whole, or has no element. -/
theorem clear_part (x : Operand) (dT elem : TypeId) (g off n cap : Nat) (p : Option Addr) (t : TypeId) (A M C : List Value) (hgd : o.guard = none) (ho : o.op = .call { callee := .builtin .clear, args := #[x], argTypes := #[dT] })
    (hg : Blk w g t (A ++ (M ++ C))) (hoff : off = A.length) (hn : n = M.length) (hu : P.underlying dT = some (.slice elem)) (hz : (P.info? elem).map (fun i => (i.zero, i.size)) = some (some (.int .u8 0), 1))
    (hx : a.eval x = .slice p n cap) (hp : 0 < n → p = some ⟨g, off, none⟩)
    (h : ∀ w', Hid (Blk w' g t (A ++ (u8s (List.replicate n 0) ++ C))) → Hid (But w.heap.size g w w') → Hid (w'.heap.size = w.heap.size) → wpList P ops Q rest (a.put o.dst (.tuple #[])) w') : wpList P ops Q (o :: rest) a w := by
  have hzero : ∀ w, (zeroValue elem).run P w = .ok (.int .u8 0) w := by
    cases hq : P.info? elem with
    | none => simp [hq] at hz
    | some i => simp [hq] at hz; intro w; simp [zeroValue, typeInfo, hq, hz.1]
  refine wpList_plain hgd fun K hK => ?_
  by_cases h0 : n = 0
  · subst h0
    have hM : M = [] := List.eq_nil_of_length_eq_zero hn.symm
    subst hM
    have hrun : (Builtin.clear_ #[dT] o.type #[.slice p 0 cap]).run P w = .ok (.tuple #[]) w := by
      cases p <;> simp [Builtin.clear_, run_underlying hu, Result.andThen]
    unfold Oper.wp
    simp [execOp, ho, resolve, invoke, builtin, hx, hrun, Result.andThen]
    exact hK _ _ (h w (Lib.hid hg) (Lib.hid (But.refl _ _ _)) (Lib.hid rfl))
  · obtain rfl := hp (by omega)
    subst hoff hn
    have hrun := Lib.run_clear_slice (P := P) w dT elem o.type (.int .u8 0) hu hzero rfl rfl g A.length M.length cap (by omega) (fun j hj => (there_of hg j hj).1) (fun j hj => (there_of hg j hj).2)
    unfold Oper.wp
    simp [execOp, ho, resolve, invoke, builtin, hx, hrun, Result.andThen]
    have e : List.replicate M.length (Value.int .u8 0) = u8s (List.replicate M.length 0) := by simp [u8s]
    rw [e]
    refine hK _ _ (h _ ?_ ?_ ?_)
    · exact Lib.hid (setCells_row g t _ w A M C hg (by simp [u8s]))
    · exact Lib.hid (But.setCells _ _ _ (But.refl _ _ _))
    · exact Lib.hid (setCells_size _ _ _ _)
/-- copy(d, s), d a part of a block that is known whole; s: any bytes that lie elsewhere (or none). -/
theorem copy_part (d s : Operand) (dT sT elem : TypeId) (g off dLen dCap sLen sCap nn : Nat) (dp sp : Option Addr) (t : TypeId) (A M C M' : List Value) (hgd : o.guard = none)
    (ho : o.op = .call { callee := .builtin .copy, args := #[d, s], argTypes := #[dT, sT] }) (hu : P.underlying dT = some (.slice elem)) (hsz : (P.info? elem).map (·.size) = some 1)
    (hg : Blk w g t (A ++ (M ++ C))) (hoff : off = A.length) (hl : M.length = M'.length) (hn : M'.length = Nat.min sLen dLen) (hd : a.eval d = .slice dp dLen dCap) (hs : a.eval s = .slice sp sLen sCap)
    (hpos : 0 < M'.length → dp = some ⟨g, off, none⟩ ∧ ∃ ad, sp = some ad ∧ ∀ j v, M'[j]? = some v → w.cell? (ad.add j) = some v) (h1 : ∀ v ∈ M', v.oneCell' = true) (hnn : M'.length = nn)
    (h : ∀ w', Hid (Blk w' g t (A ++ (M' ++ C))) → Hid (But w.heap.size g w w') → Hid (w'.heap.size = w.heap.size) → wpList P ops Q rest (a.put o.dst (.int .i64 (nn : Int))) w') : wpList P ops Q (o :: rest) a w := by
  subst hnn
  by_cases h0 : M'.length = 0
  · obtain rfl : M' = [] := List.eq_nil_of_length_eq_zero h0
    obtain rfl : M = [] := List.eq_nil_of_length_eq_zero hl
    exact wpList_copy_nothing hgd d s dT sT ho elem hu hsz dp sp dLen dCap sLen sCap hd hs (by simpa using hn.symm) (h w (Lib.hid hg) (Lib.hid (But.refl _ _ _)) (Lib.hid rfl))
  · obtain ⟨rfl, ad, rfl, hsrc⟩ := hpos (by omega)
    subst hoff
    refine wpList_copy_own hgd d s dT sT ho elem hu hsz g A.length dLen dCap ad sLen sCap hd hs (A ++ (M ++ C)).toArray t hg M' hn hsrc (by simp; omega) h1 (h _ ?_ ?_ ?_)
    · have e : (A ++ (M ++ C)).take A.length ++ (M' ++ (A ++ (M ++ C)).drop (A.length + M'.length)) = A ++ (M' ++ C) := by
        rw [← hl, ← List.drop_drop, List.take_left, List.drop_left, List.drop_left]
      rw [← e]
      exact Lib.hid (hg.setRow _)
    · exact Lib.hid ((But.refl _ _ _).setRow _)
    · exact Lib.hid (by simp)
end
end Go.Proofs.YthcebaegijlbdaaDoor
