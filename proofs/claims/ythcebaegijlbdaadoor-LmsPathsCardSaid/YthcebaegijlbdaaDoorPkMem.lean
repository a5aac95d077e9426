/-
  MEMORY FOR PACKAGE pack: 'Kept F w w'': blocks outside F are as they were; append of bytes onto a row of the call's own; what a fresh row of bytes is.
-/
import Derived.Test.YthcebaegijlbdaaDoorMemB
import Derived.WalkKit
import Derived.Maps.AppendAt
import Derived.Deep.AppendLies
import Derived.Laws.OwnMore
import Derived.StillTailTactics
import Derived.OwnWalk
import Derived.BigQuiet
import Derived.Deep.QuietTactic
namespace Go.Proofs.YthcebaegijlbdaaDoor
open Go Go.RowKit Sh

structure Kept (F : Nat → Prop) (w w' : World) : Prop where
  os : w'.os = w.os
  tape : w'.tape = w.tape
  output : w'.output = w.output
  size : w.heap.size ≤ w'.heap.size
  block : ∀ k, k < w.heap.size → ¬ F k → w'.heap[k]? = w.heap[k]?
namespace Kept
variable {F G : Nat → Prop} {a b w w' : World}
theorem refl (F : Nat → Prop) (w : World) : Kept F w w := ⟨rfl, rfl, rfl, Nat.le_refl _, fun _ _ _ => rfl⟩
theorem trans (h : Kept F a b) (k : Kept F b w) : Kept F a w :=
  ⟨k.os.trans h.os, k.tape.trans h.tape, k.output.trans h.output, Nat.le_trans h.size k.size, fun i hi hf => (k.block i (Nat.lt_of_lt_of_le hi h.size) hf).trans (h.block i hi hf)⟩
theorem mono (h : Kept F a b) (hF : ∀ k, F k → G k) : Kept G a b := ⟨h.os, h.tape, h.output, h.size, fun k hk hg => h.block k hk (fun hf => hg (hF k hf))⟩
theorem of_below (h : Below a.heap.size a b) : Kept F a b := ⟨h.os, h.tape, h.output, h.size, fun k hk _ => h.block k hk⟩
theorem drew (h : Kept F a w) : Kept F a w.drew := ⟨h.os, h.tape, h.output, h.size, h.block⟩
theorem drewN (h : Kept F a w) (n : Nat) : Kept F a (w.drewN n) := ⟨h.os, h.tape, h.output, h.size, h.block⟩
theorem alloc (h : Kept F a w) (o : Obj) : Kept F a (w.alloc o) := h.trans (of_below ((Below.refl _ _).alloc (Nat.le_refl _) o))
theorem setCell (h : Kept F a w) {p : Addr} (hp : F p.block ∨ a.heap.size ≤ p.block) (u : Value) : Kept F a (w.setCell p u) :=
  ⟨h.os, h.tape, h.output, by simpa [World.setCell] using h.size, fun k hk hf => (Below.heap_setCell w p u k (by
    rintro rfl
    rcases hp with hp | hp
    · exact hf hp
    · omega)).trans (h.block k hk hf)⟩
theorem grown (h : Kept F a w) {row : Option Nat} (hg : w.grownBy w' row) (hr : ∀ k, row = some k → F k ∨ a.heap.size ≤ k) : Kept F a w' :=
  ⟨hg.os.trans h.os, hg.tape.trans h.tape, hg.output.trans h.output, Nat.le_trans h.size hg.size, fun k hk hf => (hg.block k (Nat.lt_of_lt_of_le hk h.size) (fun e => by
    rcases hr k e.symm with hp | hp
    · exact hf hp
    · omega)).trans (h.block k hk hf)⟩
theorem to_below {B : Nat} (h : Kept (fun k => B ≤ k) a b) (hB : B ≤ a.heap.size) : Below B a b := ⟨h.os, h.tape, h.output, h.size, fun k hk => h.block k (by omega) (by omega)⟩
theorem cell (h : Kept F a w) {p : Addr} (hp : p.block < a.heap.size) (hf : ¬ F p.block) : w.cell? p = a.cell? p := World.cell?_of_block (w := a) (h.block p.block hp hf)
end Kept
theorem Blk.kept {F : Nat → Prop} {w w' : World} {g : Nat} {t : TypeId} {cs : List Value} (h : Blk w g t cs) (hk : Kept F w w') (hf : ¬ F g) : Blk w' g t cs := (hk.block g h.lt hf).trans h
theorem grown_of_below {w w' : World} (h : Below w.heap.size w w') (row : Option Nat) : w.grownBy w' row := ⟨h.os, h.tape, h.output, h.size, fun k hk _ => h.block k hk⟩
theorem own_below {w w' : World} {base : Nat} {e : TypeId} {size : Nat} {v : Value} {n : Nat} {xs : List Value} (h : w.ownsRow base e size v n xs) (hb : Below w.heap.size w w') : w'.ownsRow base e size v n xs :=
  h.kept (grown_of_below hb none) (by cases v.ownBlock <;> simp)
theorem own_kept {F : Nat → Prop} {w w' : World} {base : Nat} {e : TypeId} {size : Nat} {v : Value} {n : Nat} {xs : List Value} (h : w.ownsRow base e size v n xs) (hb : Kept F w w') (hf : ∀ k, v.ownBlock = some k → ¬ F k) : w'.ownsRow base e size v n xs := by
  refine ⟨h.1, ?_⟩
  rcases h.2 with hn | ⟨g, cap, cur, rfl, hbb, hgg, rest⟩
  · exact .inl hn
  · exact .inr ⟨g, cap, cur, rfl, hbb, (hb.block g (Array.getElem?_eq_some_iff.1 hgg).1 (hf g rfl)).trans hgg, rest⟩
theorem own_base {w : World} {base base' : Nat} {e : TypeId} {size : Nat} {v : Value} {n : Nat} {xs : List Value} (h : w.ownsRow base e size v n xs) (hb : ∀ k, v.ownBlock = some k → base' ≤ k) : w.ownsRow base' e size v n xs := by
  refine ⟨h.1, ?_⟩
  rcases h.2 with hn | ⟨g, cap, cur, rfl, hbb, rest⟩
  · exact .inl hn
  · exact .inr ⟨g, cap, cur, rfl, hb g rfl, rest⟩
theorem own_form {w : World} {base : Nat} {e : TypeId} {size : Nat} {v : Value} {n : Nat} {xs : List Value} (h : w.ownsRow base e size v n xs) : ∃ A c, v = .slice A n c ∧ n ≤ c := by
  rcases h.2 with ⟨rfl, e⟩ | ⟨b, cap, _, rfl, _, _, hn, _⟩
  · exact ⟨_, _, by rw [e], by omega⟩
  · exact ⟨_, _, rfl, hn⟩
/-- A row of bytes never lies in a block of another element type. -/
theorem own_apart {w : World} {base : Nat} {e t : TypeId} {size : Nat} {v : Value} {n : Nat} {xs cs : List Value} {g : Nat} (h : w.ownsRow base e size v n xs) (hg : Blk w g t cs) (hne : e ≠ t) : v.ownBlock ≠ some g := by
  rcases h.2 with ⟨rfl, _⟩ | ⟨g', cap, cur, rfl, _, hh, _⟩
  · simp [Value.ownBlock]
  · intro he
    have : g' = g := by simpa [Value.ownBlock] using he
    subst this
    unfold Blk at hg
    rw [hg] at hh
    injection hh with hh
    injection hh with _ ht
    exact hne ht.symm

/-- The slice with the address p reads as the bytes xs. -/
def Sr (w : World) (p : Option Addr) (xs : List Nat) : Prop := 0 < xs.length → ∃ b o, p = some ⟨b, o, none⟩ ∧ b < w.heap.size ∧ BytesAt w b o xs
theorem Sr.nil {w : World} {p : Option Addr} : Sr w p [] := fun h => absurd h (by simp)
theorem Sr.below {w w' : World} {p : Option Addr} {xs : List Nat} (h : Sr w p xs) (hb : Below w.heap.size w w') : Sr w' p xs := fun hx => by
  obtain ⟨b, o, e, h1, h2⟩ := h hx
  exact ⟨b, o, e, Nat.lt_of_lt_of_le h1 hb.size, h2.below hb h1⟩
theorem Sr.kept {F : Nat → Prop} {w w' : World} {p : Option Addr} {xs : List Nat} (h : Sr w p xs) (hb : Kept F w w') (hf : 0 < xs.length → ∀ a : Addr, p = some a → ¬ F a.block) : Sr w' p xs := fun hx => by
  obtain ⟨b, o, rfl, h1, h2⟩ := h hx
  have hbk := hf hx ⟨b, o, none⟩ rfl
  exact ⟨b, o, rfl, Nat.lt_of_lt_of_le h1 hb.size, fun j hj => (hb.cell (p := ⟨b, o + j, none⟩) h1 hbk).trans (h2 j hj)⟩
theorem Sr.lt {w : World} {p : Option Addr} {xs : List Nat} (h : Sr w p xs) : 0 < xs.length → ∀ a : Addr, p = some a → a.block < w.heap.size := fun hx a ha => by
  obtain ⟨b, o, e, h1, _⟩ := h hx
  rw [ha] at e
  injection e with e
  subst e
  exact h1
theorem Sr.cells {w : World} {p : Option Addr} {xs : List Nat} (h : Sr w p xs) (hx : 0 < xs.length) : ∃ ad, p = some ad ∧ ∀ j u, (u8s xs)[j]? = some u → w.cell? (ad.add j) = some u := by
  obtain ⟨b, o, rfl, _, h2⟩ := h hx
  refine ⟨_, rfl, fun j u hu => ?_⟩
  have hj : j < xs.length := by
    have := (List.getElem?_eq_some_iff.1 hu).1
    rwa [u8s_length] at this
  rw [Addr.add_mid, h2 j hj, ← hu, u8s_get _ _ hj]
theorem u8s_app (l m : List Nat) : u8s (l ++ m) = u8s l ++ u8s m := List.map_append
theorem u8s_each (l : List Nat) : ∀ v ∈ u8s l, v.oneCell' = true := fun v hv => by obtain ⟨n, _, rfl⟩ := List.mem_map.1 hv; rfl

/-- A row of the call's own holds the bytes xs: so it reads as them. -/
theorem Sr.of_own {w : World} {base : Nat} {e : TypeId} {A : Option Addr} {n c : Nat} {xs : List Nat} (h : w.ownsRow base e 1 (.slice A n c) n (u8s xs)) : Sr w A xs := fun hx => by
  have hn : xs.length = n := by have := h.1; rw [u8s_length] at this; omega
  obtain ⟨g, cap, hv, _, hlt⟩ := h.form (by omega)
  injection hv with h1 h2 h3
  subst h1
  refine ⟨g, 0, rfl, hlt, fun j hj => ?_⟩
  have := h.cells (g := g) rfl j _ (u8s_get xs j hj)
  rw [Addr.add_mid] at this
  exact this

section
variable {P : Program} (w : World)
/-- append(v, src...) of bytes. -/
theorem run_append_bytes (t ty e : TypeId) (ht : P.underlying t = some (.slice e)) (hi : (P.info? e).map (fun i => (i.zero, i.size, i.bytes)) = some (some (.int .u8 0), 1, 1)) (base : Nat) (v : Value) (n : Nat) (xs ys : List Nat)
    (hown : w.ownsRow base e 1 v n (u8s xs)) (p : Option Addr) (m c : Nat) (hm : ys.length = m) (hp : Sr w p ys) (h63 : n + m ≤ 70368744177664) (hbase : base ≤ w.heap.size) :
    ∃ v' w', (Builtin.append_ #[t, t] ty #[v, .slice p m c]).run P w = .ok v' w' ∧ w'.ownsRow base e 1 v' (n + m) (u8s (xs ++ ys)) ∧ w.grownBy w' v.ownBlock ∧ (v'.ownBlock = v.ownBlock ∨ v'.ownBlock = some w.heap.size) := by
  obtain ⟨i, hi', hz, hs, hby⟩ : ∃ i, P.info? e = some i ∧ i.zero = some (.int .u8 0) ∧ i.size = 1 ∧ i.bytes = 1 := by
    cases hq : P.info? e with
    | none => simp [hq] at hi
    | some i => simp [hq] at hi; exact ⟨i, rfl, hi⟩
  by_cases h0 : m = 0
  · subst h0
    obtain rfl : ys = [] := List.eq_nil_of_length_eq_zero hm
    refine ⟨v, w, ?_, by simpa using hown, ⟨rfl, rfl, rfl, Nat.le_refl _, fun _ _ _ => rfl⟩, .inl rfl⟩
    rcases hown.2 with ⟨rfl, rfl⟩ | ⟨g, cap, cur, rfl, _, hcur, hnc, _⟩
    · cases p <;> simp [Builtin.append_, run_underlying ht, sizeOf, typeInfo, hi', Builtin.lenOf, Builtin.firstCells, loadCells, loadCellsFrom]
    · cases p <;> simp [Builtin.append_, run_underlying ht, sizeOf, typeInfo, hi', Builtin.lenOf, Builtin.firstCells, hnc, storeCells, loadCells, loadCellsFrom]
  · obtain ⟨ad, rfl, hc⟩ := hp.cells (by omega)
    obtain ⟨v', w', hr, h2, h3, _, h5⟩ := run_append_own_at (P := P) w base t ty e i (.int .u8 0) 1 1 ht hi' hz hs hby rfl (by omega) v n (u8s xs) hown ad m c (u8s ys) (by rw [u8s_length]; omega) hc (u8s_each _) (by simp only [maxLen]; omega) (by omega) hbase
    exact ⟨v', w', hr, by rw [u8s_app]; exact h2, h3, h5⟩
variable {ops : Array Oper} {rest : List Oper} {o : Oper} {a : Act} {Q : Exit → Act → World → Prop} {w : World}
theorem wp_append_bytes {K : Act → World → Prop} (s x : Operand) (t : TypeId) (ho : o.op = .call { callee := .builtin .append, args := #[s, x], argTypes := #[t, t] })
    (e : TypeId) (ht : P.underlying t = some (.slice e)) (hi : (P.info? e).map (fun i => (i.zero, i.size, i.bytes)) = some (some (.int .u8 0), 1, 1)) (base : Nat) (v : Value) (n : Nat) (xs ys : List Nat) (hs : a.eval s = v)
    (hown : w.ownsRow base e 1 v n (u8s xs)) (p : Option Addr) (m c : Nat) (hx : a.eval x = .slice p m c) (hm : ys.length = m) (hp : Sr w p ys) (h63 : n + m ≤ 70368744177664) (hbase : base ≤ w.heap.size)
    (h : ∀ v' w', Hid (w'.ownsRow base e 1 v' (n + m) (u8s (xs ++ ys))) → Hid (w.grownBy w' v.ownBlock) → Hid (v'.ownBlock = v.ownBlock ∨ v'.ownBlock = some w.heap.size) → K (a.put o.dst v') w') : o.wp P a w K Q := by
  obtain ⟨v', w', hr, h2, h3, h5⟩ := run_append_bytes (P := P) w t o.type e ht hi base v n xs ys hown p m c hm hp h63 hbase
  unfold Oper.wp execOp
  simp only [ho, resolve, invoke, builtin, Sem.run_bind, Sem.run_pure, Result.andThen_ok, List.map_toArray, List.map_cons, List.map_nil, hs, hx, hr]
  exact h v' w' (Lib.hid h2) (Lib.hid h3) (Lib.hid h5)
theorem append_bytes (s x : Operand) (t : TypeId) (hgd : o.guard = none) (ho : o.op = .call { callee := .builtin .append, args := #[s, x], argTypes := #[t, t] })
    (e : TypeId) (ht : P.underlying t = some (.slice e)) (hi : (P.info? e).map (fun i => (i.zero, i.size, i.bytes)) = some (some (.int .u8 0), 1, 1)) (base : Nat) (v : Value) (n : Nat) (xs ys : List Nat) (hs : a.eval s = v)
    (hown : w.ownsRow base e 1 v n (u8s xs)) (p : Option Addr) (m c : Nat) (hx : a.eval x = .slice p m c) (hm : ys.length = m) (hp : Sr w p ys) (h63 : n + m ≤ 70368744177664) (hbase : base ≤ w.heap.size)
    (h : ∀ v' w', Hid (w'.ownsRow base e 1 v' (n + m) (u8s (xs ++ ys))) → Hid (w.grownBy w' v.ownBlock) → Hid (v'.ownBlock = v.ownBlock ∨ v'.ownBlock = some w.heap.size) → wpList P ops Q rest (a.put o.dst v') w') : wpList P ops Q (o :: rest) a w :=
  wpList_plain hgd fun _ hK => wp_append_bytes s x t ho e ht hi base v n xs ys hs hown p m c hx hm hp h63 hbase fun v' w' h2 h3 h5 => hK _ _ (h v' w' h2 h3 h5)
end
/-- 's[:m]' of a slice of one-cell elements. -/
theorem slice_high {P : Program} {t e : TypeId} (hu : P.underlying t = some (.slice e)) (hs : (P.info? e).map (·.size) = some 1) (p : Option Addr) (n c : Nat) (k : IntKind) (m : Nat) (hc : m ≤ c) :
    ∀ W, (Instr.slice t (.slice p n c) none (some (.int k (m : Int))) none).run P W = .ok (.slice p m c) W := by
  have hz : ∀ W, (sizeOf e).run P W = .ok 1 W := by
    cases hq : P.info? e with
    | none => simp [hq] at hs
    | some i => simp [hq] at hs; intro W; simp [sizeOf, typeInfo, hq, hs]
  intro W
  have e1 : ∀ W, (Instr.sliceBound (.int k (m : Int)) c .sliceAcap).run P W = .ok m W := fun W => by
    simp [Instr.sliceBound, asIntOf, hc]
  simp [Instr.slice, run_underlying hu, Instr.sliceBounds, e1, hz, Result.andThen]
  intro _
  cases p <;> simp [Addr.add]
/-- 'arr[:m]' of an array of one-cell elements behind a pointer. -/
theorem sliceAt_high {P : Program} {t e : TypeId} {n : Nat} (hu : P.underlying t = some (.array n e)) (hs : (P.info? e).map (·.size) = some 1) (g off : Nat) (k : IntKind) (m : Nat) (hm : m ≤ n) :
    ∀ W, (Instr.sliceAt t (.pointer (some ⟨g, off, none⟩)) none (some (.int k (m : Int))) none).run P W = .ok (.slice (some ⟨g, off, none⟩) m n) W := by
  have hz : ∀ W, (sizeOf e).run P W = .ok 1 W := by
    cases hq : P.info? e with
    | none => simp [hq] at hs
    | some i => simp [hq] at hs; intro W; simp [sizeOf, typeInfo, hq, hs]
  intro W
  have e1 : ∀ W, (Instr.sliceBound (.int k (m : Int)) n .sliceAlen).run P W = .ok m W := fun W => by
    simp [Instr.sliceBound, asIntOf, hm]
  simp [Instr.sliceAt, Instr.sureAddr, run_underlying hu, Instr.sliceBounds, e1, hz, Result.andThen, Addr.add]
/-- A fresh row: v holds the bytes l, in a block that was not there before. -/
def Fresh (e : TypeId) (w w' : World) (v : Value) (l : List Nat) : Prop := w'.ownsRow w.heap.size e 1 v l.length (u8s l) ∧ Below w.heap.size w w'
end Go.Proofs.YthcebaegijlbdaaDoor
