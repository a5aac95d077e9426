/-
  PACKAGE disk: a disk's state, pure; its map of dirty sectors in memory; Len, has, New.
-/
import Derived.Test.YtgaiheaibejloaaBaseM
import Derived.Maps.OwnSet
import Derived.Maps.RangeWalk
import Derived.Deep.OwnRows
import Derived.Deep.WholeRow
namespace Go.Proofs.Ytgaiheaibejloaa
open Go Go.RowKit Go.Maps Go.ChangeMaps Go.MapKept Sh

/-! ### pure -/
def upd {α : Type} (S : Nat → α) (j : Nat) (x : α) : Nat → α := fun i => if i = j then x else S i
theorem upd_same {α : Type} (S : Nat → α) (j : Nat) (x : α) : upd S j x j = x := if_pos rfl
theorem upd_other {α : Type} (S : Nat → α) {j i : Nat} (x : α) (h : i ≠ j) : upd S j x i = S i := if_neg h
/-- The sectors' bytes, one behind the other. -/
def flatS (S : Nat → List Nat) : Nat → List Nat
  | 0 => []
  | k + 1 => flatS S k ++ S k
theorem flatS_length (S : Nat → List Nat) (h : ∀ i, (S i).length = 64) : ∀ k, (flatS S k).length = k * 64
  | 0 => rfl
  | k + 1 => by show (flatS S k ++ S k).length = _; rw [List.length_append, flatS_length S h k, h]; omega
theorem flatS_congr {S S' : Nat → List Nat} : ∀ k, (∀ i, i < k → S i = S' i) → flatS S k = flatS S' k
  | 0, _ => rfl
  | k + 1, h => by show flatS S k ++ S k = flatS S' k ++ S' k; rw [flatS_congr k (fun i hi => h i (by omega)), h k (Nat.lt_succ_self k)]
theorem flatS_cut (S : Nat → List Nat) (j : Nat) : ∀ k, j < k → ∃ C, flatS S k = flatS S j ++ (S j ++ C) ∧ ∀ x, flatS (upd S j x) k = flatS S j ++ (x ++ C)
  | 0, h => absurd h (Nat.not_lt_zero _)
  | k + 1, h => by
    rcases Nat.lt_or_ge j k with hj | hj
    · obtain ⟨C, h1, h2⟩ := flatS_cut S j k hj
      refine ⟨C ++ S k, ?_, fun x => ?_⟩
      · show flatS S k ++ S k = _
        rw [h1]; simp only [List.append_assoc]
      · show flatS (upd S j x) k ++ upd S j x k = _
        rw [h2 x, upd_other _ _ (by omega)]; simp only [List.append_assoc]
    · obtain rfl : j = k := by omega
      refine ⟨[], ?_, fun x => ?_⟩
      · show flatS S j ++ S j = _
        rw [List.append_nil]
      · show flatS (upd S j x) j ++ upd S j x j = _
        rw [upd_same, List.append_nil, flatS_congr (S := upd S j x) (S' := S) j (fun i hi => upd_other _ _ (by omega))]
/-- A sector's bytes: what was written, with noughts behind. -/
def pad (l : List Nat) : List Nat := l ++ List.replicate (64 - l.length) 0
theorem pad_length {l : List Nat} (h : l.length ≤ 64) : (pad l).length = 64 := by simp [pad]; omega
def clampN (n : Int) : Nat := (min (max n 0) 64).toNat
theorem clampN_le (n : Int) : clampN n ≤ 64 := by unfold clampN; omega
theorem clampN_cast (n : Int) : ((clampN n : Nat) : Int) = min (max n 0) 64 := by unfold clampN; omega
def mix (m : Nat) (new old : List Nat) : List Nat := new.take m ++ old.drop m
theorem mix_length {m : Nat} {a b : List Nat} (ha : a.length = 64) (hb : b.length = 64) (hm : m ≤ 64) : (mix m a b).length = 64 := by simp [mix, ha, hb]; omega
theorem mix_all {a b : List Nat} (ha : a.length = 64) (hb : b.length = 64) : mix 64 a b = a := by
  unfold mix; rw [List.take_of_length_le (by omega), List.drop_of_length_le (by omega), List.append_nil]

/-- A whole value into the block that was made last. -/
theorem store_new {P : Program} {ops : Array Oper} {rest : List Oper} {o : Oper} {a : Act} {w : World} {Q : Exit → Act → World → Prop} (ty : TypeId) (x y : Operand) (c c' : Array Value) (q : Nat)
    (hgd : o.guard = none) (ho : o.op = .store ty x y) (hi : (P.info? ty).map (·.size) = some q) (hq : c'.size = q) (hc : c.size = q) (h1 : c'.all (·.oneCell') = true)
    (hx : a.eval x = .pointer (some ⟨w.heap.size, 0, none⟩)) (hy : a.eval y = .agg c') (h : wpList P ops Q rest (a.put o.dst undef) (w.alloc (.cells c' ty))) : wpList P ops Q (o :: rest) a (w.alloc (.cells c ty)) :=
  wpList_store_row hgd ty x y ho w.heap.size c' hx hy ty c (heap_alloc_last w _) (by rw [hq]; exact hi) (by omega) h1 (by rw [World.setRow_alloc_new]; exact h)

/-! ### the map -/
def secV (l : List Nat) : Value := .agg (u8s l).toArray
def zeroL : List Nat := List.replicate 64 0
def secR (v : Value) : Option (DataW Value × List MemPlace) := some (.held v, [])
theorem law : Keyed Try.prog 3 := int_keyed Try.underlying3
def InI (x : Int) : Prop := -9223372036854775808 ≤ x ∧ x ≤ 9223372036854775807
theorem InI.wf {x : Int} (h : InI x) : (Lit.int .i64 x).wf = true := WalkArith.wf_i64 h
theorem InI.key {x : Int} (h : InI x) : keyOf Try.prog 3 (.int .i64 x) = some (.int .i64 x) := keyOf_int_mk Try.underlying3 h.wf
/-- What is dirty at a number, whatever the number. -/
def mi (M : Nat → Option (List Nat)) (x : Int) : Option (List Nat) := if x < 0 then none else M x.toNat
theorem mi_nat (M : Nat → Option (List Nat)) (j : Nat) : mi M (j : Int) = M j := by unfold mi; rw [if_neg (by omega)]; rfl
/-- Block b is a map that reads as M, of at most n entries. -/
def DM (w : World) (b n : Nat) (M : Nat → Option (List Nat)) : Prop :=
  ∃ D : DataW Value, w.ownsMap Try.prog 3 secR b n D ∧ ∀ x, InI x → ∀ z, D.atKey (.int .i64 x) z = (mi M x).elim z (fun l => .held (secV l))
section
variable {w w' : World} {b n : Nat} {M : Nat → Option (List Nat)}
theorem DM.lt (h : DM w b n M) : b < w.heap.size := by obtain ⟨D, o, _⟩ := h; exact o.lt
theorem DM.of_block (h : DM w b n M) (hb : w'.heap[b]? = w.heap[b]?) : DM w' b n M := by
  obtain ⟨D, ⟨es, clock, h1, h2⟩, hm⟩ := h
  exact ⟨D, ⟨es, clock, hb.trans h1, h2⟩, hm⟩
theorem DM.below {B : Nat} (h : DM w b n M) (hb : Below B w w') (hl : b < B) : DM w' b n M := h.of_block (hb.block b hl)
theorem DM.mono (h : DM w b n M) {n' : Nat} (hn : n ≤ n') : DM w b n' M := by
  obtain ⟨D, o, hm⟩ := h
  exact ⟨D, o.mono hn, hm⟩
theorem DM.apart (h : DM w b n M) {g : Nat} {t : TypeId} {cs : List Value} (hg : Blk w g t cs) : b ≠ g := by
  obtain ⟨D, ⟨es, clock, h1, _⟩, _⟩ := h
  intro e
  subst e
  have := h1.symm.trans hg
  cases this
theorem DM.made (w : World) : DM (w.alloc (.map #[] 0)) w.heap.size 0 (fun _ => none) :=
  ⟨.map [], World.ownsMap_made w _ _ _, fun x _ z => by unfold mi; split <;> rfl⟩
theorem zero_sec (w : World) : (zeroValue 54).run Try.prog w = .ok (secV zeroL) w := by kernel_rfl
theorem DM.look (h : DM w b n M) {x : Int} (hx : InI x) :
    (Instr.lookup 49 (.map (some b)) (.int .i64 x) true).run Try.prog w = .ok (.tuple #[secV ((mi M x).getD zeroL), .bool (mi M x).isSome]) w := by
  obtain ⟨D, o, hm⟩ := h
  obtain ⟨v, ps, hrun, hv⟩ := o.look_ok law Try.underlying49 (zero_sec w) (zd := .held (secV zeroL)) (zp := []) rfl hx.key
  have hv' : (DataW.held v : DataW Value) = D.atKey (.int .i64 x) (.held (secV zeroL)) := by
    have e : some ((.held v : DataW Value), ([] : List MemPlace)) = some (D.atKey (.int .i64 x) (.held (secV zeroL)), ps) := hv
    simpa using congrArg (Option.map Prod.fst) e
  have hat := hm x hx
  rw [hrun]
  cases hc : mi M x with
  | none =>
    rw [hc] at hat
    have e1 : v = secV zeroL := by rw [hat] at hv'; exact DataW.held.inj hv'
    have e2 : Maps.has D (.int .i64 x) = false := Maps.has_false_of_atKey (fun z => hat z)
    rw [e1, e2]; rfl
  | some l =>
    rw [hc] at hat
    have e1 : v = secV l := by rw [hat] at hv'; exact DataW.held.inj hv'
    have e2 : Maps.has D (.int .i64 x) = true := Maps.has_true_of_atKey (fun z => hat z)
    rw [e1, e2]; rfl
theorem DM.put (h : DM w b n M) (hn : n < maxLen) (j : Nat) (hj : InI (j : Int)) (l : List Nat) :
    ∃ w', (Instr.mapUpdate 49 (.map (some b)) (.int .i64 (j : Int)) (secV l)).run Try.prog w = .ok () w' ∧ DM w' b (n + 1) (upd M j (some l)) ∧ w.mapTurned w' b := by
  obtain ⟨D, o, hm⟩ := h
  obtain ⟨w', hrun, o', ht⟩ := o.store law Try.underlying49 hn hj.key (val := secV l) (d := .held (secV l)) (ps := []) rfl
  refine ⟨w', hrun, ⟨_, o', fun x hx z => ?_⟩, ht⟩
  by_cases e : x = (j : Int)
  · subst e
    rw [atKey_put_same o.isMap (law.key hj.key), mi_nat, upd_same]; rfl
  · rw [atKey_put_other (by intro h; injection h with _ h2; exact e h2), hm x hx]
    have e2 : mi (upd M j (some l)) x = mi M x := by
      unfold mi
      split
      · rfl
      · exact upd_other _ _ (by omega)
    rw [e2]
theorem DM.clear (h : DM w b n M) :
    ∃ w', (∀ ty, (Builtin.clear_ #[49] ty #[.map (some b)]).run Try.prog w = .ok (.tuple #[]) w') ∧ DM w' b 0 (fun _ => none) ∧ w.mapTurned w' b := by
  obtain ⟨D, ⟨es, clock, hb, F, hs, hD⟩, hm⟩ := h
  refine ⟨setBlock w b (.map #[] clock), ?_, ⟨.map [], ⟨#[], clock, heap_setBlock_same hb _, ⟨by simp, stamped_empty clock, by simp⟩, Nat.le_refl _, rfl⟩, fun x _ z => by unfold mi; split <;> rfl⟩, ⟨es, clock, #[], clock, hb, rfl⟩⟩
  intro ty
  simp [Builtin.clear_, run_underlying Try.underlying49, MapKept.run_getObj_map hb, MapKept.run_setObj_map _ hb, Result.andThen, setBlock]
theorem Blk.turned {g : Nat} {t : TypeId} {cs : List Value} (h : Blk w g t cs) (ht : w.mapTurned w' b) (hne : g ≠ b) : Blk w' g t cs := (ht.grown.block g h.lt (fun e => hne (Option.some.inj e))).trans h
theorem below_turned {B : Nat} {a : World} (h : Below B a w) (ht : w.mapTurned w' b) (hB : B ≤ b) (ha : B ≤ w.heap.size) : Below B a w' :=
  h.grown ht.grown ha (fun j hj => by cases hj; exact hB)
end
/-! ### a disk -/
def Sec (l : List Nat) : Prop := l.length = 64 ∧ Bytes l
theorem zero_sec_is : Sec zeroL := ⟨rfl, sl_bytes (fun x hx => by rw [List.eq_of_mem_replicate hx]; decide)⟩
/-- A disk in block g: its sectors in block bs, what is dirty in block bm. -/
structure DK (w : World) (g bs bm k n : Nat) (S : Nat → List Nat) (M : Nat → Option (List Nat)) : Prop where
  b : Blk w g 51 [.slice (some ⟨bs, 0, none⟩) k k, .map (some bm)]
  s : Blk w bs 54 (u8s (flatS S k))
  m : DM w bm n M
  sS : ∀ i, Sec (S i)
  mS : ∀ j l, M j = some l → Sec l ∧ j < k
  kk : k ≤ 4096
section
variable {w w' : World} {g bs bm k n : Nat} {S : Nat → List Nat} {M : Nat → Option (List Nat)}
theorem DK.below (h : DK w g bs bm k n S M) (hb : Below w.heap.size w w') : DK w' g bs bm k n S M :=
  ⟨h.b.below hb h.b.lt, h.s.below hb h.s.lt, h.m.below hb h.m.lt, h.sS, h.mS, h.kk⟩
theorem DK.kept {F : Nat → Prop} (h : DK w g bs bm k n S M) (hb : Kept F w w') (h1 : ¬ F g) (h2 : ¬ F bs) (h3 : ¬ F bm) : DK w' g bs bm k n S M :=
  ⟨h.b.kept hb h1, h.s.kept hb h2, h.m.of_block (hb.block bm h.m.lt h3), h.sS, h.mS, h.kk⟩
theorem DK.c0 (h : DK w g bs bm k n S M) : w.cell? ⟨g, 0, none⟩ = some (.slice (some ⟨bs, 0, none⟩) k k) := by rw [h.b.cell]; rfl
theorem DK.c1 (h : DK w g bs bm k n S M) : w.cell? ⟨g, 1, none⟩ = some (.map (some bm)) := by rw [h.b.cell]; rfl
theorem DK.ne (h : DK w g bs bm k n S M) : bs ≠ g := h.s.apart h.b (by decide)
theorem dLen_t (h : DK w g bs bm k n S M) : Calls Try.prog 20 #[.pointer (some ⟨g, 0, none⟩)] w fun e w' => e = .returned (.int .i64 (k : Int)) ∧ w' = w := by
  have c0 := h.c0
  have hk : (k : Int) ≤ 4096 := by have := h.kk; omega
  clear h
  go_enter Try.func20, Try.ntmps20
  go_wp2
  go_ret
  exact ⟨rfl, rfl⟩
theorem dLen_nil (w : World) : Calls Try.prog 20 #[.pointer none] w fun e w' => e = .returned (.int .i64 0) ∧ w' = w := by
  go_enter Try.func20, Try.ntmps20
  go_wp2
  go_ret
  exact ⟨rfl, rfl⟩
theorem dhas_t (x : Int) (h : DK w g bs bm k n S M) : Calls Try.prog 21 #[.pointer (some ⟨g, 0, none⟩), .int .i64 x] w fun e w' => e = .returned (.bool (decide (0 ≤ x ∧ x < (k : Int)))) ∧ w' = w := by
  have LN := Lib.hid (dLen_t h)
  by_cases h0 : 0 ≤ x
  · by_cases h1 : x < (k : Int)
    · have e : decide (0 ≤ x ∧ x < (k : Int)) = true := decide_eq_true ⟨h0, h1⟩
      rw [e]
      clear h e
      go_enter Try.func21, Try.ntmps21
      go_wp2_with (go_at_call 20; refine LN.out.mono ?_; rintro e w' ⟨rfl, rfl⟩)
      go_ret
      exact ⟨rfl, rfl⟩
    · have e : decide (0 ≤ x ∧ x < (k : Int)) = false := decide_eq_false (fun h => h1 h.2)
      have e2 : decide (x < (k : Int)) = false := decide_eq_false h1
      rw [e]
      clear h e h1
      go_enter Try.func21, Try.ntmps21
      go_wp2_with (go_at_call 20; refine LN.out.mono ?_; rintro e w' ⟨rfl, rfl⟩)
      go_ret
      exact ⟨rfl, rfl⟩
  · have e : decide (0 ≤ x ∧ x < (k : Int)) = false := decide_eq_false (fun h => h0 h.1)
    rw [e]
    clear h e
    go_enter Try.func21, Try.ntmps21
    go_wp2_with (go_at_call 20; refine LN.out.mono ?_; rintro e w' ⟨rfl, rfl⟩)
    go_ret
    exact ⟨rfl, rfl⟩
theorem dhas_nil (w : World) : Calls Try.prog 21 #[.pointer none, .int .i64 0] w fun e w' => e = .returned (.bool false) ∧ w' = w := by
  have LN := Lib.hid (dLen_nil w)
  go_enter Try.func21, Try.ntmps21
  go_wp2_with (go_at_call 20; refine LN.out.mono ?_; rintro e w' ⟨rfl, rfl⟩)
  go_ret
  exact ⟨rfl, rfl⟩
theorem sec_info : (Try.prog.info? 54).map (fun i => (i.zero, i.size, i.bytes)) = some (some (secV zeroL), 64, 64) := by kernel_rfl
theorem made_same (z : Value) (q m : Nat) (hq : 0 < q) : madeCells (List.replicate q z).toArray m = (List.replicate m z).toArray := by
  apply Array.ext
  · simp [madeCells]
  · intro i h1 h2
    have hm : i % q < q := Nat.mod_lt _ hq
    simp [madeCells, hm]
theorem made_zero (m : Nat) : madeCells (secV zeroL).cells m = (u8s (List.replicate m 0)).toArray := by
  have e : u8s (List.replicate m 0) = List.replicate m (Value.int .u8 0) := by simp [u8s]
  rw [e, ← made_same (.int .u8 0) 64 m (by decide)]
  rfl
theorem flat_zero : ∀ k, flatS (fun _ => zeroL) k = List.replicate (k * 64) 0
  | 0 => rfl
  | k + 1 => by show flatS (fun _ => zeroL) k ++ zeroL = _; rw [flat_zero k]; unfold zeroL; rw [List.replicate_append_replicate, Nat.succ_mul]
theorem make_secs (k : Nat) (hk : k ≤ 4096) (w : World) : (Instr.makeSlice 48 (.int .i64 (k : Int)) (.int .i64 (k : Int))).run Try.prog w = .ok (.slice (some ⟨w.heap.size, 0, none⟩) k k) (w.alloc (.cells (u8s (flatS (fun _ => zeroL) k)).toArray 54)) := by
  obtain ⟨i, hi, hzz⟩ := Option.map_eq_some_iff.1 sec_info
  simp only [Prod.mk.injEq] at hzz
  obtain ⟨hz, hs, hb⟩ := hzz
  have hr := run_make (P := Try.prog) w 48 54 i (secV zeroL) Try.underlying48 hi hz .i64 .i64 k k (by omega) (Int.le_refl _) (by rw [hb]; omega) (by omega)
  simp only [Int.toNat_natCast, hs] at hr
  rw [flat_zero, ← made_zero]
  exact hr
set_option maxRecDepth 100000 in
set_option maxHeartbeats 1000000 in
theorem dNew_t (k : Nat) (hk : k ≤ 4096) (w : World) : Calls Try.prog 7 #[.int .i64 (k : Int)] w fun e w' => ∃ g bs bm, e = .returned (.tuple #[.pointer (some ⟨g, 0, none⟩), .int .i64 0]) ∧ DK w' g bs bm k 0 (fun _ => zeroL) (fun _ => none) ∧ w.heap.size ≤ bs ∧ w.heap.size ≤ bm ∧ w.heap.size ≤ g ∧ Below w.heap.size w w' := by
  have hmk := make_secs k hk
  have hmm := @run_makeMap Try.prog
  have k1 : (k : Int) ≤ 4096 := by omega
  have K1 := Lib.hid hk
  have zs : ∀ (j : Nat) (l : List Nat), (fun _ : Nat => (none : Option (List Nat))) j = some l → Sec l ∧ j < k := fun j l h => by simp at h
  have ZS := Lib.hid zs
  clear hk zs
  have W2 := Lib.hid (show DK (((w.alloc (.cells (u8s (flatS (fun _ => zeroL) k)).toArray 54)).alloc (.map #[] 0)).alloc (.cells #[.slice (some ⟨w.heap.size, 0, none⟩) k k, .map (some (w.heap.size + 1))] 51)) (w.heap.size + 1 + 1) w.heap.size (w.heap.size + 1) k 0 (fun _ => zeroL) (fun _ => none) ∧ Below w.heap.size w (((w.alloc (.cells (u8s (flatS (fun _ => zeroL) k)).toArray 54)).alloc (.map #[] 0)).alloc (.cells #[.slice (some ⟨w.heap.size, 0, none⟩) k k, .map (some (w.heap.size + 1))] 51)) from by
    have b1 := (Below.refl w.heap.size w).alloc (Nat.le_refl _) (.cells (u8s (flatS (fun _ => zeroL) k)).toArray 54)
    have b2 := b1.alloc b1.size (.map #[] 0)
    have b3 := b2.alloc b2.size (.cells #[.slice (some ⟨w.heap.size, 0, none⟩) k k, .map (some (w.heap.size + 1))] 51)
    have s1 := Blk.new w 54 (u8s (flatS (fun _ => zeroL) k))
    have m1 := DM.made (w.alloc (.cells (u8s (flatS (fun _ => zeroL) k)).toArray 54))
    have e1 : (w.alloc (.cells (u8s (flatS (fun _ => zeroL) k)).toArray 54)).heap.size = w.heap.size + 1 := by simp
    have e2 : ((w.alloc (.cells (u8s (flatS (fun _ => zeroL) k)).toArray 54)).alloc (.map #[] 0)).heap.size = w.heap.size + 1 + 1 := by simp
    rw [e1] at m1
    refine ⟨⟨?_, (s1.alloc _).alloc _, m1.of_block (Below.heap_alloc _ _ _ m1.lt), fun _ => zero_sec_is, ZS.out, K1.out⟩, b3⟩
    rw [← e2]
    exact Blk.new _ 51 [.slice (some ⟨w.heap.size, 0, none⟩) k k, .map (some (w.heap.size + 1))])
  go_enter Try.func7, Try.ntmps7
  go_wp2
  go_ret2
  exact ⟨_, rfl, _, _, W2.out.1, Nat.le_refl _, Nat.le_succ _, Nat.le_trans (Nat.le_succ _) (Nat.le_succ _), W2.out.2⟩
theorem dNew_no (n : Int) (hn : n < 0 ∨ 4096 < n) (w : World) : Calls Try.prog 7 #[.int .i64 n] w fun e w' => e = .returned (.tuple #[.pointer none, .int .i64 1]) ∧ w' = w := by
  by_cases h0 : n < 0
  · clear hn
    go_enter Try.func7, Try.ntmps7
    go_wp2
    go_ret2
    exact ⟨rfl, rfl⟩
  · have h1 : 4096 < n := by omega
    clear hn
    go_enter Try.func7, Try.ntmps7
    go_wp2
    go_ret2
    exact ⟨rfl, rfl⟩
end
end Go.Proofs.Ytgaiheaibejloaa
