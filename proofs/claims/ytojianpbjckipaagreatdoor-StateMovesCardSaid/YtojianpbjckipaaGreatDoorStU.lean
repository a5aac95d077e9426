/-
  LAYER 9's LAWS: asks one behind the other; bytes that are cut, longer, turned.
-/
import Derived.Test.YtojianpbjckipaaGreatDoorStT
import Derived.Test.YtojianpbjckipaaGreatDoorSpX
import Derived.Test.YtojianpbjckipaaGreatDoorStI
import Derived.Test.YtojianpbjckipaaGreatDoorStX
namespace Go.Proofs.YtojianpbjckipaaGreatDoor
open Go Go.RowKit Sh

section
variable {P : Program} {ops : Array Oper} {Q : Exit → Act → World → Prop} {md : Region.Mode} {S : World → Prop} {last : Nat → Bool}
/-- The one that may come up now loads a whole block. -/
theorem wpAnyE_load {i : Nat} {o : Oper} {fuel : Nat} {listed : Array Bool} {a : Act} {w : World} (hr : Region.ready md ops listed = [i]) (hi : ops[i]? = some o) (hwd : Region.wanted o (yielded ops a.tmps) = true)
    (ty : TypeId) (x : Operand) (g : Nat) (t : TypeId) (cs : List Value) (d : TypeDesc) (ho : o.op = .load ty x) (hg : Blk w g t cs) (hu : P.underlying ty = some d) (hd : d.isRow = true) (hz : (P.info? ty).map (·.size) = some cs.length) (hx : a.eval x = .pointer (some ⟨g, 0, none⟩))
    (hS : last i = true ∨ S w) (h : wpAnyE P md ops Q S last fuel (listed.setIfInBounds i true) (a.put o.dst (.agg cs.toArray)) w) : wpAnyE P md ops Q S last (fuel + 1) listed a w :=
  wpAnyE_one hr hi hwd fun _ hK => wload_part ty x g 0 t [] cs [] d ho (by simpa using hg) rfl hu hd hz hx (hK.out _ _ hS h)
/-- The one that may come up now stores a whole block. -/
theorem wpAnyE_store {i : Nat} {o : Oper} {fuel : Nat} {listed : Array Bool} {a : Act} {w : World} (hr : Region.ready md ops listed = [i]) (hi : ops[i]? = some o) (hwd : Region.wanted o (yielded ops a.tmps) = true)
    (ty : TypeId) (x y : Operand) (g : Nat) (t : TypeId) (cs cs' : List Value) (ho : o.op = .store ty x y) (hg : Blk w g t cs) (hl : cs.length = cs'.length) (hz : (P.info? ty).map (·.size) = some cs'.length) (h1 : cs'.toArray.all (·.oneCell') = true)
    (hx : a.eval x = .pointer (some ⟨g, 0, none⟩)) (hy : a.eval y = .agg cs'.toArray)
    (h : ∀ w', Blk w' g t cs' → Kept (fun b => b = g) w w' → (last i = true ∨ S w') ∧ wpAnyE P md ops Q S last fuel (listed.setIfInBounds i true) (a.put o.dst undef) w') : wpAnyE P md ops Q S last (fuel + 1) listed a w :=
  wpAnyE_one hr hi hwd fun _ hK => wstore_part ty x y g 0 t [] cs [] cs' ho (by simpa using hg) rfl hl hz h1 hx hy fun w' a1 a2 _ => by
    obtain ⟨h1, h2⟩ := h w' (by simpa using a1.out) (a2.out.keptOne rfl)
    exact hK.out _ _ h1 h2
end
/-- An Ask as it lies. -/
structure Av where
  r : Rv
  d : Int
def al (x : Av) : List Value := rv x.r ++ [.int .i64 x.d]
/-- A row of asks. -/
structure AW (w : World) (A : Option Addr) (n : Nat) (F : Nat → Av) : Prop where
  at_ : ∀ j, j < n → ∃ b o, A = some ⟨b, o, none⟩ ∧ b < w.heap.size ∧ w.rangeAt b (o + j * 7) (al (F j))
  r : ∀ j, j < n → RvW w (F j).r
theorem AW.below {w w' : World} {A : Option Addr} {n : Nat} {F : Nat → Av} (h : AW w A n F) (hb : Below w.heap.size w w') : AW w' A n F :=
  ⟨fun j hj => by
    obtain ⟨b, o, e, hl, r⟩ := h.at_ j hj
    exact ⟨b, o, e, Nat.lt_of_lt_of_le hl hb.size, rows_below r hb hl⟩, fun j hj => (h.r j hj).below hb⟩
theorem AW.read {w : World} {A : Option Addr} {n : Nat} {F : Nat → Av} (h : AW w A n F) {j : Nat} (hj : j < n) : ∃ b o, A = some ⟨b, o, none⟩ ∧ b < w.heap.size ∧ w.rangeAt b (o + j * 7) (rv (F j).r) ∧ w.cell? ⟨b, o + j * 7 + 6, none⟩ = some (.int .i64 (F j).d) := by
  obtain ⟨b, o, e, hl, r⟩ := h.at_ j hj
  refine ⟨b, o, e, hl, fun i v hv => r i v ?_, r 6 _ rfl⟩
  unfold al
  rw [List.getElem?_append_left (List.getElem?_eq_some_iff.1 hv).1]
  exact hv
theorem sf_new (rd wr a b c d : Int) (B : Nat) (W : World) : SF B W (nsp rd wr a b c d) :=
  ⟨World.ownsRow_nil _ _ _ _, (fun y hy => by cases hy), World.ownsRow_nil _ _ _ _, (fun y hy => by cases hy), rfl, fun y hy => by
    simp only [nsp, List.mem_cons, List.not_mem_nil, or_false] at hy
    rcases hy with rfl | rfl | rfl | rfl <;> exact FT.nil _ _⟩
def zSp : List Value := [.int .i64 0, .slice none 0 0, .slice none 0 0, .int .i64 0, .int .i64 0, .int .i64 0, .int .i64 0, .int .i64 0, .slice none 0 0, .bool false, .int .i64 0, .int .i64 0, .int .i64 0, .slice none 0 0, .bool false, .int .i64 0, .int .i64 0, .int .i64 0, .slice none 0 0, .bool false, .int .i64 0, .int .i64 0, .int .i64 0, .slice none 0 0, .bool false]
theorem mod_s (m : Nat) (hm : 0 < m) (hm2 : m ≤ 1000) (n : Int) : ∃ k : Nat, k < m ∧ wrap64 ((IntKind.u64.wrap n).tmod (m : Int)) = (k : Int) := by
  have h0 : 0 ≤ IntKind.u64.wrap n := by simp [IntKind.wrap, IntKind.bits, IntKind.signed]; omega
  rw [Int.tmod_eq_emod_of_nonneg h0]
  generalize IntKind.u64.wrap n = x at *
  have h3 : 0 ≤ x % (m : Int) := Int.emod_nonneg _ (by omega)
  have h4 : x % (m : Int) < (m : Int) := Int.emod_lt_of_pos _ (by omega)
  refine ⟨(x % (m : Int)).toNat, by omega, ?_⟩
  generalize x % (m : Int) = y at *
  unfold wrap64
  omega
theorem own_emptyT (w : World) (base : Nat) (h : base ≤ w.heap.size) : (w.alloc (.cells #[] 5)).ownsRow base 5 1 (.slice (some ⟨w.heap.size, 0, none⟩) 0 0) 0 (u8s []) := by
  have := World.ownsRow_lit w (e := 5) (size := 1) (base := base) #[] 0 h (Nat.zero_le _) rfl
  simpa [u8s] using this
theorem one_bytesT (x : Nat) (hx : x < 256) : Bytes [x] := sl_bytes (fun y hy => by obtain rfl := List.mem_singleton.1 hy; exact hx)
theorem own_zero {w : World} {base : Nat} {e : TypeId} {v : Value} {n : Nat} {xs : List Nat} (h : w.ownsRow base e 1 v (0 + n) (u8s ([] ++ xs))) : w.ownsRow base e 1 v n (u8s xs) := by rwa [List.nil_append, Nat.zero_add] at h
theorem grown_size {w w' : World} {o : Obj} {r : Option Nat} (h : (w.alloc o).grownBy w' r) (o' : Obj) : w.heap.size ≤ (w'.alloc o').heap.size := by
  have h1 := h.size
  simp at h1 ⊢
  omega
theorem own_monoT {w : World} {base base' : Nat} {e : TypeId} {size : Nat} {v : Value} {n : Nat} {xs : List Value} (h : w.ownsRow base e size v n xs) (hb : base' ≤ base) : w.ownsRow base' e size v n xs := own_base h (fun k hk => Nat.le_trans hb (h.lt k hk).1)
theorem own_formT {w : World} {base : Nat} {e : TypeId} {v : Value} {n : Nat} {xs : List Value} (h : w.ownsRow base e 1 v n xs) (hn : 0 < n) : ∃ g c, v = .slice (some ⟨g, 0, none⟩) n c ∧ n ≤ c := by
  rcases h.2 with ⟨_, h0⟩ | ⟨g, cap, cur, rfl, _, _, hc, _⟩
  · omega
  · exact ⟨g, cap, rfl, hc⟩
theorem own_turnT {w : World} {base g c n : Nat} {l : List Nat} (h : w.ownsRow base 5 1 (.slice (some ⟨g, 0, none⟩) n c) n (u8s l)) (j y : Nat) :
    (w.setCell ⟨g, j, none⟩ (.int .u8 (y : Int))).ownsRow base 5 1 (.slice (some ⟨g, 0, none⟩) n c) n (u8s (l.set j y)) := by
  rw [← u8s_set]
  exact (h.stored j _).1
theorem mod_bigT (m : Nat) (hm : 0 < m) (hm2 : m ≤ 1000000) (n : Int) : ∃ k : Nat, k < m ∧ wrap64 ((IntKind.u64.wrap n).tmod (m : Int)) = (k : Int) := by
  have h0 : 0 ≤ IntKind.u64.wrap n := by simp [IntKind.wrap, IntKind.bits, IntKind.signed]; omega
  rw [Int.tmod_eq_emod_of_nonneg h0]
  generalize IntKind.u64.wrap n = x at *
  have h3 : 0 ≤ x % (m : Int) := Int.emod_nonneg _ (by omega)
  have h4 : x % (m : Int) < (m : Int) := Int.emod_lt_of_pos _ (by omega)
  refine ⟨(x % (m : Int)).toNat, by omega, ?_⟩
  generalize x % (m : Int) = y at *
  unfold wrap64
  omega
theorem xor_u8T (a x : Nat) (ha : a < 256) (hx : x < 256) : bits .xor .u8 (a : Int) (x : Int) = ((a ^^^ x : Nat) : Int) := by
  show IntKind.u8.wrap ((BitVec.ofInt 8 (a : Int) ^^^ BitVec.ofInt 8 (x : Int)).toNat : Int) = _
  have e1 : ∀ y : Nat, y < 256 → (BitVec.ofInt 8 (y : Int)).toNat = y := fun y hy => by simp; omega
  have h : a ^^^ x < 256 := Nat.xor_lt_two_pow (n := 8) ha hx
  rw [BitVec.toNat_xor, e1 a ha, e1 x hx]
  exact IntWalk.u8_in _ (by omega)
theorem set_bytesT {l : List Nat} (hb : Bytes l) (j x : Nat) (hx : x < 256) : Bytes (l.set j (gt l j ^^^ x)) := sl_bytes (fun y hy => by
    rcases List.mem_or_eq_of_mem_set hy with h | rfl
    · obtain ⟨q, hq, rfl⟩ := List.getElem_of_mem h
      have := hb q
      rwa [gt_of_lt hq] at this
    · exact Nat.xor_lt_two_pow (n := 8) (hb j) hx)
theorem set_iff {l : List Nat} {j x : Nat} (hj : j < l.length) : l.set j (gt l j ^^^ x) = l ↔ x = 0 := by
  constructor
  · intro h
    have h1 : (l.set j (gt l j ^^^ x))[j]? = l[j]? := by rw [h]
    rw [List.getElem?_set_self hj, List.getElem?_eq_getElem hj] at h1
    have h2 := Option.some.inj h1
    rw [gt_of_lt hj] at h2
    have h3 : l[j] ^^^ (l[j] ^^^ x) = l[j] ^^^ l[j] := by rw [h2]
    rwa [← Nat.xor_assoc, Nat.xor_self, Nat.zero_xor] at h3
  · rintro rfl
    rw [Nat.xor_zero, gt_of_lt hj]
    exact List.set_getElem_self hj
theorem same_textsT (xs ys : List Nat) (A B : Option Addr) (n m c d : Nat) (w : World) (hn : xs.length = n) (hm : ys.length = m) (ha : Sr w A xs) (hb : Sr w B ys) (hx : Bytes xs) (hy : Bytes ys) :
    Calls Tryz.prog 11 #[.slice A n c, .slice B m d] w fun e w' => e = .returned (.bool (decide (xs = ys))) ∧ w = w' := by
  have e1 := ha.conv hn c
  have e2 := hb.conv hm d
  have e3 := str_beqT xs ys hx hy
  obtain ⟨b, hbb⟩ : ∃ b, decide (xs = ys) = b := ⟨_, rfl⟩
  rw [hbb] at e3 ⊢
  obtain ⟨s, hs⟩ : ∃ s, str xs = s := ⟨_, rfl⟩
  obtain ⟨t, ht⟩ : ∃ t, str ys = t := ⟨_, rfl⟩
  rw [hs] at e1 e3
  rw [ht] at e2 e3
  clear ha hb hx hy hbb hs ht hn hm
  go_enter Tryz.func11, Tryz.ntmps11
  go_wp2
  go_ret
  exact ⟨rfl, rfl⟩
/-- What a turned byte makes of a space's bytes. -/
theorem turnS {s : Sp} {j x : Nat} (h : spMay s = true) (h4 : s.last.length = 4) (hr : InS s) (hj : j < (putS s).length) (hx : x < 256) :
    (okS ((putS s).set j (gt (putS s) j ^^^ x)) = false → x ≠ 0) ∧
    (okS ((putS s).set j (gt (putS s) j ^^^ x)) = true → spMay (gotS ((putS s).set j (gt (putS s) j ^^^ x))) = true ∧
      putS (gotS ((putS s).set j (gt (putS s) j ^^^ x))) = (putS s).set j (gt (putS s) j ^^^ x) ∧
      spS (gotS ((putS s).set j (gt (putS s) j ^^^ x))) s = decide (x = 0)) := by
  have hb := set_bytesT (putS_bytes s) j x hx
  have hs := set_iff (x := x) hj
  obtain ⟨ys, hys⟩ : ∃ ys, (putS s).set j (gt (putS s) j ^^^ x) = ys := ⟨_, rfl⟩
  rw [hys] at hb hs ⊢
  have f := frontS_ok h h4 hr
  constructor
  · intro hk h0
    rw [hs.2 h0, f.2] at hk
    cases hk
  · intro hk
    obtain ⟨e1, e2, e3⟩ := backS hb hk
    refine ⟨e2, e1.symm, ?_⟩
    rw [Bool.eq_iff_iff, spS_iff, decide_eq_true_iff, ← hs]
    constructor
    · intro e; rw [e1, e]
    · intro e; rw [e, f.1]
theorem putS_pos (s : Sp) : 0 < (putS s).length := by
  unfold putS
  rw [List.length_append, beN_length]
  omega
theorem longS {s : Sp} (h : spMay s = true) (h4 : s.last.length = 4) (hr : InS s) (x : Nat) : okS (putS s ++ [x]) = false := frontS_no [x] h h4 hr (Nat.zero_lt_one)
/-- Do of a space that may be: what it leaves. -/
theorem DoB (x : Spv) (now : Int) (r : Rv) (w : World) (hx : SpW w x) (ho : MayS x.sp) (hi : InS x.sp) (hr : RvW w r) (hq : InRq r.r) (hu : UT w) :
    Calls Tryz.prog 20 #[.agg (sv x).toArray, .int .i64 now, .agg (rv r).toArray] w fun e w' => ∃ (x' : Spv) (R : List Rpv) (q : Option Addr) (c : Nat), e = .returned (.tuple #[.agg (sv x').toArray, .slice q R.length c]) ∧ x'.sp = (doP x.sp now r.r).1 ∧ R.map (·.r) = (doP x.sp now r.r).2 ∧ SF w.heap.size w' x' ∧ SpW w' x' ∧ MayS x'.sp ∧ InS x'.sp ∧ w'.ownsRow w.heap.size 26 5 (.slice q R.length c) R.length (R.flatMap pv) ∧ (∀ y ∈ R, FT w' w.heap.size y.p y.c y.r.t) ∧ Below w.heap.size w w' := by
  refine (DoA_t x now r w hx ho.small hr hu).mono ?_
  rintro e w' ⟨x', R, q, c, he, p, rr, sf, o, ft, ap, b⟩
  have hm' : MayS x'.sp := by rw [p]; exact (do_ok ho now r.r).1
  have hi' : InS x'.sp := by
    rw [p]
    refine do_in hi now r.r (fun f hf => ?_) (fun f hf => ?_)
    · obtain ⟨j, hj, rfl⟩ := List.mem_map.1 hf
      exact hq.p j (List.mem_range.1 hj)
    · obtain ⟨j, hj, rfl⟩ := List.mem_map.1 hf
      exact hq.t j (List.mem_range.1 hj)
  exact ⟨x', R, q, c, he, p, rr, sf, sf.w hm'.small, hm', hi', o, ft, b⟩
/-- A space that is worked on in the block g. -/
structure PB (w0 W : World) (g : Nat) (x : Spv) : Prop where
  box : Blk W g 29 (sv x)
  sf : SF w0.heap.size W x
  mx : MayS x.sp
  inn : InS x.sp
  ge : w0.heap.size ≤ g
  bel : Below w0.heap.size w0 W
theorem PB.w {w0 W : World} {g : Nat} {x : Spv} (h : PB w0 W g x) : SpW W x := h.sf.w h.mx.small
theorem PB.below {w0 W W' : World} {g : Nat} {x : Spv} (h : PB w0 W g x) (hb : Below W.heap.size W W') : PB w0 W' g x := ⟨h.box.below hb h.box.lt, h.sf.below hb, h.mx, h.inn, h.ge, h.bel.trans (hb.mono h.bel.size)⟩
theorem PB.put {w0 W W' V : World} {g : Nat} {x x' : Spv} (h : PB w0 W g x) (hs : SF W.heap.size W' x') (hm : MayS x'.sp) (hi : InS x'.sp) (hb : Below W.heap.size W W') (hk : Kept (fun b => b = g) W' V) (hx : Blk V g 29 (sv x')) : PB w0 V g x' := by
  have bx := h.box.below hb h.box.lt
  have b1 : Below w0.heap.size w0 W' := h.bel.trans (hb.mono h.bel.size)
  exact ⟨hx, (hs.low h.bel.size).kept hk bx, hm, hi, h.ge, b1.trans ⟨hk.os, hk.tape, hk.output, hk.size, fun k hlt => hk.block k (Nat.lt_of_lt_of_le hlt b1.size) (by have := h.ge; omega)⟩⟩
end Go.Proofs.YtojianpbjckipaaGreatDoor
