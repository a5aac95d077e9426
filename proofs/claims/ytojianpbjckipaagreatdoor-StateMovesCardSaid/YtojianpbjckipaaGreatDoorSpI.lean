/-
  PACKAGE space: the library's DeleteFunc, Delete over a row of the call's own.
-/
import Derived.Test.YtojianpbjckipaaGreatDoorSpH
namespace Go.Proofs.YtojianpbjckipaaGreatDoor
open Go Go.RowKit Sh

/-- 's[l:]' of a slice. -/
theorem slice_lowS {P : Program} {t e : TypeId} {sz : Nat} (hu : P.underlying t = some (.slice e)) (hs : (P.info? e).map (·.size) = some sz) (p : Option Addr) (n c : Nat) (k : IntKind) (l : Nat) (h1 : l ≤ n) (_hc : n ≤ c) :
    ∃ p2, (l < n → ∀ g off, p = some ⟨g, off, none⟩ → p2 = some ⟨g, off + l * sz, none⟩) ∧ ∀ W, (Instr.slice t (.slice p n c) (some (.int k (l : Int))) none none).run P W = .ok (.slice p2 (n - l) (c - l)) W := by
  have hz : ∀ W, (sizeOf e).run P W = .ok sz W := by
    cases hq : P.info? e with
    | none => simp [hq] at hs
    | some i => simp [hq] at hs; intro W; simp [sizeOf, typeInfo, hq, hs]
  have e1 : ∀ W, (Instr.sliceBound (.int k (l : Int)) n .sliceB).run P W = .ok l W := fun W => by
    simp [Instr.sliceBound, asIntOf, h1]
  refine ⟨if c = l then p else p.map (·.add (l * sz)), fun h g off hp => ?_, fun W => ?_⟩
  · rw [if_neg (by omega), hp]; simp [Addr.add_mid]
  · simp [Instr.slice, run_underlying hu, Instr.sliceBounds, e1, hz, Result.andThen]
/-- 's[:m]' of a slice. -/
theorem slice_highS {P : Program} {t e : TypeId} {sz : Nat} (hu : P.underlying t = some (.slice e)) (hs : (P.info? e).map (·.size) = some sz) (p : Option Addr) (n c : Nat) (k : IntKind) (m : Nat) (hc : m ≤ c) :
    ∀ W, (Instr.slice t (.slice p n c) none (some (.int k (m : Int))) none).run P W = .ok (.slice p m c) W := by
  have hz : ∀ W, (sizeOf e).run P W = .ok sz W := by
    cases hq : P.info? e with
    | none => simp [hq] at hs
    | some i => simp [hq] at hs; intro W; simp [sizeOf, typeInfo, hq, hs]
  intro W
  have e1 : ∀ W, (Instr.sliceBound (.int k (m : Int)) c .sliceAcap).run P W = .ok m W := fun W => by
    simp [Instr.sliceBound, asIntOf, hc]
  simp [Instr.slice, run_underlying hu, Instr.sliceBounds, e1, hz, Result.andThen]
  intro _
  cases p <;> simp [Addr.add]
theorem zeroCells_len (z : Array Value) (n : Nat) : (Builtin.zeroCells z n).toList.length = n * z.size := by simp [Builtin.zeroCells]
theorem zeroCells_one {z : Array Value} {n : Nat} (hz : 0 < z.size) (h : ∀ i, i < z.size → (z[i]!).oneCell' = true) : ∀ v ∈ (Builtin.zeroCells z n).toList, v.oneCell' = true := fun v hv => by
  simp only [Builtin.zeroCells, Array.toList_map, List.mem_map] at hv
  obtain ⟨i, _, rfl⟩ := hv
  exact h _ (Nat.mod_lt _ hz)
section
variable {P : Program} {ops : Array Oper} {rest : List Oper} {o : Oper} {a : Act} {w : World} {Q : Exit → Act → World → Prop}
/-- clear(s) of a part of a block that is known whole, or of nothing. -/
theorem clear_rows (x : Operand) (dT elem : TypeId) (g off n m cap : Nat) (p : Option Addr) (t : TypeId) (A M C : List Value) (z : Value) (hgd : o.guard = none) (ho : o.op = .call { callee := .builtin .clear, args := #[x], argTypes := #[dT] })
    (hg : Blk w g t (A ++ (M ++ C))) (hoff : off = A.length) (hn : n * m = M.length) (hm : z.cells.size = m) (h0 : 0 < m) (hu : P.underlying dT = some (.slice elem)) (hz : (P.info? elem).map (·.zero) = some (some z)) (hz1 : ∀ i, i < z.cells.size → (z.cells[i]!).oneCell' = true)
    (hx : a.eval x = .slice p n cap) (hp : 0 < n → p = some ⟨g, off, none⟩)
    (h : ∀ w' Z, Hid (Z.length = n * m) → Hid (Blk w' g t (A ++ (Z ++ C))) → Hid (But w.heap.size g w w') → wpList P ops Q rest (a.put o.dst (.tuple #[])) w') : wpList P ops Q (o :: rest) a w := by
  have hzero : ∀ w, (zeroValue elem).run P w = .ok z w := by
    cases hq : P.info? elem with
    | none => simp [hq] at hz
    | some i => simp [hq] at hz; intro w; simp [zeroValue, typeInfo, hq, hz]
  refine wpList_plain hgd fun K hK => ?_
  by_cases hn0 : n = 0
  · subst hn0
    obtain rfl : M = [] := List.eq_nil_of_length_eq_zero (by omega)
    have hrun : (Builtin.clear_ #[dT] o.type #[.slice p 0 cap]).run P w = .ok (.tuple #[]) w := by
      cases p <;> simp [Builtin.clear_, run_underlying hu, Result.andThen]
    unfold Oper.wp
    simp [execOp, ho, resolve, invoke, builtin, hx, hrun, Result.andThen]
    exact hK _ _ (h w [] (Lib.hid (by simp)) (Lib.hid hg) (Lib.hid (But.refl _ _ _)))
  · obtain rfl := hp (by omega)
    subst hoff
    have hZl : (Builtin.zeroCells z.cells n).toList.length = n * m := by rw [zeroCells_len, hm]
    have hth := there_of hg
    have hst := run_storeCells_cells (P := P) g A.length (Builtin.zeroCells z.cells n).toList 0 w (fun j hj => by rw [Nat.add_zero]; exact (hth j (by omega)).1) (fun j hj => by rw [Nat.add_zero]; exact (hth j (by omega)).2) (zeroCells_one (by omega) hz1)
    simp only [Nat.add_zero] at hst
    have hrun : (Builtin.clear_ #[dT] o.type #[.slice (some ⟨g, A.length, none⟩) n cap]).run P w = .ok (.tuple #[]) (w.setCells g A.length (Builtin.zeroCells z.cells n).toList) := by
      obtain ⟨q, rfl⟩ : ∃ q, n = q + 1 := ⟨n - 1, by omega⟩
      simp [Builtin.clear_, run_underlying hu, hzero, hst]
    unfold Oper.wp
    simp [execOp, ho, resolve, invoke, builtin, hx, hrun, Result.andThen]
    refine hK _ _ (h _ (Builtin.zeroCells z.cells n).toList (Lib.hid hZl) ?_ ?_)
    · exact Lib.hid (setCells_row g t _ w A M C hg (by omega))
    · exact Lib.hid (But.setCells _ _ _ (But.refl _ _ _))
end
/-- A row of the call's own that isn't empty, as a block that is known whole. -/
theorem own_whole {W : World} {B n sz : Nat} {e : TypeId} {q : Option Addr} {c : Nat} {xs : List Value} (h : W.ownsRow B e sz (.slice q n c) n xs) (hn : 0 < n) : ∃ g sp, q = some ⟨g, 0, none⟩ ∧ B ≤ g ∧ n ≤ c ∧ c ≤ maxLen ∧ Blk W g e (xs ++ sp) ∧ sp.length = (c - n) * sz := by
  rcases h.2 with ⟨_, h0⟩ | ⟨g, cap, cur, e1, hb, hh, hnc, hcm, hcs, ht⟩
  · omega
  · injection e1 with e1 _ e3
    subst e1; subst e3
    refine ⟨g, cur.toList.drop (n * sz), rfl, hb, hnc, hcm, ?_, ?_⟩
    · rw [← ht, List.take_append_drop]
      simpa [Blk] using hh
    · rw [List.length_drop, Array.length_toList, hcs, Nat.sub_mul]
theorem own_of_whole {W : World} {B n sz g c : Nat} {e : TypeId} {xs sp : List Value} (hB : B ≤ g) (hb : Blk W g e (xs ++ sp)) (hx : xs.length = n * sz) (hs : sp.length = (c - n) * sz) (hnc : n ≤ c) (hcm : c ≤ maxLen) : W.ownsRow B e sz (.slice (some ⟨g, 0, none⟩) n c) n xs := by
  refine ⟨hx, .inr ⟨g, c, (xs ++ sp).toArray, rfl, hB, hb, hnc, hcm, ?_, ?_⟩⟩
  · have : n * sz ≤ c * sz := Nat.mul_le_mul_right _ hnc
    simp only [List.size_toArray, List.length_append, hx, hs, Nat.sub_mul]
    omega
  · rw [List.toList_toArray, ← hx, List.take_left]
theorem zI_one : ∀ i, i < (Value.agg #[.int .i64 0, .int .i64 0, .slice none 0 0]).cells.size → ((Value.agg #[.int .i64 0, .int .i64 0, .slice none 0 0]).cells[i]!).oneCell' = true := fun i hi => by
  have : i = 0 ∨ i = 1 ∨ i = 2 := by
    have h : i < 3 := hi
    omega
  rcases this with rfl | rfl | rfl <;> rfl
theorem zeroI : (Tryz.prog.info? 62).map (·.zero) = some (some (.agg #[.int .i64 0, .int .i64 0, .slice none 0 0])) := by kernel_rfl
theorem sizeI : (Tryz.prog.info? 62).map (·.size) = some 3 := by kernel_rfl
/-- Where DeleteFunc stands: it kept i of the first j. -/
structure DF (W0 W : World) (g : Nat) (sp : List Value) (l R : List Itv) (P : Itv → Bool) (i j : Nat) : Prop where
  blk : Blk W g 62 (R.flatMap iv ++ sp)
  len : R.length = l.length
  front : R.take i = (l.take j).filter (fun x => !P x)
  back : R.drop j = l.drop j
  ij : i < j
  jl : j ≤ l.length
  kept : Kept (fun k => k = g) W0 W
theorem DF.below {W0 W W' : World} {g : Nat} {sp : List Value} {l R : List Itv} {P : Itv → Bool} {i j : Nat} (h : DF W0 W g sp l R P i j) (hb : Below W.heap.size W W') : DF W0 W' g sp l R P i j :=
  ⟨h.blk.below hb h.blk.lt, h.len, h.front, h.back, h.ij, h.jl, h.kept.trans (Kept.of_below hb)⟩
theorem row_split {α : Type} {f : α → List Value} {R : List α} {j : Nat} {x : α} (h : R[j]? = some x) (sp : List Value) : R.flatMap f ++ sp = (R.take j).flatMap f ++ (f x ++ ((R.drop (j + 1)).flatMap f ++ sp)) := by
  obtain ⟨hj, rfl⟩ := List.getElem?_eq_some_iff.1 h
  have e : R = R.take j ++ (R[j] :: R.drop (j + 1)) := by rw [← List.drop_eq_getElem_cons hj, List.take_append_drop]
  conv => lhs; rw [e]
  rw [List.flatMap_append, List.flatMap_cons, List.append_assoc, List.append_assoc]
theorem row_put {α : Type} {f : α → List Value} {R : List α} {j : Nat} {y : α} (hj : j < R.length) (sp : List Value) : (R.set j y).flatMap f ++ sp = (R.take j).flatMap f ++ (f y ++ ((R.drop (j + 1)).flatMap f ++ sp)) := by
  rw [List.set_eq_take_append_cons_drop, if_pos hj, List.flatMap_append, List.flatMap_cons, List.append_assoc, List.append_assoc]
theorem DF.at_ {W0 W : World} {g : Nat} {sp : List Value} {l R : List Itv} {P : Itv → Bool} {i j : Nat} {x : Itv} (h : DF W0 W g sp l R P i j) (hx : l[j]? = some x) : R[j]? = some x := by
  have h1 : (R.drop j)[0]? = (l.drop j)[0]? := by rw [h.back]
  rw [List.getElem?_drop, List.getElem?_drop, Nat.add_zero] at h1
  exact h1.trans hx
theorem DF.skip {W0 W : World} {g : Nat} {sp : List Value} {l R : List Itv} {P : Itv → Bool} {i j : Nat} {x : Itv} (h : DF W0 W g sp l R P i j) (hx : l[j]? = some x) (hp : P x = true) : DF W0 W g sp l R P i (j + 1) := by
  have hj := (List.getElem?_eq_some_iff.1 hx).1
  refine ⟨h.blk, h.len, ?_, ?_, by have := h.ij; omega, hj, h.kept⟩
  · rw [h.front, take_snoc hx, List.filter_append]
    simp [hp]
  · rw [← List.drop_drop, h.back, List.drop_drop]
theorem DF.keep {W0 W W' : World} {g : Nat} {sp : List Value} {l R : List Itv} {P : Itv → Bool} {i j : Nat} {x : Itv} (h : DF W0 W g sp l R P i j) (hx : l[j]? = some x) (hp : P x = false)
    (hb : Blk W' g 62 ((R.take i).flatMap iv ++ (iv x ++ ((R.drop (i + 1)).flatMap iv ++ sp)))) (hk : But W.heap.size g W W') : DF W0 W' g sp l (R.set i x) P (i + 1) (j + 1) := by
  have hj := (List.getElem?_eq_some_iff.1 hx).1
  have hij := h.ij
  have hR : i < R.length := by have := h.len; omega
  refine ⟨by rw [row_put hR]; exact hb, by rw [List.length_set]; exact h.len, ?_, ?_, by omega, hj, h.kept.trans ⟨hk.os, hk.tape, hk.output, hk.size, fun k h1 h2 => hk.block k h1 h2⟩⟩
  · have hs : (R.set i x)[i]? = some x := by rw [List.getElem?_set_self hR]
    rw [take_snoc hs, List.take_set_of_le (Nat.le_refl _), h.front, take_snoc hx, List.filter_append]
    simp [hp]
  · rw [List.drop_set_of_lt (by omega), ← List.drop_drop, h.back, List.drop_drop]
/-- The row of a slice. -/
def OB (q : Option Addr) (k : Nat) : Prop := ∃ a : Addr, q = some a ∧ a.block = k
theorem ix_cases {α : Type} (B : α → Bool) (l : List α) : (ixI B l = -1 ∧ ∀ x ∈ l, B x = false) ∨ ∃ (k : Nat) (x : α), ixI B l = (k : Int) ∧ l[k]? = some x ∧ B x = true ∧ l.take k = (l.take k).filter (fun x => !B x) ∧ k < l.length := by
  unfold ixI
  cases h : l.findIdx? B with
  | none => exact .inl ⟨rfl, by simpa using List.findIdx?_eq_none_iff.1 h⟩
  | some k =>
    obtain ⟨hk, hb, hn⟩ := List.findIdx?_eq_some_iff_getElem.1 h
    refine .inr ⟨k, l[k], rfl, List.getElem?_eq_getElem hk, hb, (List.filter_eq_self.2 fun x hx => ?_).symm, hk⟩
    obtain ⟨i, hi⟩ := List.getElem?_of_mem hx
    have hik : i < k := by have := (List.getElem?_eq_some_iff.1 hi).1; rw [List.length_take] at this; omega
    rw [List.getElem?_take, if_pos hik] at hi
    obtain ⟨hil, rfl⟩ := List.getElem?_eq_some_iff.1 hi
    simpa using hn i hik
set_option maxRecDepth 100000 in
set_option maxHeartbeats 2000000 in
theorem deleteI_t (F : FuncId) (C : Array Value) (P : Itv → Bool) (l : List Itv) (n c B : Nat) (q : Option Addr) (w : World) (hl : l.length = n) (hn : n ≤ 1000000) (ho : w.ownsRow B 62 3 (.slice q n c) n (l.flatMap iv))
    (hcf : ∀ args W, (callFunc F args).run Tryz.prog W = .ok (.enter F args) W)
    (hcall : ∀ x W, x ∈ l → Kept (OB q) w W → Calls Tryz.prog F (#[.agg (iv x).toArray] ++ C) W fun e W' => e = .returned (.bool (P x)) ∧ Below W.heap.size W W') :
    Calls Tryz.prog 100 #[.slice q n c, .func (.func F) #[] C] w fun e w' => e = .returned (.slice q (l.filter (fun x => !P x)).length c) ∧ w'.ownsRow B 62 3 (.slice q (l.filter (fun x => !P x)).length c) (l.filter (fun x => !P x)).length ((l.filter (fun x => !P x)).flatMap iv) ∧ Kept (OB q) w w' := by
  have IX := Lib.hid (indexI_t F C P l n c q w hl (by omega) (RowL.of_own iv_len hl.symm ho) hcf (fun x W hx hb => hcall x W hx (Kept.of_below hb)))
  have HC := Lib.hid hcall
  have HO := Lib.hid ho
  rcases ix_cases P l with ⟨h1, h2⟩ | ⟨k, x0, h1, hx0, hp0, hf0, hk⟩
  · have hfl : l.filter (fun x => !P x) = l := List.filter_eq_self.2 fun x hx => by rw [h2 x hx]; rfl
    rw [hfl, hl]
    rw [h1] at IX
    clear hcall ho h1 h2 hfl
    go_enter Tryz.func100, Tryz.ntmps100
    go_wp2_with fail
    refine IX.out.mono ?_
    rintro e w1 ⟨rfl, b1⟩
    go_wp2_with fail
    go_ret
    exact ⟨rfl, own_below HO.out b1, Kept.of_below b1⟩
  · rw [h1] at IX
    obtain ⟨g, sp, rfl, hB, hnc, hcm, hblk, hsp⟩ := own_whole ho (by omega)
    have BL := Lib.hid hblk
    have HX0 := Lib.hid hx0; have HP0 := Lib.hid hp0; have HF0 := Lib.hid hf0
    clear hcall ho h1 hblk hx0 hp0 hf0
    have k1 : IntKind.i64.wrap ((k : Int) + 1) = ((k + 1 : Nat) : Int) := by rw [IntWalk.i64_in _ (by omega)]; omega
    have kn : ((k : Int) == -1) = false := by rw [beq_eq_false_iff_ne]; omega
    go_enter Tryz.func100, Tryz.ntmps100
    go_wp2_with fail
    refine IX.out.mono ?_
    rintro e w1 ⟨rfl, b1⟩
    have D0 := Lib.hid (show DF w w1 g sp l l P k (k + 1) from ⟨BL.out.below b1 BL.out.lt, rfl, by rw [take_snoc HX0.out, List.filter_append, ← HF0.out]; simp [HP0.out], rfl, Nat.lt_succ_self _, hk, Kept.of_below b1⟩)
    clear b1 BL HX0 HP0 HF0 IX
    go_upto_region 5 with (fail)
    clear k1 kn
    go_loopw [5, 6] (fun x y wr => ∃ (i j : Nat) (R : List Itv), x = .int .i64 (i : Int) ∧ y = .int .i64 (j : Int) ∧ DF w wr g sp l R P i j) (fun _ y _ => n - (intOf y).toNat)
    case atStart => exact ⟨k, k + 1, l, rfl, rfl, D0.out⟩
    case round =>
      obtain ⟨i, j, R, rfl, rfl, hD⟩ := hrel
      have D1 := Lib.hid hD
      have hij := hD.ij; have hjl := hD.jl
      clear hD D0
      by_cases hlt : j < n
      · obtain ⟨x, hx⟩ : ∃ x, l[j]? = some x := ⟨_, List.getElem?_eq_getElem (by omega)⟩
        have hR := D1.out.at_ hx
        have BJ := Lib.hid (show Blk wr g 62 ((R.take j).flatMap iv ++ (iv x ++ ((R.drop (j + 1)).flatMap iv ++ sp))) from by rw [← row_split hR sp]; exact D1.out.blk)
        have LJ := Lib.hid (show ((R.take j).flatMap iv).length = j * 3 from by rw [flat_length iv_len, List.length_take, Nat.min_eq_left (by have := D1.out.len; omega)])
        have FS := Lib.hid (iv_size x); have F1 := Lib.hid (iv_oneA x)
        have j1 : (j : Int) < (n : Int) := by omega
        have A0 := Lib.hid (Blk.new wr 62 [.int .i64 0, .int .i64 0, .slice none 0 0])
        have A1 := Lib.hid (A0.out.setRow (iv x))
        have W1 := Lib.hid (below_setRow ((Below.refl wr.heap.size wr).alloc (Nat.le_refl _) (.cells #[.int .i64 0, .int .i64 0, .slice none 0 0] 62)) (Nat.le_refl _) (iv x).toArray)
        have D2 := Lib.hid (D1.out.below W1.out)
        have KO := Lib.hid (show ∀ W, Kept (fun k => k = g) w W → Kept (OB (some ⟨g, 0, none⟩)) w W from fun W h => h.mono fun k e => ⟨⟨g, 0, none⟩, rfl, e.symm⟩)
        have CX := Lib.hid (HC.out x _ (List.mem_of_getElem? hx) (KO.out _ D2.out.kept))
        have i1 : IntKind.i64.wrap ((i : Int) + 1) = ((i + 1 : Nat) : Int) := by rw [IntWalk.i64_in _ (by omega)]; omega
        have i2 : (i : Int) < (n : Int) := by omega
        have j2 : IntKind.i64.wrap ((j : Int) + 1) = ((j + 1 : Nat) : Int) := by rw [IntWalk.i64_in _ (by omega)]; omega
        have HX := Lib.hid hx; have HLT := Lib.hid hlt; have HIJ := Lib.hid hij
        clear hx hR hij hjl hlt D1
        go_wp2_with (first
          | ((with_reducible refine at_op (.load 62 (.tmp 24)) rfl ?_); go_must (refine load_part 62 (.tmp 24) g (j * 3) 62 ((R.take j).flatMap iv) (iv x) ((R.drop (j + 1)).flatMap iv ++ sp) _ rfl rfl BJ.out LJ.out.symm Tryz.underlying62 rfl FS.out rfl ?_))
          | ((with_reducible refine store_blk 62 (.tmp 7) (.tmp 25) wr.heap.size 62 [.int .i64 0, .int .i64 0, .slice none 0 0] (iv x) rfl rfl ?_ ?_ ?_ ?_ ?_ ?_ ?_); exact A0.out; exact rfl; exact FS.out; exact F1.out; exact rfl; exact rfl)
          | ((with_reducible refine load_blk 62 (.tmp 7) wr.heap.size 62 (iv x) _ rfl rfl ?_ Tryz.underlying62 ?_ ?_ ?_ ?_); exact A1.out; exact rfl; exact FS.out; exact rfl))
        refine CX.out.mono ?_
        rintro e w2 ⟨rfl, b2⟩
        have D3 := Lib.hid (D2.out.below b2)
        have A2 := Lib.hid (A1.out.below b2 A1.out.lt)
        clear b2 CX D2 BJ LJ A0 A1 W1
        cases hp : P x with
        | true =>
          have D4 := Lib.hid (D3.out.skip HX.out hp)
          clear hp D3
          go_wp2_with fail
          go_roundw
          case rel => exact ⟨i, j + 1, R, rfl, rfl, D4.out⟩
          case measure => have := HLT.out; simp [intOf]; omega
        | false =>
          have HP := Lib.hid hp
          clear hp
          obtain ⟨y, hy⟩ : ∃ y, R[i]? = some y := ⟨_, List.getElem?_eq_getElem (by have := D3.out.len; have := HIJ.out; have := HLT.out; omega)⟩
          have BI := Lib.hid (show Blk w2 g 62 ((R.take i).flatMap iv ++ (iv y ++ ((R.drop (i + 1)).flatMap iv ++ sp))) from by rw [← row_split hy sp]; exact D3.out.blk)
          have LI := Lib.hid (show ((R.take i).flatMap iv).length = i * 3 from by rw [flat_length iv_len, List.length_take, Nat.min_eq_left (by have := D3.out.len; have := HIJ.out; have := HLT.out; omega)])
          clear hy
          go_wp2_with (first
            | ((with_reducible refine load_blk 62 (.tmp 7) wr.heap.size 62 (iv x) _ rfl rfl ?_ Tryz.underlying62 ?_ ?_ ?_ ?_); exact A2.out; exact rfl; exact FS.out; exact rfl)
            | ((with_reducible refine at_op (.store 62 (.tmp 33) (.tmp 32)) rfl ?_); go_must (refine store_part 62 (.tmp 33) (.tmp 32) g (i * 3) 62 ((R.take i).flatMap iv) (iv y) ((R.drop (i + 1)).flatMap iv ++ sp) (iv x) rfl rfl BI.out LI.out.symm rfl FS.out F1.out rfl rfl ?_); intro w3 a1 a2 a3))
          have D4 := Lib.hid (D3.out.keep HX.out HP.out a1.out a2.out)
          clear a1 a2 a3 D3 BI LI A2
          go_roundw
          case rel => exact ⟨i + 1, j + 1, _, rfl, rfl, D4.out⟩
          case measure => have := HLT.out; simp [intOf]; omega
      · obtain rfl : j = n := by omega
        clear hlt
        have hf : R.take i = l.filter (fun x => !P x) := by rw [D1.out.front, ← hl, List.take_length]
        have hm : (l.filter (fun x => !P x)).length = i := by rw [← hf, List.length_take, Nat.min_eq_left (by have := D1.out.len; omega)]
        have HM := Lib.hid hm; have HF := Lib.hid hf
        have BI := Lib.hid (show Blk wr g 62 ((R.take i).flatMap iv ++ ((R.drop i).flatMap iv ++ sp)) from by rw [← List.append_assoc, ← List.flatMap_append, List.take_append_drop]; exact D1.out.blk)
        have LI := Lib.hid (show ((R.take i).flatMap iv).length = i * 3 from by rw [flat_length iv_len, List.length_take, Nat.min_eq_left (by have := D1.out.len; omega)])
        have LD := Lib.hid (show (j - i) * 3 = ((R.drop i).flatMap iv).length from by rw [flat_length iv_len, List.length_drop, D1.out.len, hl])
        have KK := Lib.hid D1.out.kept
        have RL := Lib.hid (show (R.take i).length = i from by rw [List.length_take, Nat.min_eq_left (by have := D1.out.len; omega)])
        obtain ⟨p2, hp2, hsl⟩ := slice_lowS Tryz.underlying22 sizeI (some ⟨g, 0, none⟩) j c .i64 i (by omega) hnc
        have hsh := slice_highS Tryz.underlying22 sizeI (some ⟨g, 0, none⟩) j c .i64 i (by omega)
        have HP2 := Lib.hid (show 0 < j - i → p2 = some ⟨g, i * 3, none⟩ from fun h => by rw [hp2 (by omega) g 0 rfl, Nat.zero_add])
        have HSP := Lib.hid hsp; have HB_ := Lib.hid hB; have HIC := Lib.hid (show i ≤ c by omega); have HCM := Lib.hid hcm; have HIJ := Lib.hid (show i ≤ j by omega)
        have HJC := Lib.hid hnc
        clear hf hm D1 hp2 hsp hB hcm
        go_wp2_with ((with_reducible refine at_op (.call { callee := .builtin .clear, args := #[.tmp 38], argTypes := #[22] }) rfl ?_); go_must (refine clear_rows (.tmp 38) 22 62 g (i * 3) (j - i) 3 (c - i) p2 62 ((R.take i).flatMap iv) ((R.drop i).flatMap iv) sp _ rfl rfl BI.out LI.out.symm LD.out rfl (by decide) Tryz.underlying22 zeroI zI_one rfl HP2.out ?_); intro w3 Z a1 a2 a3)
        have OW := Lib.hid (show w3.ownsRow B 62 3 (.slice (some ⟨g, 0, none⟩) i c) i ((R.take i).flatMap iv) from own_of_whole HB_.out a2.out LI.out (by
          have h1 := a1.out
          have h2 := HSP.out
          have h3 := HIJ.out
          have h4 := HJC.out
          rw [List.length_append, h1, h2, ← Nat.add_mul]
          congr 1
          omega) HIC.out HCM.out)
        have KF := Lib.hid (show Kept (OB (some ⟨g, 0, none⟩)) w w3 from (KK.out.trans (⟨a3.out.os, a3.out.tape, a3.out.output, a3.out.size, fun b h1 h2 => a3.out.block b h1 h2⟩ : Kept (fun k => k = g) wr w3)).mono fun b e => ⟨⟨g, 0, none⟩, rfl, e.symm⟩)
        clear a1 a2 a3 KK BI
        go_wp2_with fail
        go_ret
        rw [HM.out, ← HF.out]
        exact ⟨rfl, OW.out, KF.out⟩
end Go.Proofs.YtojianpbjckipaaGreatDoor
