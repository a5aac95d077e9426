/-
  LAYERS 6, 7 as layer 8 wants them: no bytes.
-/
import Derived.Test.YtojianpbjckipaaGreatDoorTpE
import Derived.Laws.IdiomStrings
namespace Go.Proofs.YtojianpbjckipaaGreatDoor
open Go Go.RowKit Sh

theorem fewN_le {n : Nat} (h : fewN n = true) : 1 ≤ n ∧ n ≤ 6 := by simpa [fewN] using h
theorem mayP_iff {n : Nat} {G : Nat → Fld} (h : mayP n G = true) : 1 ≤ n ∧ n ≤ 6 ∧ ∀ j, j < n → okP (G j) = true := by
  unfold mayP at h
  rw [Bool.and_eq_true] at h
  exact ⟨(fewN_le h.1).1, (fewN_le h.1).2, (allN_iff _ n).1 h.2⟩
def eS : ByteArray := { data := #[] }
theorem Kept.setRowK {F : Nat → Prop} {a w : World} (h : Kept F a w) {g : Nat} (hg : F g ∨ a.heap.size ≤ g) (c : Array Value) : Kept F a (w.setRow g c) :=
  ⟨h.os, h.tape, h.output, by simpa using h.size, fun k hk hf => by
    have hne : k ≠ g := fun e => by
      subst e
      rcases hg with h1 | h1
      · exact hf h1
      · omega
    exact (setRow_other w g k c hne).trans (h.block k hk hf)⟩
theorem world_at {P : Program} {c : Code} {Q : Exit → Act → World → Prop} {a : Act} {w : World} (R : World → Prop) (h : R w) (k : ∀ W, R W → Code.wp P c Q a W) : Code.wp P c Q a w := k w h
/-- A field whose number is one. -/
def InR (f : Fld) : Prop := -9223372036854775808 ≤ f.n ∧ f.n ≤ 9223372036854775807
theorem eS_of (s : ByteArray) (h : s.toList.isEmpty = true) : s = eS := by
  rw [ByteArray.toList_eq] at h
  obtain ⟨⟨l⟩⟩ := s
  have : l = [] := by simpa using h
  subst this
  rfl
theorem allN_congr {B C : Nat → Bool} : ∀ n, (∀ j, j < n → B j = C j) → allN B n = allN C n
  | 0, _ => rfl
  | n + 1, h => by rw [allN, allN, allN_congr n (fun j hj => h j (by omega)), h n (by omega)]
theorem mayP_congr {n : Nat} {G H : Nat → Fld} (h : ∀ j, j < n → G j = H j) : mayP n G = mayP n H := by
  unfold mayP
  rw [allN_congr n (fun j hj => by rw [h j hj])]
/-- Are they few? -/
def fewL (n : Nat) (G : Nat → Fld) : Bool := decide (n ≤ 20) && allN (fun j => decide ((G j).s.size ≤ 100)) n
set_option maxRecDepth 100000 in
theorem few_t (n c : Nat) (p : Option Addr) (G : Nat → Fld) (w : World) (hn : n ≤ 9223372036854775807) (hr : Rw w p n G) :
    Calls Tryz.prog 71 #[.slice p n c] w fun e w' => e = .returned (.bool (fewL n G)) ∧ w = w' := by
  by_cases h20 : n ≤ 20
  · have HR := Lib.hid hr
    have n20 : (n : Int) ≤ 20 := by omega
    have hF : fewL n G = allN (fun j => decide ((G j).s.size ≤ 100)) n := by simp [fewL, h20]
    have AY := Lib.hid (fun h => (allN_iff (fun j => decide ((G j).s.size ≤ 100)) n).2 h); have AN := Lib.hid (fun j hj h => allN_no (B := fun j => decide ((G j).s.size ≤ 100)) (n := n) (j := j) hj h)
    rw [← hF] at AY AN
    obtain ⟨r, hR⟩ : ∃ r, fewL n G = r := ⟨_, rfl⟩
    rw [hR] at AY AN ⊢
    clear hr hR hF h20
    go_enter Tryz.func71, Tryz.ntmps71
    go_upto_region 4 with (fail)
    go_loopw [3] (fun x wr => ∃ j : Nat, j ≤ n ∧ x = .int .i64 (j : Int) ∧ w = wr ∧ ∀ i, i < j → (G i).s.size ≤ 100) (fun x _ => n - (intOf x).toNat)
    case atStart => exact ⟨0, by omega, rfl, rfl, fun i hi => absurd hi (by omega)⟩
    case round =>
      obtain ⟨j, hj, rfl, rfl, hb⟩ := hrel
      have HB := Lib.hid hb
      clear hb
      by_cases hlt : j < n
      · obtain ⟨b, o, rfl, rg⟩ := HR.out.read hlt
        have c2 : w.cell? ⟨b, o + j * 3 + 2, none⟩ = some (.string (G j).s) := rg 2 _ rfl
        have AN1 := Lib.hid (AN.out j hlt)
        have j1 : (j : Int) < (n : Int) := by omega
        have HN := Lib.hid (fun (h : (G j).s.size ≤ 100) (i : Nat) (hi : i < j + 1) => show (G i).s.size ≤ 100 by
          rcases Nat.lt_or_ge i j with h1 | h1
          · exact HB.out i h1
          · obtain rfl : i = j := by omega
            exact h)
        obtain ⟨z, hz⟩ : ∃ z, (G j).s = z := ⟨_, rfl⟩
        rw [hz] at c2 AN1 HN
        clear rg hz AN HB
        by_cases hs : z.size ≤ 100
        · have s1 : ¬ ((100 : Int) < (z.size : Int)) := by omega
          have HN2 := Lib.hid (HN.out hs)
          clear HN AN1
          go_wp2_with fail
          go_roundw
          case rel => exact ⟨j + 1, hlt, by go_num, trivial, HN2.out⟩
          case measure => simp [intOf]; omega
        · have s1 : (100 : Int) < (z.size : Int) := by omega
          have hR := AN1.out (decide_eq_false hs)
          subst hR
          clear HN AN1
          go_wp2_with fail
          go_ret
          exact ⟨rfl, rfl⟩
      · obtain rfl : j = n := by omega
        have hR := AY.out (fun i hi => decide_eq_true (HB.out i hi))
        subst hR
        clear hlt
        go_wp2_with fail
        go_ret
        exact ⟨rfl, rfl⟩
  · rw [show fewL n G = false by simp [fewL, h20]]
    have n20 : (20 : Int) < (n : Int) := by omega
    clear hr h20
    go_enter Tryz.func71, Tryz.ntmps71
    go_wp2_with fail
    go_ret
    exact ⟨rfl, rfl⟩

theorem nil_may (G : Nat → Fld) : mayP 0 G = false := rfl
theorem sameN_of {n m : Nat} {G H : Nat → Fld} (h : n = m) (hg : ∀ j, j < n → G j = H j) : sameN n G m H = true := by
  subst h
  unfold sameN
  rw [decide_eq_true rfl, Bool.true_and]
  exact (allN_iff _ n).2 (fun j hj => (sameF_iff _ _).2 (hg j hj))
theorem sameN_iff {n m : Nat} {G H : Nat → Fld} : sameN n G m H = true ↔ n = m ∧ ∀ j, j < n → G j = H j := by
  unfold sameN
  rw [Bool.and_eq_true, decide_eq_true_eq, allN_iff]
  exact and_congr_right fun _ => forall_congr' fun j => forall_congr' fun _ => sameF_iff _ _
theorem Rw.congr {w : World} {p : Option Addr} {n : Nat} {G H : Nat → Fld} (h : Rw w p n G) (hg : ∀ j, j < n → G j = H j) : Rw w p n H := fun j hj => by
  obtain ⟨b, o, e, hl, r⟩ := h j hj
  exact ⟨b, o, e, hl, by rw [← hg j hj]; exact r⟩
/-- A request: who, its number, its kind, how long, its two rows of fields. -/
structure Rq where
  cl : Int
  sq : Int
  kd : Int
  le : Int
  n : Nat
  G : Nat → Fld
  m : Nat
  H : Nat → Fld
def isK (k : Int) : Bool := decide (1 ≤ k) && decide (k ≤ 8)
def rdK (k : Int) : Bool := decide (2 ≤ k) && decide (k ≤ 7)
def wrK (k : Int) : Bool := (k == 1) || (k == 3) || (k == 5) || (k == 6) || (k == 7)
def brK (k : Int) : Bool := (k == 1) || (k == 6) || (k == 7)
def findB (r : Rq) : Bool := if rdK r.kd then mayP r.n r.G else decide (r.n = 0)
def bringB (r : Rq) : Bool := if brK r.kd then mayV r.m r.H && (decide (0 ≤ r.le) && decide (r.le ≤ 1099511627776)) else decide (r.m = 0) && (r.le == 0)
def headB (r : Rq) : Bool := (decide (0 ≤ r.cl) && decide (r.cl < 4)) && ((decide (1 ≤ r.sq) && decide (r.sq ≤ 1073741824)) && isK r.kd)
def mayR (r : Rq) : Bool := headB r && (findB r && bringB r)
structure InRq (r : Rq) : Prop where
  p : ∀ j, j < r.n → InR (r.G j)
  t : ∀ j, j < r.m → InR (r.H j)
theorem okV_P {f : Fld} (h : okV f = true) : okP f = true := by
  unfold okP
  rw [if_neg]
  · exact h
  · unfold okV at h
    split at h
    · omega
    · split at h
      · omega
      · cases h
theorem mayV_P {n : Nat} {G : Nat → Fld} (h : mayV n G = true) : mayP n G = true := by
  unfold mayV at h
  rw [Bool.and_eq_true] at h
  unfold mayP
  rw [h.1, Bool.true_and]
  exact (allN_iff _ n).2 (fun j hj => okV_P ((allN_iff _ n).1 h.2 j hj))
theorem mayP_pos {n : Nat} {G : Nat → Fld} (h : mayP n G = true) : n ≠ 0 := by have := (mayP_iff h).1; omega
/-- What a request that may be has. -/
structure MayH (r : Rq) : Prop where
  cl0 : 0 ≤ r.cl
  cl4 : r.cl < 4
  sq1 : 1 ≤ r.sq
  sqm : r.sq ≤ 1073741824
  k1 : 1 ≤ r.kd
  k8 : r.kd ≤ 8
  le0 : 0 ≤ r.le
  lem : r.le ≤ 1099511627776
  p : r.n = 0 ∨ mayP r.n r.G = true
  t : r.m = 0 ∨ mayP r.m r.H = true
theorem mayR_h {r : Rq} (h : mayR r = true) : MayH r := by
  unfold mayR headB isK at h
  simp only [Bool.and_eq_true, decide_eq_true_eq] at h
  obtain ⟨⟨⟨a1, a2⟩, ⟨a3, a4⟩, a5, a6⟩, hf, hg⟩ := h
  have hg2 : 0 ≤ r.le ∧ r.le ≤ 1099511627776 ∧ (r.m = 0 ∨ mayP r.m r.H = true) := by
    unfold bringB at hg
    split at hg
    · simp only [Bool.and_eq_true, decide_eq_true_eq] at hg
      exact ⟨hg.2.1, hg.2.2, .inr (mayV_P hg.1)⟩
    · simp only [Bool.and_eq_true, decide_eq_true_eq, beq_iff_eq] at hg
      exact ⟨by omega, by omega, .inl hg.1⟩
  have hf2 : r.n = 0 ∨ mayP r.n r.G = true := by
    unfold findB at hf
    split at hf
    · exact .inr hf
    · exact .inl (by simpa using hf)
  exact ⟨a1, a2, a3, a4, a5, a6, hg2.1, hg2.2.1, hf2, hg2.2.2⟩
theorem mayV_congr {n : Nat} {G H : Nat → Fld} (h : ∀ j, j < n → G j = H j) : mayV n G = mayV n H := by
  unfold mayV
  rw [allN_congr n (fun j hj => by rw [h j hj])]

/-- A whole block is loaded where a guard says yes. -/
theorem load_blk_gO {P : Program} {ops : Array Oper} {rest : List Oper} {o : Oper} {a : Act} {w : World} {Q : Exit → Act → World → Prop} (ty : TypeId) (x : Operand) (g : Nat) (t : TypeId) (cs : List Value) (d : TypeDesc)
    (hw : Region.wanted o (yielded ops a.tmps) = true) (ho : o.op = .load ty x) (hg : Blk w g t cs) (hu : P.underlying ty = some d) (hd : d.isRow = true) (hi : (P.info? ty).map (·.size) = some cs.length)
    (hx : a.eval x = .pointer (some ⟨g, 0, none⟩)) (h : wpList P ops Q rest (a.put o.dst (.agg cs.toArray)) w) : wpList P ops Q (o :: rest) a w :=
  BigFrame.wpList_want hw fun _ hK => wload_part ty x g 0 t [] cs [] d ho (by simpa using hg) rfl hu hd hi hx (hK _ _ h)
/-- The load of ONE operation, named by the slot that it writes. -/
theorem load_blk_gdO {P : Program} {ops : Array Oper} {rest : List Oper} {o : Oper} {a : Act} {w : World} {Q : Exit → Act → World → Prop} (D : Nat) (ty : TypeId) (x : Operand) (g : Nat) (t : TypeId) (cs : List Value) (d : TypeDesc)
    (_hD : o.dst = some D) (hw : Region.wanted o (yielded ops a.tmps) = true) (ho : o.op = .load ty x) (hg : Blk w g t cs) (hu : P.underlying ty = some d) (hd : d.isRow = true) (hi : (P.info? ty).map (·.size) = some cs.length)
    (hx : a.eval x = .pointer (some ⟨g, 0, none⟩)) (h : wpList P ops Q rest (a.put o.dst (.agg cs.toArray)) w) : wpList P ops Q (o :: rest) a w :=
  load_blk_gO ty x g t cs d hw ho hg hu hd hi hx h
/-- A request as it is handed on: where its rows lie. -/
structure Rv where
  r : Rq
  p : Option Addr
  c : Nat
  t : Option Addr
  d : Nat
def rv (x : Rv) : List Value := [.int .i64 x.r.cl, .int .i64 x.r.sq, .int .i64 x.r.kd, .slice x.p x.r.n x.c, .slice x.t x.r.m x.d, .int .i64 x.r.le]
theorem rv_size (x : Rv) : (Tryz.prog.info? 51).map (·.size) = some (rv x).length := by
  show (Tryz.prog.info? 51).map (·.size) = some 6
  kernel_rfl
/-- Its rows. -/
structure RvW (w : World) (x : Rv) : Prop where
  p : Rw w x.p x.r.n x.r.G
  t : Rw w x.t x.r.m x.r.H
  n : x.r.n ≤ 9223372036854775807
  m : x.r.m ≤ 9223372036854775807
theorem RvW.below {w w' : World} {x : Rv} (h : RvW w x) (hb : Below w.heap.size w w') : RvW w' x := ⟨h.p.below hb, h.t.below hb, h.n, h.m⟩
theorem rv_cells {w : World} {g : Nat} {x : Rv} (h : Blk w g 51 (rv x)) :
    w.cell? ⟨g, 0, none⟩ = some (.int .i64 x.r.cl) ∧ w.cell? ⟨g, 1, none⟩ = some (.int .i64 x.r.sq) ∧ w.cell? ⟨g, 2, none⟩ = some (.int .i64 x.r.kd) ∧ w.cell? ⟨g, 3, none⟩ = some (.slice x.p x.r.n x.c) ∧ w.cell? ⟨g, 4, none⟩ = some (.slice x.t x.r.m x.d) ∧ w.cell? ⟨g, 5, none⟩ = some (.int .i64 x.r.le) := ⟨h.cell 0, h.cell 1, h.cell 2, h.cell 3, h.cell 4, h.cell 5⟩
/-- The cells of the array of uses. -/
def uts : List Value :=
  [.bool false, .bool false, .bool false, .bool false, .bool true, .bool true, .bool true, .bool false, .bool false, .bool true, .bool true, .bool false, .bool true, .bool false, .bool false,
   .bool true, .bool true, .bool false, .bool true, .bool true, .bool true, .bool true, .bool true, .bool true, .bool false, .bool false, .bool false]
/-- The array lies in its variable. -/
structure UT (w : World) : Prop where
  lt : 1 < w.heap.size
  at_ : w.rangeAt 1 0 uts
theorem UT.below {w w' : World} (h : UT w) (hb : Below w.heap.size w w') : UT w' :=
  ⟨Nat.lt_of_lt_of_le h.lt hb.size, fun j v hv => (hb.cell (p := ⟨1, 0 + j, none⟩) h.lt).trans (h.at_ j v hv)⟩
theorem UT.cell {w : World} (h : UT w) (k : Nat) (hk : 1 ≤ k ∧ k ≤ 8) : w.cell? ⟨1, k * 3, none⟩ = some (.bool (rdK k)) ∧ w.cell? ⟨1, k * 3 + 1, none⟩ = some (.bool (wrK k)) ∧ w.cell? ⟨1, k * 3 + 2, none⟩ = some (.bool (brK k)) := by
  have h0 := h.at_ (k * 3)
  have h1 := h.at_ (k * 3 + 1)
  have h2 := h.at_ (k * 3 + 2)
  rw [Nat.zero_add] at h0 h1 h2
  refine ⟨h0 _ ?_, h1 _ ?_, h2 _ ?_⟩
  all_goals
    have hc : k = 1 ∨ k = 2 ∨ k = 3 ∨ k = 4 ∨ k = 5 ∨ k = 6 ∨ k = 7 ∨ k = 8 := by omega
    rcases hc with rfl | rfl | rfl | rfl | rfl | rfl | rfl | rfl <;> rfl
theorem isK_nat {k : Int} (h : isK k = true) : ∃ j : Nat, k = (j : Int) ∧ 1 ≤ j ∧ j ≤ 8 := by
  unfold isK at h
  simp only [Bool.and_eq_true, decide_eq_true_eq] at h
  exact ⟨k.toNat, by omega, by omega, by omega⟩
theorem isKind_t (k : Int) (w : World) : Calls Tryz.prog 97 #[.int .i64 k] w fun e w' => e = .returned (.bool (isK k)) ∧ w = w' := by
  unfold isK
  by_cases h1 : 1 ≤ k
  · rw [decide_eq_true h1, Bool.true_and]
    go_enter Tryz.func97, Tryz.ntmps97
    go_wp2
    go_ret
    exact ⟨by simp, rfl⟩
  · rw [decide_eq_false h1, Bool.false_and]
    have h2 : k < 1 := by omega
    go_enter Tryz.func97, Tryz.ntmps97
    go_wp2
    go_ret
    exact ⟨by simp, rfl⟩
theorem rdK_no {k : Int} (h : isK k = false) : rdK k = false ∧ wrK k = false := by
  unfold isK at h
  have : k < 1 ∨ 8 < k := by
    rcases Int.lt_or_le k 1 with h1 | h1
    · exact .inl h1
    · rw [decide_eq_true h1, Bool.true_and, decide_eq_false_iff_not] at h
      exact .inr (by omega)
  unfold rdK wrK
  simp
  omega
theorem Reads_t (k : Int) (w : World) (hu : UT w) : Calls Tryz.prog 130 #[.int .i64 k] w fun e w' => e = .returned (.bool (rdK k)) ∧ w = w' := by
  have IK := Lib.hid (isKind_t k w)
  cases h : isK k with
  | false =>
    rw [h] at IK
    rw [(rdK_no h).1]
    go_enter Tryz.func130, Tryz.ntmps130
    go_wp2_with fail
    refine IK.out.mono ?_
    rintro e w1 ⟨rfl, rfl⟩
    go_wp2_with fail
    go_ret
    exact ⟨rfl, rfl⟩
  | true =>
    rw [h] at IK
    obtain ⟨j, rfl, j1, j8⟩ := isK_nat h
    have c0 := (hu.cell j ⟨j1, j8⟩).1
    have i9 : (j : Int) < 9 := by omega
    go_enter Tryz.func130, Tryz.ntmps130
    go_wp2_with fail
    refine IK.out.mono ?_
    rintro e w1 ⟨rfl, rfl⟩
    go_wp2_with fail
    go_ret
    exact ⟨rfl, rfl⟩
theorem Writes_t (k : Int) (w : World) (hu : UT w) : Calls Tryz.prog 147 #[.int .i64 k] w fun e w' => e = .returned (.bool (wrK k)) ∧ w = w' := by
  have IK := Lib.hid (isKind_t k w)
  cases h : isK k with
  | false =>
    rw [h] at IK
    rw [(rdK_no h).2]
    go_enter Tryz.func147, Tryz.ntmps147
    go_wp2_with fail
    refine IK.out.mono ?_
    rintro e w1 ⟨rfl, rfl⟩
    go_wp2_with fail
    go_ret
    exact ⟨rfl, rfl⟩
  | true =>
    rw [h] at IK
    obtain ⟨j, rfl, j1, j8⟩ := isK_nat h
    have c0 := (hu.cell j ⟨j1, j8⟩).2.1
    have i9 : (j : Int) < 9 := by omega
    go_enter Tryz.func147, Tryz.ntmps147
    go_wp2_with fail
    refine IK.out.mono ?_
    rintro e w1 ⟨rfl, rfl⟩
    go_wp2_with fail
    go_ret
    exact ⟨rfl, rfl⟩
theorem mayFind_t (x : Rv) (w : World) (hu : UT w) (h : RvW w x) : Calls Tryz.prog 98 #[.agg (rv x).toArray] w fun e w' => e = .returned (.bool (findB x.r)) ∧ Below w.heap.size w w' := by
  have B0 := Lib.hid (Blk.new w 51 (rv x))
  have BW := Lib.hid ((Below.refl w.heap.size w).alloc (Nat.le_refl _) (.cells (rv x).toArray 51))
  have RD := Lib.hid (Reads_t x.r.kd _ (hu.below BW.out))
  have MT := Lib.hid (MayTemplate_t x.r.n x.c x.p x.r.G _ h.n (h.below BW.out).p)
  have hf : findB x.r = if rdK x.r.kd then mayP x.r.n x.r.G else decide (x.r.n = 0) := rfl
  obtain ⟨c0, c1, c2, c3, c4, c5⟩ := rv_cells B0.out
  obtain ⟨xs, hx⟩ : ∃ l, rv x = l := ⟨_, rfl⟩
  rw [hx] at B0 BW RD MT c0 c1 c2 c3 c4 c5 ⊢
  obtain ⟨rb, hr⟩ : ∃ b, rdK x.r.kd = b := ⟨_, rfl⟩
  obtain ⟨mb, hm⟩ : ∃ b, mayP x.r.n x.r.G = b := ⟨_, rfl⟩
  rw [hr] at RD hf
  rw [hm] at MT hf
  rw [hf]
  obtain ⟨n, hn⟩ : ∃ n, x.r.n = n := ⟨_, rfl⟩
  rw [hn] at c3 MT ⊢
  clear hu h hf hx hm hn hr c0 c1 c4 c5 B0
  cases rb with
  | true =>
    go_enter Tryz.func98, Tryz.ntmps98
    go_wp2_with fail
    refine RD.out.mono ?_
    rintro e w1 ⟨rfl, rfl⟩
    go_wp2_with fail
    refine MT.out.mono ?_
    rintro e w2 ⟨rfl, b2⟩
    go_wp2_with fail
    go_ret
    exact ⟨rfl, BW.out.trans (b2.mono BW.out.size)⟩
  | false =>
    go_enter Tryz.func98, Tryz.ntmps98
    go_wp2_with fail
    refine RD.out.mono ?_
    rintro e w1 ⟨rfl, rfl⟩
    go_wp2_with fail
    go_ret
    exact ⟨by
      by_cases h0 : n = 0
      · subst h0; rfl
      · simp [h0], BW.out⟩

theorem mayBring_t (x : Rv) (w : World) (hk : isK x.r.kd = true) (hu : UT w) (h : RvW w x) : Calls Tryz.prog 99 #[.agg (rv x).toArray] w fun e w' => e = .returned (.bool (bringB x.r)) ∧ Below w.heap.size w w' := by
  have B0 := Lib.hid (Blk.new w 51 (rv x))
  have BW := Lib.hid ((Below.refl w.heap.size w).alloc (Nat.le_refl _) (.cells (rv x).toArray 51))
  have MT := Lib.hid (May_t x.r.m x.d x.t x.r.H _ h.m (h.below BW.out).t)
  have hf : bringB x.r = if brK x.r.kd then mayV x.r.m x.r.H && (decide (0 ≤ x.r.le) && decide (x.r.le ≤ 1099511627776)) else decide (x.r.m = 0) && (x.r.le == 0) := rfl
  obtain ⟨_, _, c2, _, c4, c5⟩ := rv_cells B0.out
  obtain ⟨j, hj, j1, j8⟩ := isK_nat hk
  have cu := ((hu.below BW.out).cell j ⟨j1, j8⟩).2.2
  rw [← hj] at cu
  have i9 : (j : Int) < 9 := by omega
  obtain ⟨xs, hx⟩ : ∃ l, rv x = l := ⟨_, rfl⟩
  rw [hx] at B0 BW MT c2 c4 c5 cu ⊢
  rw [hj] at c2
  obtain ⟨rb, hr⟩ : ∃ b, brK x.r.kd = b := ⟨_, rfl⟩
  obtain ⟨mb, hm⟩ : ∃ b, mayV x.r.m x.r.H = b := ⟨_, rfl⟩
  rw [hr] at cu hf
  rw [hm] at MT hf
  rw [hf]
  obtain ⟨m, hn⟩ : ∃ n, x.r.m = n := ⟨_, rfl⟩
  obtain ⟨le, hl⟩ : ∃ n, x.r.le = n := ⟨_, rfl⟩
  rw [hn] at c4 MT ⊢
  rw [hl] at c5 ⊢
  have C5 := Lib.hid c5
  clear hu h hf hx hm hn hr hl hj hk c5
  cases rb with
  | true =>
    cases mb with
    | false =>
      go_enter Tryz.func99, Tryz.ntmps99
      go_wp2_with fail
      refine MT.out.mono ?_
      rintro e w2 ⟨rfl, b2⟩
      go_wp2_with fail
      go_ret
      exact ⟨rfl, BW.out.trans (b2.mono BW.out.size)⟩
    | true =>
      by_cases h0 : 0 ≤ le
      · go_enter Tryz.func99, Tryz.ntmps99
        go_wp2_with fail
        refine MT.out.mono ?_
        rintro e w2 ⟨rfl, b2⟩
        have c5 := (b2.cell (p := ⟨w.heap.size, 5, none⟩) B0.out.lt).trans C5.out
        go_wp2_with fail
        go_ret
        exact ⟨by simp, BW.out.trans (b2.mono BW.out.size)⟩
      · have h1 : le < 0 := by omega
        go_enter Tryz.func99, Tryz.ntmps99
        go_wp2_with fail
        refine MT.out.mono ?_
        rintro e w2 ⟨rfl, b2⟩
        have c5 := (b2.cell (p := ⟨w.heap.size, 5, none⟩) B0.out.lt).trans C5.out
        go_wp2_with fail
        go_ret
        exact ⟨by simp; omega, BW.out.trans (b2.mono BW.out.size)⟩
  | false =>
    have c5 := C5.out
    by_cases h0 : m = 0
    · subst h0
      go_enter Tryz.func99, Tryz.ntmps99
      go_wp2_with fail
      go_ret
      exact ⟨by simp, BW.out⟩
    · have e1 : ((m : Int) == 0) = false := by rw [beq_eq_false_iff_ne]; omega
      go_enter Tryz.func99, Tryz.ntmps99
      go_wp2_with fail
      go_ret
      exact ⟨by simp, BW.out⟩
theorem May_r (x : Rv) (w : World) (hu : UT w) (h : RvW w x) : Calls Tryz.prog 60 #[.agg (rv x).toArray] w fun e w' => e = .returned (.bool (mayR x.r)) ∧ Below w.heap.size w w' := by
  have B0 := Lib.hid (Blk.new w 51 (rv x))
  have BW := Lib.hid ((Below.refl w.heap.size w).alloc (Nat.le_refl _) (.cells (rv x).toArray 51))
  have IK := Lib.hid (isKind_t x.r.kd (w.alloc (.cells (rv x).toArray 51)))
  have MF := Lib.hid (mayFind_t x _ (hu.below BW.out) (h.below BW.out))
  have MB := Lib.hid (fun W (hb : Below w.heap.size w W) (hk : isK x.r.kd = true) => mayBring_t x W hk (hu.below hb) (h.below hb))
  have hf : mayR x.r = ((decide (0 ≤ x.r.cl) && decide (x.r.cl < 4)) && ((decide (1 ≤ x.r.sq) && decide (x.r.sq ≤ 1073741824)) && isK x.r.kd) && (findB x.r && bringB x.r)) := rfl
  obtain ⟨c0, c1, c2, _, _, _⟩ := rv_cells B0.out
  obtain ⟨cl, hcl⟩ : ∃ n, x.r.cl = n := ⟨_, rfl⟩
  obtain ⟨sq, hsq⟩ : ∃ n, x.r.sq = n := ⟨_, rfl⟩
  obtain ⟨kb, hkb⟩ : ∃ n, isK x.r.kd = n := ⟨_, rfl⟩
  obtain ⟨fb, hfb⟩ : ∃ n, findB x.r = n := ⟨_, rfl⟩
  obtain ⟨bb, hbb⟩ : ∃ n, bringB x.r = n := ⟨_, rfl⟩
  rw [hcl] at c0 hf
  rw [hsq] at c1 hf
  rw [hkb] at IK MB hf
  rw [hfb] at MF hf
  rw [hbb] at MB hf
  rw [hf]
  clear hu h hf hcl hsq hkb hfb hbb
  by_cases h1 : 0 ≤ cl
  · rw [decide_eq_true h1, Bool.true_and]
    by_cases h2 : cl < 4
    · rw [decide_eq_true h2, Bool.true_and]
      by_cases h3 : 1 ≤ sq
      · rw [decide_eq_true h3, Bool.true_and]
        by_cases h4 : sq ≤ 1073741824
        · rw [decide_eq_true h4, Bool.true_and]
          cases kb with
          | false =>
            go_enter Tryz.func60, Tryz.ntmps60
            go_wp2_with fail
            refine IK.out.mono ?_
            rintro e w1 ⟨rfl, rfl⟩
            go_wp2_with fail
            go_ret
            exact ⟨rfl, BW.out⟩
          | true =>
            cases fb with
            | false =>
              go_enter Tryz.func60, Tryz.ntmps60
              go_wp2_with fail
              refine IK.out.mono ?_
              rintro e w1 ⟨rfl, rfl⟩
              go_wp2_with ((with_reducible refine load_blk_gdO 27 51 (.tmp 1) w.heap.size 51 (rv x) _ ?_ ?_ rfl ?_ Tryz.underlying51 ?_ ?_ ?_ ?_); exact rfl; kernel_rfl; exact B0.out; exact rfl; exact rv_size x; exact rfl)
              refine MF.out.mono ?_
              rintro e w2 ⟨rfl, b2⟩
              go_wp2_with fail
              go_ret
              exact ⟨rfl, BW.out.trans (b2.mono BW.out.size)⟩
            | true =>
              go_enter Tryz.func60, Tryz.ntmps60
              go_wp2_with fail
              refine IK.out.mono ?_
              rintro e w1 ⟨rfl, rfl⟩
              go_wp2_with ((with_reducible refine load_blk_gdO 27 51 (.tmp 1) w.heap.size 51 (rv x) _ ?_ ?_ rfl ?_ Tryz.underlying51 ?_ ?_ ?_ ?_); exact rfl; kernel_rfl; exact B0.out; exact rfl; exact rv_size x; exact rfl)
              refine MF.out.mono ?_
              rintro e w2 ⟨rfl, b2⟩
              have B2 := Lib.hid (B0.out.below b2 B0.out.lt)
              have BX := Lib.hid (BW.out.trans (b2.mono BW.out.size))
              clear b2
              go_wp2_with ((with_reducible refine load_blk_gdO 31 51 (.tmp 1) w.heap.size 51 (rv x) _ ?_ ?_ rfl ?_ Tryz.underlying51 ?_ ?_ ?_ ?_); exact rfl; kernel_rfl; exact B2.out; exact rfl; exact rv_size x; exact rfl)
              refine (MB.out _ BX.out (by trivial)).mono ?_
              rintro e w3 ⟨rfl, b3⟩
              go_wp2_with fail
              go_ret
              exact ⟨rfl, BX.out.trans (b3.mono BX.out.size)⟩
        · rw [decide_eq_false h4, Bool.false_and, Bool.false_and]
          have n4 : 1073741824 < sq := by omega
          go_enter Tryz.func60, Tryz.ntmps60
          go_wp2_with fail
          go_ret
          exact ⟨rfl, BW.out⟩
      · rw [decide_eq_false h3, Bool.false_and, Bool.false_and, Bool.false_and]
        have n3 : sq < 1 := by omega
        go_enter Tryz.func60, Tryz.ntmps60
        go_wp2_with fail
        go_ret
        exact ⟨rfl, BW.out⟩
    · rw [decide_eq_false h2, Bool.false_and, Bool.false_and]
      have n2 : 4 ≤ cl := by omega
      go_enter Tryz.func60, Tryz.ntmps60
      go_wp2_with fail
      go_ret
      exact ⟨rfl, BW.out⟩
  · rw [decide_eq_false h1, Bool.false_and, Bool.false_and, Bool.false_and]
    have n1 : cl < 0 := by omega
    go_enter Tryz.func60, Tryz.ntmps60
    go_wp2_with fail
    go_ret
    exact ⟨rfl, BW.out⟩

def fewR (x : Rv) : Bool := fewL x.r.n x.r.G && fewL x.r.m x.r.H
theorem fewR_t (x : Rv) (w : World) (h : RvW w x) : Calls Tryz.prog 23 #[.agg (rv x).toArray] w fun e w' => e = .returned (.bool (fewR x)) ∧ Below w.heap.size w w' := by
  have B0 := Lib.hid (Blk.new w 51 (rv x))
  have BW := Lib.hid ((Below.refl w.heap.size w).alloc (Nat.le_refl _) (.cells (rv x).toArray 51))
  have F1 := Lib.hid (few_t x.r.n x.c x.p x.r.G _ h.n (h.below BW.out).p)
  have F2 := Lib.hid (few_t x.r.m x.d x.t x.r.H _ h.m (h.below BW.out).t)
  have hf : fewR x = (fewL x.r.n x.r.G && fewL x.r.m x.r.H) := rfl
  obtain ⟨_, _, _, c3, c4, _⟩ := rv_cells B0.out
  obtain ⟨f1, h1⟩ : ∃ b, fewL x.r.n x.r.G = b := ⟨_, rfl⟩
  obtain ⟨f2, h2⟩ : ∃ b, fewL x.r.m x.r.H = b := ⟨_, rfl⟩
  rw [h1] at F1 hf
  rw [h2] at F2 hf
  rw [hf]
  clear h h1 h2 hf
  cases f1 with
  | false =>
    go_enter Tryz.func23, Tryz.ntmps23
    go_wp2_with fail
    refine F1.out.mono ?_
    rintro e w2 ⟨rfl, rfl⟩
    go_wp2_with fail
    go_ret
    exact ⟨rfl, BW.out⟩
  | true =>
    go_enter Tryz.func23, Tryz.ntmps23
    go_wp2_with fail
    refine F1.out.mono ?_
    rintro e w2 ⟨rfl, rfl⟩
    go_wp2_with fail
    refine F2.out.mono ?_
    rintro e w2 ⟨rfl, rfl⟩
    go_wp2_with fail
    go_ret
    exact ⟨rfl, BW.out⟩
end Go.Proofs.YtojianpbjckipaaGreatDoor
