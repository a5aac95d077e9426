/-
  LAYERS 6, 7 as layer 8 wants them: no bytes.
-/
import Derived.Test.YtphgognhjdbdjaaGreatDoorTpEq
import Derived.Laws.IdiomStrings
namespace Go.Proofs.YtphgognhjdbdjaaGreatDoor
open Go Go.RowKit Sh

theorem fewN_le {n : Nat} (h : fewN n = true) : 1 ≤ n ∧ n ≤ 6 := by simpa [fewN] using h
theorem mayP_iff {n : Nat} {G : Nat → Fld} (h : mayP n G = true) : 1 ≤ n ∧ n ≤ 6 ∧ ∀ j, j < n → okP (G j) = true := by
  unfold mayP at h
  rw [Bool.and_eq_true] at h
  exact ⟨(fewN_le h.1).1, (fewN_le h.1).2, (allN_iff _ n).1 h.2⟩
def eS : ByteArray := { data := #[] }
theorem Kept.setRowK {F : Nat → Prop} {a w : World} (h : Kept F a w) {g : Nat} (hg : F g ∨ a.heap.size ≤ g) (c : Array Value) : Kept F a (w.setRow g c) :=
  ⟨h.os, h.tape, h.output, by simpa using h.size, fun k hk hf => by
    have hne : k ≠ g := fun e => by
      subst e
      rcases hg with h1 | h1
      · exact hf h1
      · omega
    exact (setRow_other w g k c hne).trans (h.block k hk hf)⟩
theorem world_at {P : Program} {c : Code} {Q : Exit → Act → World → Prop} {a : Act} {w : World} (R : World → Prop) (h : R w) (k : ∀ W, R W → Code.wp P c Q a W) : Code.wp P c Q a w := k w h
/-- A field whose number is one. -/
def InR (f : Fld) : Prop := -9223372036854775808 ≤ f.n ∧ f.n ≤ 9223372036854775807
theorem eS_of (s : ByteArray) (h : s.toList.isEmpty = true) : s = eS := by
  rw [ByteArray.toList_eq] at h
  obtain ⟨⟨l⟩⟩ := s
  have : l = [] := by simpa using h
  subst this
  rfl
theorem allN_congr {B C : Nat → Bool} : ∀ n, (∀ j, j < n → B j = C j) → allN B n = allN C n
  | 0, _ => rfl
  | n + 1, h => by rw [allN, allN, allN_congr n (fun j hj => h j (by omega)), h n (by omega)]
theorem mayP_congr {n : Nat} {G H : Nat → Fld} (h : ∀ j, j < n → G j = H j) : mayP n G = mayP n H := by
  unfold mayP
  rw [allN_congr n (fun j hj => by rw [h j hj])]
/-- Are they few? -/
def fewL (n : Nat) (G : Nat → Fld) : Bool := decide (n ≤ 20) && allN (fun j => decide ((G j).s.size ≤ 100)) n
set_option maxRecDepth 100000 in
theorem few_t (n c : Nat) (p : Option Addr) (G : Nat → Fld) (w : World) (hn : n ≤ 9223372036854775807) (hr : Rw w p n G) :
    Calls Tryz.prog 129 #[.slice p n c] w fun e w' => e = .returned (.bool (fewL n G)) ∧ w = w' := by
  by_cases h20 : n ≤ 20
  · have HR := Lib.hid hr
    have n20 : (n : Int) ≤ 20 := by omega
    have hF : fewL n G = allN (fun j => decide ((G j).s.size ≤ 100)) n := by simp [fewL, h20]
    have AY := Lib.hid (fun h => (allN_iff (fun j => decide ((G j).s.size ≤ 100)) n).2 h); have AN := Lib.hid (fun j hj h => allN_no (B := fun j => decide ((G j).s.size ≤ 100)) (n := n) (j := j) hj h)
    rw [← hF] at AY AN
    obtain ⟨r, hR⟩ : ∃ r, fewL n G = r := ⟨_, rfl⟩
    rw [hR] at AY AN ⊢
    clear hr hR hF h20
    go_enter Tryz.func129, Tryz.ntmps129
    go_upto_region 4 with (fail)
    go_loopw [3] (fun x wr => ∃ j : Nat, j ≤ n ∧ x = .int .i64 (j : Int) ∧ w = wr ∧ ∀ i, i < j → (G i).s.size ≤ 100) (fun x _ => n - (intOf x).toNat)
    case atStart => exact ⟨0, by omega, rfl, rfl, fun i hi => absurd hi (by omega)⟩
    case round =>
      obtain ⟨j, hj, rfl, rfl, hb⟩ := hrel
      have HB := Lib.hid hb
      clear hb
      by_cases hlt : j < n
      · obtain ⟨b, o, rfl, rg⟩ := HR.out.read hlt
        have c2 : w.cell? ⟨b, o + j * 3 + 2, none⟩ = some (.string (G j).s) := rg 2 _ rfl
        have AN1 := Lib.hid (AN.out j hlt)
        have j1 : (j : Int) < (n : Int) := by omega
        have HN := Lib.hid (fun (h : (G j).s.size ≤ 100) (i : Nat) (hi : i < j + 1) => show (G i).s.size ≤ 100 by
          rcases Nat.lt_or_ge i j with h1 | h1
          · exact HB.out i h1
          · obtain rfl : i = j := by omega
            exact h)
        obtain ⟨z, hz⟩ : ∃ z, (G j).s = z := ⟨_, rfl⟩
        rw [hz] at c2 AN1 HN
        clear rg hz AN HB
        by_cases hs : z.size ≤ 100
        · have s1 : ¬ ((100 : Int) < (z.size : Int)) := by omega
          have HN2 := Lib.hid (HN.out hs)
          clear HN AN1
          go_wp2_with fail
          go_roundw
          case rel => exact ⟨j + 1, hlt, by go_num, trivial, HN2.out⟩
          case measure => simp [intOf]; omega
        · have s1 : (100 : Int) < (z.size : Int) := by omega
          have hR := AN1.out (decide_eq_false hs)
          subst hR
          clear HN AN1
          go_wp2_with fail
          go_ret
          exact ⟨rfl, rfl⟩
      · obtain rfl : j = n := by omega
        have hR := AY.out (fun i hi => decide_eq_true (HB.out i hi))
        subst hR
        clear hlt
        go_wp2_with fail
        go_ret
        exact ⟨rfl, rfl⟩
  · rw [show fewL n G = false by simp [fewL, h20]]
    have n20 : (20 : Int) < (n : Int) := by omega
    clear hr h20
    go_enter Tryz.func129, Tryz.ntmps129
    go_wp2_with fail
    go_ret
    exact ⟨rfl, rfl⟩

theorem sameN_iff {n m : Nat} {G H : Nat → Fld} : sameN n G m H = true ↔ n = m ∧ ∀ j, j < n → G j = H j := by
  unfold sameN
  rw [Bool.and_eq_true, decide_eq_true_eq, allN_iff]
  exact and_congr_right fun _ => forall_congr' fun j => forall_congr' fun _ => sameF_iff _ _
theorem Rw.congr {w : World} {p : Option Addr} {n : Nat} {G H : Nat → Fld} (h : Rw w p n G) (hg : ∀ j, j < n → G j = H j) : Rw w p n H := fun j hj => by
  obtain ⟨b, o, e, hl, r⟩ := h j hj
  exact ⟨b, o, e, hl, by rw [← hg j hj]; exact r⟩
/-- A request: who, its number, its kind, how long, its two rows of fields. -/
structure Rq where
  cl : Int
  sq : Int
  kd : Int
  le : Int
  n : Nat
  G : Nat → Fld
  m : Nat
  H : Nat → Fld
def isK (k : Int) : Bool := decide (1 ≤ k) && decide (k ≤ 8)
def rdK (k : Int) : Bool := decide (2 ≤ k) && decide (k ≤ 7)
def wrK (k : Int) : Bool := (k == 1) || (k == 3) || (k == 5) || (k == 6) || (k == 7)
def brK (k : Int) : Bool := (k == 1) || (k == 6) || (k == 7)
def findB (r : Rq) : Bool := if rdK r.kd then mayP r.n r.G else decide (r.n = 0)
def bringB (r : Rq) : Bool := if brK r.kd then mayV r.m r.H && (decide (0 ≤ r.le) && decide (r.le ≤ 1099511627776)) else decide (r.m = 0) && (r.le == 0)
def headB (r : Rq) : Bool := (decide (0 ≤ r.cl) && decide (r.cl < 4)) && ((decide (1 ≤ r.sq) && decide (r.sq ≤ 1073741824)) && isK r.kd)
def mayR (r : Rq) : Bool := headB r && (findB r && bringB r)
structure InRq (r : Rq) : Prop where
  p : ∀ j, j < r.n → InR (r.G j)
  t : ∀ j, j < r.m → InR (r.H j)
theorem okV_P {f : Fld} (h : okV f = true) : okP f = true := by
  unfold okP
  rw [if_neg]
  · exact h
  · unfold okV at h
    split at h
    · omega
    · split at h
      · omega
      · cases h
theorem mayV_P {n : Nat} {G : Nat → Fld} (h : mayV n G = true) : mayP n G = true := by
  unfold mayV at h
  rw [Bool.and_eq_true] at h
  unfold mayP
  rw [h.1, Bool.true_and]
  exact (allN_iff _ n).2 (fun j hj => okV_P ((allN_iff _ n).1 h.2 j hj))
theorem mayP_pos {n : Nat} {G : Nat → Fld} (h : mayP n G = true) : n ≠ 0 := by have := (mayP_iff h).1; omega
/-- What a request that may be has. -/
structure MayH (r : Rq) : Prop where
  cl0 : 0 ≤ r.cl
  cl4 : r.cl < 4
  sq1 : 1 ≤ r.sq
  sqm : r.sq ≤ 1073741824
  k1 : 1 ≤ r.kd
  k8 : r.kd ≤ 8
  le0 : 0 ≤ r.le
  lem : r.le ≤ 1099511627776
  p : r.n = 0 ∨ mayP r.n r.G = true
  t : r.m = 0 ∨ mayP r.m r.H = true
theorem mayV_congr {n : Nat} {G H : Nat → Fld} (h : ∀ j, j < n → G j = H j) : mayV n G = mayV n H := by
  unfold mayV
  rw [allN_congr n (fun j hj => by rw [h j hj])]

/-- A whole block is loaded where a guard says yes. -/
theorem load_blk_gO {P : Program} {ops : Array Oper} {rest : List Oper} {o : Oper} {a : Act} {w : World} {Q : Exit → Act → World → Prop} (ty : TypeId) (x : Operand) (g : Nat) (t : TypeId) (cs : List Value) (d : TypeDesc)
    (hw : Region.wanted o (yielded ops a.tmps) = true) (ho : o.op = .load ty x) (hg : Blk w g t cs) (hu : P.underlying ty = some d) (hd : d.isRow = true) (hi : (P.info? ty).map (·.size) = some cs.length)
    (hx : a.eval x = .pointer (some ⟨g, 0, none⟩)) (h : wpList P ops Q rest (a.put o.dst (.agg cs.toArray)) w) : wpList P ops Q (o :: rest) a w :=
  BigFrame.wpList_want hw fun _ hK => wload_part ty x g 0 t [] cs [] d ho (by simpa using hg) rfl hu hd hi hx (hK _ _ h)
/-- The load of ONE operation, named by the slot that it writes. -/
theorem load_blk_gdO {P : Program} {ops : Array Oper} {rest : List Oper} {o : Oper} {a : Act} {w : World} {Q : Exit → Act → World → Prop} (D : Nat) (ty : TypeId) (x : Operand) (g : Nat) (t : TypeId) (cs : List Value) (d : TypeDesc)
    (_hD : o.dst = some D) (hw : Region.wanted o (yielded ops a.tmps) = true) (ho : o.op = .load ty x) (hg : Blk w g t cs) (hu : P.underlying ty = some d) (hd : d.isRow = true) (hi : (P.info? ty).map (·.size) = some cs.length)
    (hx : a.eval x = .pointer (some ⟨g, 0, none⟩)) (h : wpList P ops Q rest (a.put o.dst (.agg cs.toArray)) w) : wpList P ops Q (o :: rest) a w :=
  load_blk_gO ty x g t cs d hw ho hg hu hd hi hx h
/-- A request as it is handed on: where its rows lie. -/
structure Rv where
  r : Rq
  p : Option Addr
  c : Nat
  t : Option Addr
  d : Nat
def rv (x : Rv) : List Value := [.int .i64 x.r.cl, .int .i64 x.r.sq, .int .i64 x.r.kd, .slice x.p x.r.n x.c, .slice x.t x.r.m x.d, .int .i64 x.r.le]
/-- Its rows. -/
structure RvW (w : World) (x : Rv) : Prop where
  p : Rw w x.p x.r.n x.r.G
  t : Rw w x.t x.r.m x.r.H
  n : x.r.n ≤ 9223372036854775807
  m : x.r.m ≤ 9223372036854775807
theorem RvW.below {w w' : World} {x : Rv} (h : RvW w x) (hb : Below w.heap.size w w') : RvW w' x := ⟨h.p.below hb, h.t.below hb, h.n, h.m⟩
theorem rv_cells {w : World} {g : Nat} {x : Rv} (h : Blk w g 64 (rv x)) :
    w.cell? ⟨g, 0, none⟩ = some (.int .i64 x.r.cl) ∧ w.cell? ⟨g, 1, none⟩ = some (.int .i64 x.r.sq) ∧ w.cell? ⟨g, 2, none⟩ = some (.int .i64 x.r.kd) ∧ w.cell? ⟨g, 3, none⟩ = some (.slice x.p x.r.n x.c) ∧ w.cell? ⟨g, 4, none⟩ = some (.slice x.t x.r.m x.d) ∧ w.cell? ⟨g, 5, none⟩ = some (.int .i64 x.r.le) := ⟨h.cell 0, h.cell 1, h.cell 2, h.cell 3, h.cell 4, h.cell 5⟩
/-- The cells of the array of uses. -/
def uts : List Value :=
  [.bool false, .bool false, .bool false, .bool false, .bool true, .bool true, .bool true, .bool false, .bool false, .bool true, .bool true, .bool false, .bool true, .bool false, .bool false,
   .bool true, .bool true, .bool false, .bool true, .bool true, .bool true, .bool true, .bool true, .bool true, .bool false, .bool false, .bool false]
/-- The array lies in its variable. -/
structure UT (w : World) : Prop where
  lt : 1 < w.heap.size
  at_ : w.rangeAt 1 0 uts
theorem UT.below {w w' : World} (h : UT w) (hb : Below w.heap.size w w') : UT w' :=
  ⟨Nat.lt_of_lt_of_le h.lt hb.size, fun j v hv => (hb.cell (p := ⟨1, 0 + j, none⟩) h.lt).trans (h.at_ j v hv)⟩
theorem UT.cell {w : World} (h : UT w) (k : Nat) (hk : 1 ≤ k ∧ k ≤ 8) : w.cell? ⟨1, k * 3, none⟩ = some (.bool (rdK k)) ∧ w.cell? ⟨1, k * 3 + 1, none⟩ = some (.bool (wrK k)) ∧ w.cell? ⟨1, k * 3 + 2, none⟩ = some (.bool (brK k)) := by
  have h0 := h.at_ (k * 3)
  have h1 := h.at_ (k * 3 + 1)
  have h2 := h.at_ (k * 3 + 2)
  rw [Nat.zero_add] at h0 h1 h2
  refine ⟨h0 _ ?_, h1 _ ?_, h2 _ ?_⟩
  all_goals
    have hc : k = 1 ∨ k = 2 ∨ k = 3 ∨ k = 4 ∨ k = 5 ∨ k = 6 ∨ k = 7 ∨ k = 8 := by omega
    rcases hc with rfl | rfl | rfl | rfl | rfl | rfl | rfl | rfl <;> rfl
def fewR (x : Rv) : Bool := fewL x.r.n x.r.G && fewL x.r.m x.r.H
theorem fewR_t (x : Rv) (w : World) (h : RvW w x) : Calls Tryz.prog 57 #[.agg (rv x).toArray] w fun e w' => e = .returned (.bool (fewR x)) ∧ Below w.heap.size w w' := by
  have B0 := Lib.hid (Blk.new w 64 (rv x))
  have BW := Lib.hid ((Below.refl w.heap.size w).alloc (Nat.le_refl _) (.cells (rv x).toArray 64))
  have F1 := Lib.hid (few_t x.r.n x.c x.p x.r.G _ h.n (h.below BW.out).p)
  have F2 := Lib.hid (few_t x.r.m x.d x.t x.r.H _ h.m (h.below BW.out).t)
  have hf : fewR x = (fewL x.r.n x.r.G && fewL x.r.m x.r.H) := rfl
  obtain ⟨_, _, _, c3, c4, _⟩ := rv_cells B0.out
  obtain ⟨f1, h1⟩ : ∃ b, fewL x.r.n x.r.G = b := ⟨_, rfl⟩
  obtain ⟨f2, h2⟩ : ∃ b, fewL x.r.m x.r.H = b := ⟨_, rfl⟩
  rw [h1] at F1 hf
  rw [h2] at F2 hf
  rw [hf]
  clear h h1 h2 hf
  cases f1 with
  | false =>
    go_enter Tryz.func57, Tryz.ntmps57
    go_wp2_with fail
    refine F1.out.mono ?_
    rintro e w2 ⟨rfl, rfl⟩
    go_wp2_with fail
    go_ret
    exact ⟨rfl, BW.out⟩
  | true =>
    go_enter Tryz.func57, Tryz.ntmps57
    go_wp2_with fail
    refine F1.out.mono ?_
    rintro e w2 ⟨rfl, rfl⟩
    go_wp2_with fail
    refine F2.out.mono ?_
    rintro e w2 ⟨rfl, rfl⟩
    go_wp2_with fail
    go_ret
    exact ⟨rfl, BW.out⟩
end Go.Proofs.YtphgognhjdbdjaaGreatDoor
