/-
  PACKAGE tuple
  PACKAGE tuple
  LAYERS 6, 7 as layer 8 wants them
-/
import Derived.Test.YtidklgicmhdapaaGreatDoorAv2
import Derived.Deep.RegionHeld3
import Derived.Shelf.Abstract
import Derived.Laws.IdiomStrings
namespace Go.Proofs.YtidklgicmhdapaaGreatDoor
open Go Go.RowKit Sh

def Rw (w : World) (p : Option Addr) (n : Nat) (G : Nat → Fld) : Prop := ∀ j, j < n → ∃ b o, p = some ⟨b, o, none⟩ ∧ b < w.heap.size ∧ w.rangeAt b (o + j * 3) (fv (G j))
theorem Rw.below {w w' : World} {p : Option Addr} {n : Nat} {G : Nat → Fld} (h : Rw w p n G) (hb : Below w.heap.size w w') : Rw w' p n G := fun j hj => by
  obtain ⟨b, o, e, hl, r⟩ := h j hj
  exact ⟨b, o, e, Nat.lt_of_lt_of_le hl hb.size, fun i v hv => (hb.cell (p := ⟨b, o + j * 3 + i, none⟩) hl).trans (r i v hv)⟩
theorem Rw.read {w : World} {p : Option Addr} {n : Nat} {G : Nat → Fld} (h : Rw w p n G) {j : Nat} (hj : j < n) : ∃ b o, p = some ⟨b, o, none⟩ ∧ w.rangeAt b (o + j * 3) (fv (G j)) := by
  obtain ⟨b, o, e, _, r⟩ := h j hj
  exact ⟨b, o, e, r⟩
def Tells (F : FuncId) (f : Fld) (b : Bool) : Prop := ∀ W, Calls Tryz.prog F #[.agg (fv f).toArray] W fun e W' => e = .returned (.bool b) ∧ Below W.heap.size W W'
theorem may1_t (F1 : FuncId) (cb : Nat) (f : Fld) (j : Nat) (b : Bool) (W : World) (hc : W.cell? ⟨cb, 0, none⟩ = some (.func (.func F1) #[] #[])) (hl : cb < W.heap.size) (hcf1 : ∀ args W, (callFunc F1 args).run Tryz.prog W = .ok (.enter F1 args) W) (hF : Tells F1 f b) :
    Calls Tryz.prog 129 #[.int .i64 (j : Int), .agg (fv f).toArray, .pointer (some ⟨cb, 0, none⟩)] W fun e W' => e = .returned (.bool b) ∧ Below W.heap.size W W' := by
  have FV := Lib.hid (fv_size f); have HF := Lib.hid hF
  have B0 := Lib.hid (Blk.new W 158 (fv f))
  have BW := Lib.hid ((Below.refl W.heap.size W).alloc (Nat.le_refl _) (.cells (fv f).toArray 158))
  have c0 : (W.alloc (.cells (fv f).toArray 158)).cell? ⟨cb, 0, none⟩ = some (.func (.func F1) #[] #[]) := (BW.out.cell (p := ⟨cb, 0, none⟩) hl).trans hc
  clear hF hc
  go_enter Tryz.func129, Tryz.ntmps129
  go_wp2_with ((with_reducible refine load_blk 158 (.tmp 4) W.heap.size 158 (fv f) _ rfl rfl ?_ Tryz.underlying158 ?_ ?_ ?_ ?_); exact B0.out; exact rfl; exact FV.out; exact rfl)
  refine (HF.out _).mono ?_
  rintro e w2 ⟨rfl, b2⟩
  go_wp2_with fail
  go_ret
  exact ⟨rfl, BW.out.trans (b2.mono BW.out.size)⟩
def fewN (n : Nat) : Bool := decide (1 ≤ n) && decide (n ≤ 6)
theorem may_t (F1 : FuncId) (ok : Fld → Bool) (n c : Nat) (p : Option Addr) (G : Nat → Fld) (w : World) (hn : n ≤ 9223372036854775807) (hr : Rw w p n G)
    (hcf1 : ∀ args W, (callFunc F1 args).run Tryz.prog W = .ok (.enter F1 args) W) (hF : ∀ f, Tells F1 f (ok f)) :
    Calls Tryz.prog 123 #[.slice p n c, .func (.func F1) #[] #[]] w fun e w' => e = .returned (.bool (fewN n && allN (fun j => ok (G j)) n)) ∧ Below w.heap.size w w' := by
  have BW := Lib.hid ((Below.refl w.heap.size w).alloc (Nat.le_refl _) (.cells #[.func (.func F1) #[] #[]] 174))
  have c0 : (w.alloc (.cells #[.func (.func F1) #[] #[]] 174)).cell? ⟨w.heap.size, 0, none⟩ = some (.func (.func F1) #[] #[]) := (Blk.new w 174 [.func (.func F1) #[] #[]]).cell 0
  have EV := Lib.hid (every_t 129 #[.pointer (some ⟨w.heap.size, 0, none⟩)] n c p G (fun j => ok (G j))
    (fun _ W => Rw W p n G ∧ W.cell? ⟨w.heap.size, 0, none⟩ = some (.func (.func F1) #[] #[]) ∧ w.heap.size < W.heap.size ∧ Below w.heap.size w W)
    (w.alloc (.cells #[.func (.func F1) #[] #[]] 174)) (enters_of Tryz.func129 (by kernel_rfl) rfl) hn
    ⟨hr.below BW.out, c0, by simp, BW.out⟩
    (fun j W W' h hb => ⟨h.1.below hb, (hb.cell (p := ⟨w.heap.size, 0, none⟩) h.2.2.1).trans h.2.1, Nat.lt_of_lt_of_le h.2.2.1 hb.size, h.2.2.2.trans (hb.mono h.2.2.2.size)⟩)
    (fun j W h hj => h.1.read hj)
    (fun j W hj _ h => (may1_t F1 w.heap.size (G j) j (ok (G j)) W h.2.1 h.2.2.1 hcf1 (hF (G j))).mono (fun e W' ⟨he, hb⟩ => ⟨he, h.1.below hb, (hb.cell (p := ⟨w.heap.size, 0, none⟩) h.2.2.1).trans h.2.1, Nat.lt_of_lt_of_le h.2.2.1 hb.size, h.2.2.2.trans (hb.mono h.2.2.2.size)⟩)))
  clear hr c0 hF hcf1
  obtain ⟨r, hR⟩ : ∃ r, allN (fun j => ok (G j)) n = r := ⟨_, rfl⟩
  rw [hR] at EV ⊢
  clear hR
  by_cases h1 : 1 ≤ n
  · by_cases h6 : n ≤ 6
    · rw [show fewN n = true by simp [fewN, h1, h6]]
      have i1 : (1 : Int) ≤ (n : Int) := by omega
      have i6 : (n : Int) ≤ 6 := by omega
      clear h1 h6
      go_enter Tryz.func123, Tryz.ntmps123
      go_wp2_with fail
      refine EV.out.mono ?_
      rintro e w2 ⟨m, _, rfl, iv, _⟩
      have IV := Lib.hid iv.2.2.2
      clear iv EV
      go_wp2_with fail
      go_ret
      exact ⟨by simp, IV.out⟩
    · rw [show fewN n = false by simp [fewN, h6]]
      have i1 : (1 : Int) ≤ (n : Int) := by omega
      have i6 : (6 : Int) < (n : Int) := by omega
      clear h1 h6 EV
      go_enter Tryz.func123, Tryz.ntmps123
      go_wp2_with fail
      go_ret
      exact ⟨by simp, BW.out⟩
  · rw [show fewN n = false by simp [fewN]; omega]
    obtain rfl : n = 0 := by omega
    clear h1 EV
    go_enter Tryz.func123, Tryz.ntmps123
    go_wp2_with fail
    go_ret
    exact ⟨by simp, BW.out⟩
def mayV (n : Nat) (G : Nat → Fld) : Bool := fewN n && allN (fun j => okV (G j)) n
def mayP (n : Nat) (G : Nat → Fld) : Bool := fewN n && allN (fun j => okP (G j)) n
theorem May_t (n c : Nat) (p : Option Addr) (G : Nat → Fld) (w : World) (hn : n ≤ 9223372036854775807) (hr : Rw w p n G) :
    Calls Tryz.prog 114 #[.slice p n c] w fun e w' => e = .returned (.bool (mayV n G)) ∧ Below w.heap.size w w' := by
  have MT := Lib.hid (may_t 125 okV n c p G w hn hr (enters_of Tryz.func125 (by kernel_rfl) rfl) (fun f W => isValue_t f W))
  clear hr
  go_enter Tryz.func114, Tryz.ntmps114
  go_wp2_with fail
  refine MT.out.mono ?_
  rintro e w2 ⟨rfl, b2⟩
  go_wp2_with fail
  go_ret
  exact ⟨rfl, b2⟩
theorem MayTemplate_t (n c : Nat) (p : Option Addr) (G : Nat → Fld) (w : World) (hn : n ≤ 9223372036854775807) (hr : Rw w p n G) :
    Calls Tryz.prog 109 #[.slice p n c] w fun e w' => e = .returned (.bool (mayP n G)) ∧ Below w.heap.size w w' := by
  have MT := Lib.hid (may_t 124 okP n c p G w hn hr (enters_of Tryz.func124 (by kernel_rfl) rfl) (fun f W => isPattern_t f W))
  clear hr
  go_enter Tryz.func109, Tryz.ntmps109
  go_wp2_with fail
  refine MT.out.mono ?_
  rintro e w2 ⟨rfl, b2⟩
  go_wp2_with fail
  go_ret
  exact ⟨rfl, b2⟩

theorem rows_of_blk {w : World} {g : Nat} {t : TypeId} {cs : List Value} (h : Blk w g t cs) : w.rangeAt g 0 cs := fun j v hv => by rw [Nat.zero_add, h.cell]; exact hv
end Go.Proofs.YtidklgicmhdapaaGreatDoor
namespace Go.Proofs.YtidklgicmhdapaaGreatDoor
open Go Go.RowKit Sh

def sameN (n : Nat) (G : Nat → Fld) (m : Nat) (H : Nat → Fld) : Bool := decide (n = m) && allN (fun j => sameF (G j) (H j)) n
end Go.Proofs.YtidklgicmhdapaaGreatDoor
namespace Go.Proofs.YtidklgicmhdapaaGreatDoor
open Go Go.RowKit Sh

def eS : ByteArray := { data := #[] }
theorem Kept.setRowK {F : Nat → Prop} {a w : World} (h : Kept F a w) {g : Nat} (hg : F g ∨ a.heap.size ≤ g) (c : Array Value) : Kept F a (w.setRow g c) :=
  ⟨h.os, h.tape, h.output, by simpa using h.size, fun k hk hf => by
    have hne : k ≠ g := fun e => by
      subst e
      rcases hg with h1 | h1
      · exact hf h1
      · omega
    exact (setRow_other w g k c hne).trans (h.block k hk hf)⟩
theorem world_at {P : Program} {c : Code} {Q : Exit → Act → World → Prop} {a : Act} {w : World} (R : World → Prop) (h : R w) (k : ∀ W, R W → Code.wp P c Q a W) : Code.wp P c Q a w := k w h
def InR (f : Fld) : Prop := -9223372036854775808 ≤ f.n ∧ f.n ≤ 9223372036854775807
theorem Rw.congr {w : World} {p : Option Addr} {n : Nat} {G H : Nat → Fld} (h : Rw w p n G) (hg : ∀ j, j < n → G j = H j) : Rw w p n H := fun j hj => by
  obtain ⟨b, o, e, hl, r⟩ := h j hj
  exact ⟨b, o, e, hl, by rw [← hg j hj]; exact r⟩
structure Rq where
  cl : Int
  sq : Int
  kd : Int
  le : Int
  n : Nat
  G : Nat → Fld
  m : Nat
  H : Nat → Fld
theorem load_blk_gO {P : Program} {ops : Array Oper} {rest : List Oper} {o : Oper} {a : Act} {w : World} {Q : Exit → Act → World → Prop} (ty : TypeId) (x : Operand) (g : Nat) (t : TypeId) (cs : List Value) (d : TypeDesc)
    (hw : Region.wanted o (yielded ops a.tmps) = true) (ho : o.op = .load ty x) (hg : Blk w g t cs) (hu : P.underlying ty = some d) (hd : d.isRow = true) (hi : (P.info? ty).map (·.size) = some cs.length)
    (hx : a.eval x = .pointer (some ⟨g, 0, none⟩)) (h : wpList P ops Q rest (a.put o.dst (.agg cs.toArray)) w) : wpList P ops Q (o :: rest) a w :=
  BigFrame.wpList_want hw fun _ hK => wload_part ty x g 0 t [] cs [] d ho (by simpa using hg) rfl hu hd hi hx (hK _ _ h)
theorem load_blk_gdO {P : Program} {ops : Array Oper} {rest : List Oper} {o : Oper} {a : Act} {w : World} {Q : Exit → Act → World → Prop} (D : Nat) (ty : TypeId) (x : Operand) (g : Nat) (t : TypeId) (cs : List Value) (d : TypeDesc)
    (_hD : o.dst = some D) (hw : Region.wanted o (yielded ops a.tmps) = true) (ho : o.op = .load ty x) (hg : Blk w g t cs) (hu : P.underlying ty = some d) (hd : d.isRow = true) (hi : (P.info? ty).map (·.size) = some cs.length)
    (hx : a.eval x = .pointer (some ⟨g, 0, none⟩)) (h : wpList P ops Q rest (a.put o.dst (.agg cs.toArray)) w) : wpList P ops Q (o :: rest) a w :=
  load_blk_gO ty x g t cs d hw ho hg hu hd hi hx h
structure Rv where
  r : Rq
  p : Option Addr
  c : Nat
  t : Option Addr
  d : Nat
def rv (x : Rv) : List Value := [.int .i64 x.r.cl, .int .i64 x.r.sq, .int .i64 x.r.kd, .slice x.p x.r.n x.c, .slice x.t x.r.m x.d, .int .i64 x.r.le]
end Go.Proofs.YtidklgicmhdapaaGreatDoor
