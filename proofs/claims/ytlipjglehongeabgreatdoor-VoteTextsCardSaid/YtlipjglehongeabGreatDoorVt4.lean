/-
  PACKAGE tuple
-/
import Derived.Test.YtlipjglehongeabGreatDoorVt3
import Derived.Deep.RegionHeld3
import Derived.Shelf.Abstract
namespace Go.Proofs.YtlipjglehongeabGreatDoor
open Go Go.RowKit Sh

def Rw (w : World) (p : Option Addr) (n : Nat) (G : Nat → Fld) : Prop := ∀ j, j < n → ∃ b o, p = some ⟨b, o, none⟩ ∧ b < w.heap.size ∧ w.rangeAt b (o + j * 3) (fv (G j))
theorem Rw.below {w w' : World} {p : Option Addr} {n : Nat} {G : Nat → Fld} (h : Rw w p n G) (hb : Below w.heap.size w w') : Rw w' p n G := fun j hj => by
  obtain ⟨b, o, e, hl, r⟩ := h j hj
  exact ⟨b, o, e, Nat.lt_of_lt_of_le hl hb.size, fun i v hv => (hb.cell (p := ⟨b, o + j * 3 + i, none⟩) hl).trans (r i v hv)⟩
theorem Rw.read {w : World} {p : Option Addr} {n : Nat} {G : Nat → Fld} (h : Rw w p n G) {j : Nat} (hj : j < n) : ∃ b o, p = some ⟨b, o, none⟩ ∧ w.rangeAt b (o + j * 3) (fv (G j)) := by
  obtain ⟨b, o, e, _, r⟩ := h j hj
  exact ⟨b, o, e, r⟩
def Tells (F : FuncId) (f : Fld) (b : Bool) : Prop := ∀ W, Calls Tryz.prog F #[.agg (fv f).toArray] W fun e W' => e = .returned (.bool b) ∧ Below W.heap.size W W'
theorem may1_t (F1 : FuncId) (cb : Nat) (f : Fld) (j : Nat) (b : Bool) (W : World) (hc : W.cell? ⟨cb, 0, none⟩ = some (.func (.func F1) #[] #[])) (hl : cb < W.heap.size) (hcf1 : ∀ args W, (callFunc F1 args).run Tryz.prog W = .ok (.enter F1 args) W) (hF : Tells F1 f b) :
    Calls Tryz.prog 117 #[.int .i64 (j : Int), .agg (fv f).toArray, .pointer (some ⟨cb, 0, none⟩)] W fun e W' => e = .returned (.bool b) ∧ Below W.heap.size W W' := by
  have FV := Lib.hid (fv_size f); have HF := Lib.hid hF
  have B0 := Lib.hid (Blk.new W 152 (fv f))
  have BW := Lib.hid ((Below.refl W.heap.size W).alloc (Nat.le_refl _) (.cells (fv f).toArray 152))
  have c0 : (W.alloc (.cells (fv f).toArray 152)).cell? ⟨cb, 0, none⟩ = some (.func (.func F1) #[] #[]) := (BW.out.cell (p := ⟨cb, 0, none⟩) hl).trans hc
  clear hF hc
  go_enter Tryz.func117, Tryz.ntmps117
  go_wp2_with ((with_reducible refine load_blk 152 (.tmp 4) W.heap.size 152 (fv f) _ rfl rfl ?_ Tryz.underlying152 ?_ ?_ ?_ ?_); exact B0.out; exact rfl; exact FV.out; exact rfl)
  refine (HF.out _).mono ?_
  rintro e w2 ⟨rfl, b2⟩
  go_wp2_with fail
  go_ret
  exact ⟨rfl, BW.out.trans (b2.mono BW.out.size)⟩
def fewN (n : Nat) : Bool := decide (1 ≤ n) && decide (n ≤ 6)
theorem may_t (F1 : FuncId) (ok : Fld → Bool) (n c : Nat) (p : Option Addr) (G : Nat → Fld) (w : World) (hn : n ≤ 9223372036854775807) (hr : Rw w p n G)
    (hcf1 : ∀ args W, (callFunc F1 args).run Tryz.prog W = .ok (.enter F1 args) W) (hF : ∀ f, Tells F1 f (ok f)) :
    Calls Tryz.prog 111 #[.slice p n c, .func (.func F1) #[] #[]] w fun e w' => e = .returned (.bool (fewN n && allN (fun j => ok (G j)) n)) ∧ Below w.heap.size w w' := by
  have BW := Lib.hid ((Below.refl w.heap.size w).alloc (Nat.le_refl _) (.cells #[.func (.func F1) #[] #[]] 168))
  have c0 : (w.alloc (.cells #[.func (.func F1) #[] #[]] 168)).cell? ⟨w.heap.size, 0, none⟩ = some (.func (.func F1) #[] #[]) := (Blk.new w 168 [.func (.func F1) #[] #[]]).cell 0
  have EV := Lib.hid (every_t 117 #[.pointer (some ⟨w.heap.size, 0, none⟩)] n c p G (fun j => ok (G j))
    (fun _ W => Rw W p n G ∧ W.cell? ⟨w.heap.size, 0, none⟩ = some (.func (.func F1) #[] #[]) ∧ w.heap.size < W.heap.size ∧ Below w.heap.size w W)
    (w.alloc (.cells #[.func (.func F1) #[] #[]] 168)) (enters_of Tryz.func117 (by kernel_rfl) rfl) hn
    ⟨hr.below BW.out, c0, by simp, BW.out⟩
    (fun j W W' h hb => ⟨h.1.below hb, (hb.cell (p := ⟨w.heap.size, 0, none⟩) h.2.2.1).trans h.2.1, Nat.lt_of_lt_of_le h.2.2.1 hb.size, h.2.2.2.trans (hb.mono h.2.2.2.size)⟩)
    (fun j W h hj => h.1.read hj)
    (fun j W hj _ h => (may1_t F1 w.heap.size (G j) j (ok (G j)) W h.2.1 h.2.2.1 hcf1 (hF (G j))).mono (fun e W' ⟨he, hb⟩ => ⟨he, h.1.below hb, (hb.cell (p := ⟨w.heap.size, 0, none⟩) h.2.2.1).trans h.2.1, Nat.lt_of_lt_of_le h.2.2.1 hb.size, h.2.2.2.trans (hb.mono h.2.2.2.size)⟩)))
  clear hr c0 hF hcf1
  obtain ⟨r, hR⟩ : ∃ r, allN (fun j => ok (G j)) n = r := ⟨_, rfl⟩
  rw [hR] at EV ⊢
  clear hR
  by_cases h1 : 1 ≤ n
  · by_cases h6 : n ≤ 6
    · rw [show fewN n = true by simp [fewN, h1, h6]]
      have i1 : (1 : Int) ≤ (n : Int) := by omega
      have i6 : (n : Int) ≤ 6 := by omega
      clear h1 h6
      go_enter Tryz.func111, Tryz.ntmps111
      go_wp2_with fail
      refine EV.out.mono ?_
      rintro e w2 ⟨m, _, rfl, iv, _⟩
      have IV := Lib.hid iv.2.2.2
      clear iv EV
      go_wp2_with fail
      go_ret
      exact ⟨by simp, IV.out⟩
    · rw [show fewN n = false by simp [fewN, h6]]
      have i1 : (1 : Int) ≤ (n : Int) := by omega
      have i6 : (6 : Int) < (n : Int) := by omega
      clear h1 h6 EV
      go_enter Tryz.func111, Tryz.ntmps111
      go_wp2_with fail
      go_ret
      exact ⟨by simp, BW.out⟩
  · rw [show fewN n = false by simp [fewN]; omega]
    obtain rfl : n = 0 := by omega
    clear h1 EV
    go_enter Tryz.func111, Tryz.ntmps111
    go_wp2_with fail
    go_ret
    exact ⟨by simp, BW.out⟩
def mayV (n : Nat) (G : Nat → Fld) : Bool := fewN n && allN (fun j => okV (G j)) n
def mayP (n : Nat) (G : Nat → Fld) : Bool := fewN n && allN (fun j => okP (G j)) n
theorem May_t (n c : Nat) (p : Option Addr) (G : Nat → Fld) (w : World) (hn : n ≤ 9223372036854775807) (hr : Rw w p n G) :
    Calls Tryz.prog 102 #[.slice p n c] w fun e w' => e = .returned (.bool (mayV n G)) ∧ Below w.heap.size w w' := by
  have MT := Lib.hid (may_t 113 okV n c p G w hn hr (enters_of Tryz.func113 (by kernel_rfl) rfl) (fun f W => isValue_t f W))
  clear hr
  go_enter Tryz.func102, Tryz.ntmps102
  go_wp2_with fail
  refine MT.out.mono ?_
  rintro e w2 ⟨rfl, b2⟩
  go_wp2_with fail
  go_ret
  exact ⟨rfl, b2⟩
theorem MayTemplate_t (n c : Nat) (p : Option Addr) (G : Nat → Fld) (w : World) (hn : n ≤ 9223372036854775807) (hr : Rw w p n G) :
    Calls Tryz.prog 97 #[.slice p n c] w fun e w' => e = .returned (.bool (mayP n G)) ∧ Below w.heap.size w w' := by
  have MT := Lib.hid (may_t 112 okP n c p G w hn hr (enters_of Tryz.func112 (by kernel_rfl) rfl) (fun f W => isPattern_t f W))
  clear hr
  go_enter Tryz.func97, Tryz.ntmps97
  go_wp2_with fail
  refine MT.out.mono ?_
  rintro e w2 ⟨rfl, b2⟩
  go_wp2_with fail
  go_ret
  exact ⟨rfl, b2⟩

theorem rows_of_blk {w : World} {g : Nat} {t : TypeId} {cs : List Value} (h : Blk w g t cs) : w.rangeAt g 0 cs := fun j v hv => by rw [Nat.zero_add, h.cell]; exact hv
end Go.Proofs.YtlipjglehongeabGreatDoor
