/-
  '[]byte' of a constant, wherever its row lies
  OtsArgs walked
  PACKAGE ots, THE LEAF
  The reference's Num and Text
  The reference's Sum
  chirographlaw13
  THE REFERENCE OF CHAPTER 13
-/
import Derived.Test.YtidklgicmhdapaaGreatDoorAv6
import Derived.Lib.SlBytesConst
import Derived.Test.YtidklgicmhdapaaGreatDoorAv13
import Derived.Test.YtidklgicmhdapaaGreatDoorAv11
import Derived.Test.YtidklgicmhdapaaGreatDoorAv25
import Derived.Laws.CopyOwn
import Derived.Deep.DeepCutAuto
import Derived.Shelf.Abstract
import Derived.Laws.EntriesVeiled
import Derived.Test.YtidklgicmhdapaaGreatDoorAv1
import Derived.BigRegion
import Derived.StillTailTactics
import Derived.Test.YtidklgicmhdapaaGreatDoorAv12
namespace Go.Proofs.YtidklgicmhdapaaGreatDoor
open Go Go.RowKit Sh

theorem frz_run {P : Program} (W : World) (t e : TypeId) (g : Nat) (C : Array Value) (n c : Nat) (ht : P.underlying t = some (.slice e)) (he : P.underlying e = some (.int .u8)) (hg : W.heap[g]? = some (.cells C e)) :
    ∃ W', (convert t t (.slice (some ⟨g, 0, none⟩) n c)).run P W = .ok (.slice (some ⟨g, 0, none⟩) n c) W' ∧ W'.heap[g]? = some (.cells C e (C.size, C.size + 1)) ∧ Kept (fun k => k = g) W W' := by
  have hsh : W.shape? g = some (e, C.size) := by unfold World.shape?; rw [hg]
  refine ⟨W.freeze ⟨g, C.size, none⟩ 1, ?_, ?_, ?_⟩
  · simp [convert, run_underlying ht, run_underlying he, markStringish, hsh]
  · unfold World.freeze
    rw [if_neg (by decide)]
    show (W.heap.modify g _)[g]? = _
    rw [Array.getElem?_modify, if_pos rfl, hg]
    rfl
  · unfold World.freeze
    rw [if_neg (by decide)]
    refine ⟨rfl, rfl, rfl, ?_, fun k _ hf => ?_⟩
    · show W.heap.size ≤ (W.heap.modify g _).size
      rw [Array.size_modify]
      exact Nat.le_refl _
    · show (W.heap.modify g _)[k]? = _
      rw [Array.getElem?_modify, if_neg (fun e => hf e.symm)]
theorem sr_marked {W : World} {g : Nat} {xs : List Nat} {e : TypeId} {fr : Nat × Nat} (h : W.heap[g]? = some (.cells (u8s xs).toArray e fr)) : Sr W (some ⟨g, 0, none⟩) xs := fun _ => by
  have hl : g < W.heap.size := by
    rcases Nat.lt_or_ge g W.heap.size with h1 | h1
    · exact h1
    · rw [Array.getElem?_eq_none h1] at h; cases h
  refine ⟨g, 0, rfl, hl, fun j hj => ?_⟩
  rw [Nat.zero_add]
  unfold World.cell?
  simp only [h]
  simpa using u8s_get xs j hj
end Go.Proofs.YtidklgicmhdapaaGreatDoor
namespace Go.Proofs.YtidklgicmhdapaaGreatDoor
open Go Go.RowKit Sh

end Go.Proofs.YtidklgicmhdapaaGreatDoor
namespace Go.Proofs.YtidklgicmhdapaaGreatDoor
open Go Go.RowKit Sh

theorem Sr.of_blk {w : World} {g : Nat} {t : TypeId} {cs rest : List Value} {xs : List Nat} (h : Blk w g t cs) (hc : cs = u8s xs ++ rest) : Sr w (some ⟨g, 0, none⟩) xs := fun _ => by
  subst hc
  refine ⟨g, 0, rfl, h.lt, fun j hj => ?_⟩
  rw [Nat.zero_add, h.cell, List.getElem?_append_left (by rw [u8s_length]; exact hj), u8s_get _ _ hj]
end Go.Proofs.YtidklgicmhdapaaGreatDoor
namespace Go.Proofs.YtidklgicmhdapaaGreatDoor
open Go Go.RowKit Sh

end Go.Proofs.YtidklgicmhdapaaGreatDoor
namespace Go.Proofs.YtidklgicmhdapaaGreatDoor
open Go Go.RowKit Sh

end Go.Proofs.YtidklgicmhdapaaGreatDoor
namespace Go.Proofs.YtidklgicmhdapaaGreatDoor
open Go Go.RowKit Sh

end Go.Proofs.YtidklgicmhdapaaGreatDoor
namespace Go.Proofs.YtidklgicmhdapaaGreatDoor
open Go Go.RowKit Sh

end Go.Proofs.YtidklgicmhdapaaGreatDoor
namespace Go.Proofs.YtidklgicmhdapaaGreatDoor
open Go Go.RowKit Sh

end Go.Proofs.YtidklgicmhdapaaGreatDoor
namespace Go.Proofs.YtidklgicmhdapaaGreatDoor
open Go Go.RowKit Sh

end Go.Proofs.YtidklgicmhdapaaGreatDoor
namespace Go.Proofs.YtidklgicmhdapaaGreatDoor
open Go Go.RowKit Sh

end Go.Proofs.YtidklgicmhdapaaGreatDoor
namespace Go.Proofs.YtidklgicmhdapaaGreatDoor
open Go Go.RowKit Sh

end Go.Proofs.YtidklgicmhdapaaGreatDoor
namespace Go.Proofs.YtidklgicmhdapaaGreatDoor
open Go Go.RowKit Sh

end Go.Proofs.YtidklgicmhdapaaGreatDoor
namespace Go.Proofs.YtidklgicmhdapaaGreatDoor
open Go Go.RowKit Sh

end Go.Proofs.YtidklgicmhdapaaGreatDoor
namespace Go.Proofs.YtidklgicmhdapaaGreatDoor
open Go Go.RowKit Sh

set_option maxHeartbeats 400000 in
theorem refnum_t (v n : Nat) (w : World) (h1 : 1 ≤ n) (h2 : n ≤ 8) :
    Calls Tryz.prog 33 #[.int .u64 v, .int .i64 n] w fun e w' => ∃ u, e = .returned u ∧ Fresh 5 w w' u (beN v n) := by
  have i1 : (1 : Int) ≤ (n : Int) := by omega
  have i2 : (n : Int) ≤ 8 := by omega
  go_enter Tryz.func33, Tryz.ntmps33
  go_wp2_with fail
  go_loopw [5, 6] (fun o i wr => ∃ k : Nat, k ≤ n ∧ i = .int .i64 ((n : Int) - 1 - (k : Int)) ∧ wr.ownsRow w.heap.size 5 1 o k (u8s ((beN v n).take k)) ∧ Below w.heap.size w wr) (fun _ i _ => (intOf i + 1).toNat)
  case atStart => exact ⟨0, by omega, by simp, nil_own _ _, Below.refl _ _⟩
  case round =>
    obtain ⟨k, hk, rfl, ho, hb⟩ := hrel
    by_cases hlt : k < n
    · have b0 : (0 : Int) ≤ (n : Int) - 1 - (k : Int) := by omega
      have b1 : (n : Int) - 1 - (k : Int) ≤ 7 := by omega
      have HO := Lib.hid ho; have HB := Lib.hid hb
      clear ho hb
      have BA := Lib.hid ((Below.refl wr.heap.size wr).alloc (Nat.le_refl _) (.cells #[.int .u8 ((v : Int) / 2 ^ (8 * (n - 1 - k)) % 256)] 5))
      go_wp2_with ((with_reducible refine at_op (.call { callee := .builtin .append, args := #[.tmp 20, .tmp 27], argTypes := #[24, 24] }) rfl ?_); refine append_bytes (.tmp 20) (.tmp 27) 24 rfl rfl 5 Tryz.underlying24 byte_info w.heap.size _ k _ [v / 2 ^ (8 * (n - 1 - k)) % 256] rfl (own_below HO.out BA.out) (some ⟨wr.heap.size, 0, none⟩) 1 1 rfl rfl (Sr.one _ _ (shr_byte v _) wr _ _) (by omega) (by have := HB.out.size; simp; omega) ?_; intro v2 w2 a1 a2 a3)
      go_roundw
      case rel =>
        have o2 := a1.out
        rw [← beN_take v n k hlt] at o2
        refine ⟨k + 1, by omega, ?_, o2, ?_⟩
        · refine congrArg (Value.int .i64) ?_
          omega
        · exact (HB.out.alloc HB.out.size _).grown a2.out (Nat.le_trans HB.out.size (by simp)) fun i e => (HO.out.lt i e).1
      case measure => simp [intOf]; omega
    · obtain rfl : k = n := by omega
      have HO := Lib.hid ho; have HB := Lib.hid hb
      clear ho hb
      go_wp2
      go_ret
      refine ⟨_, rfl, ?_, HB.out⟩
      have o2 := HO.out
      rw [List.take_of_length_le (by rw [beN_length]; exact Nat.le_refl _)] at o2
      rw [beN_length]
      exact o2
theorem reftext_t (xs : List Nat) (p : Option Addr) (n c : Nat) (w : World) (hn : xs.length = n) (hp : Sr w p xs) (hl : 4 + n ≤ 70368744177664) :
    Calls Tryz.prog 34 #[.slice p n c] w fun e w' => ∃ u, e = .returned u ∧ Fresh 5 w w' u (txtN xs) := by
  subst hn
  have i1 : (xs.length : Int) ≤ 70368744177664 := by omega
  have HP := Lib.hid hp; have HL := Lib.hid hl
  clear hp hl
  go_enter Tryz.func34, Tryz.ntmps34
  go_wp2_with fail
  refine (refnum_t xs.length 4 w (by omega) (by omega)).mono ?_
  rintro e w1 ⟨u, rfl, o1, b1⟩
  have O1 := Lib.hid o1; have B1 := Lib.hid b1
  clear o1 b1
  go_wp2_with ((with_reducible refine at_op (.call { callee := .builtin .append, args := #[.tmp 6, .tmp 7], argTypes := #[24, 24] }) rfl ?_); refine append_bytes (.tmp 6) (.tmp 7) 24 rfl rfl 5 Tryz.underlying24 byte_info w.heap.size u _ _ xs rfl O1.out p xs.length c rfl rfl (HP.out.below B1.out) (by rw [beN_length]; have := HL.out; omega) B1.out.size ?_; intro v2 w2 a1 a2 a3)
  go_ret
  refine ⟨v2, rfl, ?_, B1.out.grown a2.out B1.out.size fun i e => (O1.out.lt i e).1⟩
  unfold txtN
  rw [List.length_append]
  exact a1.out
end Go.Proofs.YtidklgicmhdapaaGreatDoor
namespace Go.Proofs.YtidklgicmhdapaaGreatDoor
open Go.RowKit Sh

end Go.Proofs.YtidklgicmhdapaaGreatDoor
namespace Go.Proofs.YtidklgicmhdapaaGreatDoor
open Go Go.RowKit Sh

end Go.Proofs.YtidklgicmhdapaaGreatDoor
namespace Go.Proofs.YtidklgicmhdapaaGreatDoor
open Go Go.RowKit Sh

theorem fresh_opK {w w' : World} {v : Value} {l : List Nat} (h : Fresh 5 w w' v l) : ∃ A c, v = .slice A l.length c ∧ l.length ≤ c ∧ Sr w' A l ∧ Below w.heap.size w w' := by
  obtain ⟨A, c, rfl, hc⟩ := own_form h.1
  exact ⟨A, c, rfl, hc, Sr.of_own h.1, h.2⟩
structure PartK where
  A : Option Addr
  c : Nat
  X : List Nat
def partsK (l : List PartK) : List Value := l.map fun x => .slice x.A x.X.length x.c
def catK (l : List PartK) : List Nat := l.flatMap (·.X)
theorem catK_le (l : List PartK) (k : Nat) : (catK (l.take k)).length ≤ (catK l).length := by
  conv => rhs; rw [← List.take_append_drop k l]
  unfold catK
  rw [List.flatMap_append, List.length_append]
  omega
theorem catK_succ (l : List PartK) (k : Nat) (x : PartK) (h : l[k]? = some x) : catK (l.take (k + 1)) = catK (l.take k) ++ x.X := by
  obtain ⟨hk, rfl⟩ := List.getElem?_eq_some_iff.1 h
  unfold catK
  rw [List.take_succ_eq_append_getElem hk, List.flatMap_append, List.flatMap_cons, List.flatMap_nil, List.append_nil]
set_option maxHeartbeats 400000 in
theorem catK_t (l : List PartK) (g n c : Nat) (t : TypeId) (w : World) (hn : l.length = n) (hb : Blk w g t (partsK l)) (hr : ∀ x, x ∈ l → Sr w x.A x.X) (hl : (catK l).length ≤ 1000000) (hn2 : n ≤ 100) :
    Calls Tryz.prog 32 #[.slice (some ⟨g, 0, none⟩) n c] w fun e w' => ∃ v, e = .returned v ∧ Fresh 5 w w' v (catK l) := by
  have HB := Lib.hid hb; have HR := Lib.hid hr; have HL := Lib.hid hl; have HN := Lib.hid hn
  have n1 : (n : Int) ≤ 100 := by omega
  clear hb hr hl hn
  go_enter Tryz.func32, Tryz.ntmps32
  go_wp2_with fail
  go_loopw [3, 4] (fun o i wr => ∃ k : Nat, k ≤ n ∧ i = .int .i64 k ∧ wr.ownsRow w.heap.size 5 1 o (catK (l.take k)).length (u8s (catK (l.take k))) ∧ Below w.heap.size w wr) (fun _ i _ => n - (intOf i).toNat)
  case atStart => exact ⟨0, by omega, rfl, by simpa [catK] using nil_own _ _, Below.refl _ _⟩
  case round =>
    obtain ⟨k, hk, rfl, ho, hb⟩ := hrel
    by_cases hlt : k < n
    · obtain ⟨x, hx⟩ : ∃ x, l[k]? = some x := ⟨_, List.getElem?_eq_getElem (by rw [HN.out]; exact hlt)⟩
      have hs := (HR.out x (List.mem_of_getElem? hx)).below hb
      have h1 := catK_succ l k x hx
      have h2 : (catK (l.take k)).length + x.X.length ≤ 1000000 := by
        have := catK_le l (k + 1)
        rw [h1, List.length_append] at this
        exact Nat.le_trans this HL.out
      have c0 : wr.cell? ⟨g, k, none⟩ = some (.slice x.A x.X.length x.c) := by
        refine (hb.cell (p := ⟨g, k, none⟩) HB.out.lt).trans ?_
        rw [HB.out.cell]; simp [partsK, hx]
      obtain ⟨A, cx, X⟩ := x
      simp only [] at hs h1 h2 c0
      obtain ⟨Y, hY⟩ : ∃ Y, catK (l.take k) = Y := ⟨_, rfl⟩
      rw [hY] at ho h1 h2
      have HO := Lib.hid ho; have HW := Lib.hid hb; have HS := Lib.hid hs; have H1 := Lib.hid h1
      clear ho hb hs h1 hx hY
      go_wp2_with ((with_reducible refine at_op (.call { callee := .builtin .append, args := #[.tmp 11, .tmp 15], argTypes := #[24, 24] }) rfl ?_); refine append_bytes (.tmp 11) (.tmp 15) 24 rfl rfl 5 Tryz.underlying24 byte_info w.heap.size _ Y.length Y X rfl HO.out A X.length cx rfl rfl HS.out (by omega) HW.out.size ?_; intro v2 w2 a1 a2 a3)
      go_roundw
      case rel =>
        refine ⟨k + 1, by omega, by go_num, ?_, HW.out.grown a2.out HW.out.size fun i e => (HO.out.lt i e).1⟩
        rw [H1.out, List.length_append]
        exact a1.out
      case measure => simp [intOf]; omega
    · obtain rfl : k = n := by omega
      rw [List.take_of_length_le (by rw [HN.out]; exact Nat.le_refl _)] at ho
      have HO := Lib.hid ho; have HW := Lib.hid hb
      clear ho hb
      go_wp2_with fail
      go_ret
      exact ⟨_, rfl, HO.out, HW.out⟩
end Go.Proofs.YtidklgicmhdapaaGreatDoor
namespace Go.Proofs.YtidklgicmhdapaaGreatDoor
open Go Go.RowKit Sh

structure TX (w0 W : World) (a l : List Nat) : Prop where
  a : Blk W w0.heap.size 23 (u8s a)
  l : Blk W (w0.heap.size + 1) 23 (u8s l)
  bel : Below w0.heap.size w0 W
theorem TX.below {w0 W W' : World} {a l : List Nat} (h : TX w0 W a l) (hb : Below W.heap.size W W') : TX w0 W' a l := ⟨h.a.below hb h.a.lt, h.l.below hb h.l.lt, h.bel.trans (hb.mono h.bel.size)⟩
theorem cat_textX (a l : List Nat) (q : Nat) (p1 p2 p3 p4 : Option Addr) (c1 c2 c3 c4 : Nat) : catK [⟨p1, c1, [86, 79, 84, 69]⟩, ⟨p2, c2, a⟩, ⟨p3, c3, beN q 4⟩, ⟨p4, c4, l⟩] = [86, 79, 84, 69] ++ a ++ beN q 4 ++ l := by simp [catK]
end Go.Proofs.YtidklgicmhdapaaGreatDoor
