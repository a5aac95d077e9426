/-
  LAYER 10's laws
  Small things that the laws of layer 10 want (picked out of t
-/
import Derived.Test.YtidklgicmhdapaaGreatDoorAv31
import Derived.Deep.CutBlock
namespace Go.Proofs.YtidklgicmhdapaaGreatDoor
open Go Go.RowKit Sh

def fakeE (f : Nat) (rd wr : Int) : Ge := ⟨(f : Int), rd, wr, (List.range (3 * f + 1)).map fakeX, []⟩
theorem fakeE_ok (f : Nat) (rd wr : Int) (hf : f ≤ 2) (h1 : alB rd = true) (h2 : alB wr = true) : begQ (fakeE f rd wr) = true := by
  unfold begQ fakeE
  dsimp only
  rw [h1, h2]
  have hk : mayK (f : Int) ((List.range (3 * f + 1)).map fakeX) = true := by
    unfold mayK
    rw [List.length_map, List.length_range, decide_eq_true (by omega), Bool.true_and, List.all_eq_true]
    intro y hy
    obtain ⟨i, hi, rfl⟩ := List.mem_map.1 hy
    exact fakeX_form i (by have := List.mem_range.1 hi; omega)
  rw [hk]
  have hf2 : fltB (f : Int) = true := by unfold fltB; rw [decide_eq_true (by omega), decide_eq_true (by omega)]; rfl
  rw [hf2]
  rfl
theorem putE_bytes {e : Ge} (hk : ∀ x ∈ e.ks, Bytes x) (hs : Bytes e.st) : Bytes (putE e) := by
  have hf : ∀ l : List (List Nat), (∀ x ∈ l, Bytes x) → Bytes l.flatten := fun l => by
    induction l with
    | nil => intro _; exact nil_bytes
    | cons a l ih => intro h; rw [List.flatten_cons]; exact app_bytes (h a List.mem_cons_self) (ih fun y hy => h y (List.mem_cons_of_mem _ hy))
  exact app_bytes (beN_bytes _ _) (app_bytes (beN_bytes _ _) (app_bytes (beN_bytes _ _) (app_bytes (hf _ hk) (app_bytes (beN_bytes _ _) hs))))
theorem zG_no : begB zGv = false := rfl
end Go.Proofs.YtidklgicmhdapaaGreatDoor
namespace Go.Proofs.YtidklgicmhdapaaGreatDoor
open Go Go.RowKit Sh

section
variable {P : Program} {ops : Array Oper} {Q : Exit → Act → World → Prop} {md : Region.Mode} {S : World → Prop} {last : Nat → Bool}
end
theorem same_textsTX (xs ys : List Nat) (A B : Option Addr) (n m c d : Nat) (w : World) (hn : xs.length = n) (hm : ys.length = m) (ha : Sr w A xs) (hb : Sr w B ys) (hx : Bytes xs) (hy : Bytes ys) :
    Calls Tryz.prog 9 #[.slice A n c, .slice B m d] w fun e w' => e = .returned (.bool (decide (xs = ys))) ∧ w = w' := by
  have e1 := ha.conv hn c
  have e2 := hb.conv hm d
  have e3 := str_beqT xs ys hx hy
  obtain ⟨b, hbb⟩ : ∃ b, decide (xs = ys) = b := ⟨_, rfl⟩
  rw [hbb] at e3 ⊢
  obtain ⟨s, hs⟩ : ∃ s, str xs = s := ⟨_, rfl⟩
  obtain ⟨t, ht⟩ : ∃ t, str ys = t := ⟨_, rfl⟩
  rw [hs] at e1 e3
  rw [ht] at e2 e3
  clear ha hb hx hy hbb hs ht hn hm
  go_enter Tryz.func9, Tryz.ntmps9
  go_wp2
  go_ret
  exact ⟨rfl, rfl⟩
end Go.Proofs.YtidklgicmhdapaaGreatDoor
