/-
  PACKAGE genesis
  PACKAGE genesis
  PACKAGE genesis, what is pure
  PACKAGE genesis
  PACKAGE genesis
-/
import Derived.Test.YtidklgicmhdapaaGreatDoorAv29
namespace Go.Proofs.YtidklgicmhdapaaGreatDoor
open Go Go.RowKit Sh

theorem wcopy_partG {P : Program} {o : Oper} {a : Act} {w : World} {K : Act → World → Prop} {Q : Exit → Act → World → Prop} (d s : Operand) (dT sT elem : TypeId) (g off dLen dCap sLen sCap nn : Nat) (dp sp : Option Addr) (t : TypeId) (A M C M' : List Value)
    (ho : o.op = .call { callee := .builtin .copy, args := #[d, s], argTypes := #[dT, sT] }) (hu : P.underlying dT = some (.slice elem)) (hsz : (P.info? elem).map (·.size) = some 1)
    (hg : Blk w g t (A ++ (M ++ C))) (hoff : off = A.length) (hl : M.length = M'.length) (hn : M'.length = Nat.min sLen dLen) (hd : a.eval d = .slice dp dLen dCap) (hs : a.eval s = .slice sp sLen sCap)
    (hpos : 0 < M'.length → dp = some ⟨g, off, none⟩ ∧ ∃ ad, sp = some ad ∧ ∀ j v, M'[j]? = some v → w.cell? (ad.add j) = some v) (h1 : ∀ v ∈ M', v.oneCell' = true) (hnn : M'.length = nn)
    (h : ∀ w', Hid (Blk w' g t (A ++ (M' ++ C))) → Hid (But w.heap.size g w w') → Hid (w'.heap.size = w.heap.size) → K (a.put o.dst (.int .i64 (nn : Int))) w') : o.wp P a w K Q := by
  subst hnn
  by_cases h0 : M'.length = 0
  · obtain rfl : M' = [] := List.eq_nil_of_length_eq_zero h0
    obtain rfl : M = [] := List.eq_nil_of_length_eq_zero hl
    have hrun := run_copy_none (P := P) w dT sT o.type elem dp sp dLen dCap sLen sCap hu hsz (by simpa using hn.symm)
    unfold Oper.wp
    simp [execOp, ho, resolve, invoke, builtin, hd, hs, hrun, Result.andThen]
    exact h w (Lib.hid hg) (Lib.hid (But.refl _ _ _)) (Lib.hid rfl)
  · obtain ⟨rfl, ad, rfl, hsrc⟩ := hpos (by omega)
    subst hoff
    have hrun := run_copy_row (P := P) w dT sT o.type elem g A.length dLen dCap ad sLen sCap (A ++ (M ++ C)).toArray t M' hu hsz hg hn hsrc (by simp; omega) h1
    unfold Oper.wp
    simp [execOp, ho, resolve, invoke, builtin, hd, hs, hrun, Result.andThen]
    refine h _ ?_ ?_ ?_
    · have e : (A ++ (M ++ C)).take A.length ++ (M' ++ (A ++ (M ++ C)).drop (A.length + M'.length)) = A ++ (M' ++ C) := by
        rw [← hl, ← List.drop_drop, List.take_left, List.drop_left, List.drop_left]
      have hb := hg.setRow ((A ++ (M ++ C)).take A.length ++ (M' ++ (A ++ (M ++ C)).drop (A.length + M'.length)))
      rw [e] at hb
      rw [← e] at hb ⊢
      exact Lib.hid (by simpa using hb)
    · exact Lib.hid ((But.refl _ _ _).setRow _)
    · exact Lib.hid (by simp)
def kSeg (ys : List Nat) (bad : Bool) : List Nat × List Nat × Bool := if 56 ≤ ys.length then (ys.take 56, ys.drop 56, bad) else (List.replicate 56 0, [], true)
def kRd (ys : List Nat) (bad : Bool) : Nat → List (List Nat) × List Nat × Bool
  | 0 => ([], ys, bad)
  | j + 1 => ((kRd ys bad j).1 ++ [(kSeg (kRd ys bad j).2.1 (kRd ys bad j).2.2).1], (kSeg (kRd ys bad j).2.1 (kRd ys bad j).2.2).2)
section
variable {F : Nat → Prop} {w0 W W' : World} {g n s s' : Nat} {l l' : List (List Nat)} {ys ys' : List Nat} {bad bad' : Bool}
end
end Go.Proofs.YtidklgicmhdapaaGreatDoor
namespace Go.Proofs.YtidklgicmhdapaaGreatDoor
open Go Go.RowKit Sh

def g1 (xs : List Nat) := rNum xs false 1
def g2 (xs : List Nat) := rNum (g1 xs).2.1 (g1 xs).2.2 1
def g3 (xs : List Nat) := rNum (g2 xs).2.1 (g2 xs).2.2 1
def g4 (xs : List Nat) := kRd (g3 xs).2.1 (g3 xs).2.2 (3 * (g1 xs).1 + 1)
def g5 (xs : List Nat) := rTxt (g4 xs).2.1 (g4 xs).2.2 (g4 xs).2.1.length
def zGv : Gv := ⟨0, 0, 0, none, 0, [], none, 0, []⟩
theorem zGv_w (W : World) : GvW W zGv := ⟨RowL.nil, (fun y hy => by cases hy), (fun y hy => by cases hy), (fun y hy => by cases hy), Nat.zero_le _, Sr.nil, nil_bytes, Nat.zero_le _, Nat.zero_le _⟩
theorem built_g9 (a b c : Int) : Tryz.prog.built 41 [(0, .int .i64 a), (1, .int .i64 b), (2, .int .i64 c)] = some #[.int .i64 a, .int .i64 b, .int .i64 c, .slice none 0 0, .slice none 0 0] := by kernel_rfl
theorem built_gz : Tryz.prog.built 41 [] = some (gv zGv).toArray := by kernel_rfl
section
variable {B : Nat} {w0 W W' : World} {g g5 : Nat} {zs zs' : List Nat} {bad bad' : Bool} {x x' : Gv}
end
end Go.Proofs.YtidklgicmhdapaaGreatDoor
namespace Go.Proofs.YtidklgicmhdapaaGreatDoor
open Go Go.RowKit Sh

def putE (e : Ge) : List Nat := putG e.f e.rd e.wr e.ks e.st
end Go.Proofs.YtidklgicmhdapaaGreatDoor
namespace Go.Proofs.YtidklgicmhdapaaGreatDoor
open Go Go.RowKit Sh

theorem bEqual_t (xs ys : List Nat) (A B : Option Addr) (n m c d : Nat) (w : World) (hn : xs.length = n) (hm : ys.length = m) (ha : Sr w A xs) (hb : Sr w B ys) (hx : Bytes xs) (hy : Bytes ys) :
    Calls Tryz.prog 35 #[.slice A n c, .slice B m d] w fun e w' => e = .returned (.bool (decide (xs = ys))) ∧ w = w' := by
  have e1 := ha.conv hn c
  have e2 := hb.conv hm d
  have e3 := str_beqT xs ys hx hy
  obtain ⟨b, hbb⟩ : ∃ b, decide (xs = ys) = b := ⟨_, rfl⟩
  rw [hbb] at e3 ⊢
  obtain ⟨s, hs⟩ : ∃ s, str xs = s := ⟨_, rfl⟩
  obtain ⟨t, ht⟩ : ∃ t, str ys = t := ⟨_, rfl⟩
  rw [hs] at e1 e3
  rw [ht] at e2 e3
  clear ha hb hx hy hbb hs ht hn hm
  go_enter Tryz.func35, Tryz.ntmps35
  go_wp2
  go_ret
  exact ⟨rfl, rfl⟩
end Go.Proofs.YtidklgicmhdapaaGreatDoor
namespace Go.Proofs.YtidklgicmhdapaaGreatDoor
open Go Go.RowKit Sh

theorem built_hz : Tryz.prog.built 23 [] = some (u8s zH).toArray := by kernel_rfl
structure HG9 (w0 W : World) (x : Gv) (h : List Nat) : Prop where
  gb : GB9 w0 W x
  res : Blk W (w0.heap.size + 1) 23 (u8s h)
theorem HG9.below {w0 W W' : World} {x : Gv} {l : List Nat} (h : HG9 w0 W x l) (hb : Below W.heap.size W W') : HG9 w0 W' x l := ⟨h.gb.below hb, h.res.below hb h.res.lt⟩
theorem HG9.new {w : World} {x : Gv} (h : GvW w x) : HG9 w ((w.alloc (.cells (gv x).toArray 41)).alloc (.cells (u8s zH).toArray 23)) x zH :=
  ⟨(GB9.new h).below ((Below.refl _ _).alloc (Nat.le_refl _) _), Blk.new2 w (.cells (gv x).toArray 41) 23 (u8s zH)⟩
end Go.Proofs.YtidklgicmhdapaaGreatDoor
