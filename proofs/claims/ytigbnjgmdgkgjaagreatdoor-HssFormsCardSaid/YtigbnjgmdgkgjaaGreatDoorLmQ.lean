/-
  LmsVerifies walked.
-/
import Derived.Test.YtigbnjgmdgkgjaaGreatDoorLmT
import Derived.Test.YtigbnjgmdgkgjaaGreatDoorRgV
import Derived.Test.YtigbnjgmdgkgjaaGreatDoorLmP
import Derived.Test.YtigbnjgmdgkgjaaGreatDoorOtHolds
namespace Go.Proofs.YtigbnjgmdgkgjaaGreatDoor
open Go Go.RowKit Sh

/-- Three texts that lie somewhere: a key, a message, a signature. -/
structure Trio (w0 w : World) (A B C : Option Addr) (P M S : List Nat) : Prop where
  p : Sr w A P
  m : Sr w B M
  s : Sr w C S
  bel : Below w0.heap.size w0 w
theorem Trio.below {w0 w w' : World} {A B C : Option Addr} {P M S : List Nat} (h : Trio w0 w A B C P M S) (hb : Below w.heap.size w w') : Trio w0 w' A B C P M S :=
  ⟨h.p.below hb, h.m.below hb, h.s.below hb, h.bel.trans (hb.mono h.bel.size)⟩
/-- What the law has laid down ahead of its turn. -/
structure VCap (w0 w : World) (gp cp ga ca : Nat) (pub sg : List Nat) (vm : Value) (n : Nat) (xs : List Nat) : Prop where
  op : w.ownsRow w0.heap.size 5 1 (.slice (some ⟨gp, 0, none⟩) 56 cp) 56 (u8s pub)
  oa : w.ownsRow w0.heap.size 5 1 (.slice (some ⟨ga, 0, none⟩) 4460 ca) 4460 (u8s sg)
  om : w.ownsRow w0.heap.size 5 1 vm n (u8s xs)
  ne : ga ≠ gp
  n1 : vm.ownBlock ≠ some gp
  n2 : vm.ownBlock ≠ some ga
  bel : Below w0.heap.size w0 w
theorem VCap.below {w0 w w' : World} {gp cp ga ca : Nat} {pub sg : List Nat} {vm : Value} {n : Nat} {xs : List Nat} (h : VCap w0 w gp cp ga ca pub sg vm n xs) (hb : Below w.heap.size w w') : VCap w0 w' gp cp ga ca pub sg vm n xs :=
  ⟨own_below h.op hb, own_below h.oa hb, own_below h.om hb, h.ne, h.n1, h.n2, h.bel.trans (hb.mono h.bel.size)⟩
theorem own_mono {w : World} {base base' : Nat} {e : TypeId} {size : Nat} {v : Value} {n : Nat} {xs : List Value} (h : w.ownsRow base e size v n xs) (hb : base' ≤ base) : w.ownsRow base' e size v n xs := own_base h (fun k hk => Nat.le_trans hb (h.lt k hk).1)
theorem own_sr {w : World} {base : Nat} {v : Value} {n : Nat} {l : List Nat} (h : w.ownsRow base 5 1 v n (u8s l)) : ∃ A c, v = .slice A n c ∧ n ≤ c ∧ Sr w A l := by
  obtain ⟨A, c, rfl, hc⟩ := own_form h
  exact ⟨A, c, rfl, hc, Sr.of_own h⟩
/-- A cell of an own row of bytes is turned. -/
theorem own_turn {w : World} {base g c n : Nat} {l : List Nat} (h : w.ownsRow base 5 1 (.slice (some ⟨g, 0, none⟩) n c) n (u8s l)) (j y : Nat) :
    (w.setCell ⟨g, j, none⟩ (.int .u8 (y : Int))).ownsRow base 5 1 (.slice (some ⟨g, 0, none⟩) n c) n (u8s (l.set j y)) := by
  rw [← u8s_set]
  exact (h.stored j _).1
theorem set_bytes {l : List Nat} (hb : Bytes l) (j x : Nat) (hx : x < 256) : Bytes (l.set j (gt l j ^^^ x)) := sl_bytes (fun y hy => by
    rcases List.mem_or_eq_of_mem_set hy with h | rfl
    · obtain ⟨q, hq, rfl⟩ := List.getElem_of_mem h
      have := hb q
      rwa [gt_of_lt hq] at this
    · exact Nat.xor_lt_two_pow (n := 8) (hb j) hx)
theorem form_of_sign {P M S : List Nat} (h : verN P M S = 0) : formN P = true := by
  unfold verN at h
  split at h
  · assumption
  · cases h
theorem own_of_but {w w' : World} {base g ga c n : Nat} {e : TypeId} {l : List Value} (h : w.ownsRow base e 1 (.slice (some ⟨ga, 0, none⟩) n c) n l) (hb : But w.heap.size g w w') (hl : ga < w.heap.size) (hne : ga ≠ g) : w'.ownsRow base e 1 (.slice (some ⟨ga, 0, none⟩) n c) n l := by
  refine ⟨h.1, ?_⟩
  rcases h.2 with ⟨e0, _⟩ | ⟨g', cap, cur, e0, hb', hh, r⟩
  · cases e0
  · have eg : ga = g' := by
      injection e0 with e1; injection e1 with e2; injection e2
    subst eg
    exact .inr ⟨ga, cap, cur, e0, hb', (hb.block ga hl hne).trans hh, r⟩
theorem one_bytes (x : Nat) (hx : x < 256) : Bytes [x] := sl_bytes (fun y hy => by obtain rfl := List.mem_singleton.1 hy; exact hx)
section
variable {w0 w : World} {gp cp ga ca n c : Nat} {pub sg xs : List Nat} {A : Option Addr}
theorem VCap.trio (h : VCap w0 w gp cp ga ca pub sg (.slice A n c) n xs) : Trio w0 w (some ⟨gp, 0, none⟩) A (some ⟨ga, 0, none⟩) pub xs sg := ⟨Sr.of_own h.op, Sr.of_own h.om, Sr.of_own h.oa, h.bel⟩
theorem VCap.turnP (h : VCap w0 w gp cp ga ca pub sg (.slice A n c) n xs) (j y : Nat) : Trio w0 (w.setCell ⟨gp, j, none⟩ (.int .u8 (y : Int))) (some ⟨gp, 0, none⟩) A (some ⟨ga, 0, none⟩) (pub.set j y) xs sg := by
  have hg := (h.op.stored j (.int .u8 (y : Int))).2
  exact ⟨Sr.of_own (own_turn h.op j y), Sr.of_own (h.om.kept hg (.inr h.n1)), Sr.of_own (h.oa.kept hg (.inr (by simpa [Value.ownBlock] using h.ne))), h.bel.setCell (p := ⟨gp, j, none⟩) (h.op.lt gp rfl).1 _⟩
theorem VCap.turnS (h : VCap w0 w gp cp ga ca pub sg (.slice A n c) n xs) (j y : Nat) : Trio w0 (w.setCell ⟨ga, j, none⟩ (.int .u8 (y : Int))) (some ⟨gp, 0, none⟩) A (some ⟨ga, 0, none⟩) pub xs (sg.set j y) := by
  have hg := (h.oa.stored j (.int .u8 (y : Int))).2
  exact ⟨Sr.of_own (h.op.kept hg (.inr (by simpa [Value.ownBlock] using h.ne.symm))), Sr.of_own (h.om.kept hg (.inr h.n2)), Sr.of_own (own_turn h.oa j y), h.bel.setCell (p := ⟨ga, j, none⟩) (h.oa.lt ga rfl).1 _⟩
theorem VCap.growM (h : VCap w0 w gp cp ga ca pub sg (.slice A n c) n xs) {w' : World} {A' : Option Addr} {n' c' : Nat} {xs' : List Nat} (hg : w.grownBy w' (Value.slice A n c).ownBlock) (ho : w'.ownsRow w0.heap.size 5 1 (.slice A' n' c') n' (u8s xs')) :
    Trio w0 w' (some ⟨gp, 0, none⟩) A' (some ⟨ga, 0, none⟩) pub xs' sg :=
  ⟨Sr.of_own (h.op.kept hg (.inr h.n1.symm)), Sr.of_own ho, Sr.of_own (h.oa.kept hg (.inr h.n2.symm)), h.bel.grown hg h.bel.size (fun k e => (h.om.lt k e).1)⟩
theorem VCap.growS (h : VCap w0 w gp cp ga ca pub sg (.slice A n c) n xs) {w' : World} {A' : Option Addr} {n' c' : Nat} {sg' : List Nat} (hg : w.grownBy w' (Value.slice (some ⟨ga, 0, none⟩) 4460 ca).ownBlock) (ho : w'.ownsRow w0.heap.size 5 1 (.slice A' n' c') n' (u8s sg')) :
    Trio w0 w' (some ⟨gp, 0, none⟩) A A' pub xs sg' :=
  ⟨Sr.of_own (h.op.kept hg (.inr (by simpa [Value.ownBlock] using h.ne.symm))), Sr.of_own (h.om.kept hg (.inr h.n2)), Sr.of_own ho, h.bel.grown hg h.bel.size (fun k e => (h.oa.lt k e).1)⟩
end
end Go.Proofs.YtigbnjgmdgkgjaaGreatDoor
