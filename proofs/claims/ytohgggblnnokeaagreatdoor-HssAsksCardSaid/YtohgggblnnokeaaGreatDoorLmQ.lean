/-
  LmsVerifies walked.
-/
import Derived.Test.YtohgggblnnokeaaGreatDoorLmT
import Derived.Test.YtohgggblnnokeaaGreatDoorRgC
import Derived.Test.YtohgggblnnokeaaGreatDoorLmP
import Derived.Test.YtohgggblnnokeaaGreatDoorOtHolds
namespace Go.Proofs.YtohgggblnnokeaaGreatDoor
open Go Go.RowKit Sh

/-- Three texts that lie somewhere: a key, a message, a signature. -/
structure Trio (w0 w : World) (A B C : Option Addr) (P M S : List Nat) : Prop where
  p : Sr w A P
  m : Sr w B M
  s : Sr w C S
  bel : Below w0.heap.size w0 w
theorem Trio.below {w0 w w' : World} {A B C : Option Addr} {P M S : List Nat} (h : Trio w0 w A B C P M S) (hb : Below w.heap.size w w') : Trio w0 w' A B C P M S :=
  ⟨h.p.below hb, h.m.below hb, h.s.below hb, h.bel.trans (hb.mono h.bel.size)⟩
/-- What the law has laid down ahead of its turn. -/
structure VCap (w0 w : World) (gp cp ga ca : Nat) (pub sg : List Nat) (vm : Value) (n : Nat) (xs : List Nat) : Prop where
  op : w.ownsRow w0.heap.size 5 1 (.slice (some ⟨gp, 0, none⟩) 56 cp) 56 (u8s pub)
  oa : w.ownsRow w0.heap.size 5 1 (.slice (some ⟨ga, 0, none⟩) 4460 ca) 4460 (u8s sg)
  om : w.ownsRow w0.heap.size 5 1 vm n (u8s xs)
  ne : ga ≠ gp
  n1 : vm.ownBlock ≠ some gp
  n2 : vm.ownBlock ≠ some ga
  bel : Below w0.heap.size w0 w
theorem VCap.below {w0 w w' : World} {gp cp ga ca : Nat} {pub sg : List Nat} {vm : Value} {n : Nat} {xs : List Nat} (h : VCap w0 w gp cp ga ca pub sg vm n xs) (hb : Below w.heap.size w w') : VCap w0 w' gp cp ga ca pub sg vm n xs :=
  ⟨own_below h.op hb, own_below h.oa hb, own_below h.om hb, h.ne, h.n1, h.n2, h.bel.trans (hb.mono h.bel.size)⟩
/-- A cell of an own row of bytes is turned. -/
theorem own_turn {w : World} {base g c n : Nat} {l : List Nat} (h : w.ownsRow base 5 1 (.slice (some ⟨g, 0, none⟩) n c) n (u8s l)) (j y : Nat) :
    (w.setCell ⟨g, j, none⟩ (.int .u8 (y : Int))).ownsRow base 5 1 (.slice (some ⟨g, 0, none⟩) n c) n (u8s (l.set j y)) := by
  rw [← u8s_set]
  exact (h.stored j _).1
theorem set_bytes {l : List Nat} (hb : Bytes l) (j x : Nat) (hx : x < 256) : Bytes (l.set j (gt l j ^^^ x)) := sl_bytes (fun y hy => by
    rcases List.mem_or_eq_of_mem_set hy with h | rfl
    · obtain ⟨q, hq, rfl⟩ := List.getElem_of_mem h
      have := hb q
      rwa [gt_of_lt hq] at this
    · exact Nat.xor_lt_two_pow (n := 8) (hb j) hx)
theorem form_of_sign {P M S : List Nat} (h : verN P M S = 0) : formN P = true := by
  unfold verN at h
  split at h
  · assumption
  · cases h
theorem own_of_but {w w' : World} {base g ga c n : Nat} {e : TypeId} {l : List Value} (h : w.ownsRow base e 1 (.slice (some ⟨ga, 0, none⟩) n c) n l) (hb : But w.heap.size g w w') (hl : ga < w.heap.size) (hne : ga ≠ g) : w'.ownsRow base e 1 (.slice (some ⟨ga, 0, none⟩) n c) n l := by
  refine ⟨h.1, ?_⟩
  rcases h.2 with ⟨e0, _⟩ | ⟨g', cap, cur, e0, hb', hh, r⟩
  · cases e0
  · have eg : ga = g' := by
      injection e0 with e1; injection e1 with e2; injection e2
    subst eg
    exact .inr ⟨ga, cap, cur, e0, hb', (hb.block ga hl hne).trans hh, r⟩
section
variable {w0 w : World} {gp cp ga ca n c : Nat} {pub sg xs : List Nat} {A : Option Addr}
end
end Go.Proofs.YtohgggblnnokeaaGreatDoor
