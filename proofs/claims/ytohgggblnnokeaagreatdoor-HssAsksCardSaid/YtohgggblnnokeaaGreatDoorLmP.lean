/-
  LmsPaths walked.
-/
import Derived.Test.YtohgggblnnokeaaGreatDoorLmS
import Derived.Test.YtohgggblnnokeaaGreatDoorLmD
import Derived.Test.YtohgggblnnokeaaGreatDoorOtEq
namespace Go.Proofs.YtohgggblnnokeaaGreatDoor
open Go Go.RowKit Sh

theorem own_blkp {w : World} {base : Nat} {v : Value} {l : List Nat} {n : Nat} (h : w.ownsRow base 5 1 v n (u8s l)) (hn : 0 < n) : ∃ g c rest, v = .slice (some ⟨g, 0, none⟩) n c ∧ n ≤ c ∧ base ≤ g ∧ Blk w g 5 (u8s l ++ rest) := by
  rcases h.2 with ⟨_, h0⟩ | ⟨g, cap, cur, rfl, hb, hh, hc, _, hs, ht⟩
  · omega
  · refine ⟨g, cap, cur.toList.drop n, rfl, hc, hb, ?_⟩
    have e : u8s l ++ cur.toList.drop n = cur.toList := by rw [← ht, Nat.mul_one, List.take_append_drop]
    unfold Blk
    rw [e]
    simpa using hh
theorem but_below {B g : Nat} {a b : World} (h : But a.heap.size g a b) (hg : B ≤ g) (hB : B ≤ a.heap.size) : Below B a b := ⟨h.os, h.tape, h.output, h.size, fun k hk => h.block k (by omega) (by omega)⟩
/-- What the law has laid down: its secret and its tree. -/
structure LPCap (w0 w : World) (gs g : Nat) (I seed : List Nat) : Prop where
  sec : Blk w gs 26 (u8s (I ++ seed))
  st : Stands w g I seed 2 1
  bel : Below w0.heap.size w0 w
  gl : w0.heap.size ≤ gs ∧ gs < g
theorem LPCap.below {w0 w w' : World} {gs g : Nat} {I seed : List Nat} (h : LPCap w0 w gs g I seed) (hb : Below w.heap.size w w') : LPCap w0 w' gs g I seed :=
  ⟨h.sec.below hb h.sec.lt, h.st.below hb, h.bel.trans (hb.mono h.bel.size), h.gl⟩
theorem LPCap.but {w0 w w' : World} {gs g : Nat} {I seed : List Nat} (h : LPCap w0 w gs g I seed) (hb : But w.heap.size g w w') (hs : Stands w' g I seed 2 1) : LPCap w0 w' gs g I seed :=
  ⟨h.sec.but hb h.sec.lt (by have := h.gl.2; omega), hs, h.bel.trans (but_below hb (by have := h.gl; omega) h.bel.size), h.gl⟩
end Go.Proofs.YtohgggblnnokeaaGreatDoor
