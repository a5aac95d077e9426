/-
  What TupleMatch holds while it walks.
-/
import Derived.Test.YtigbnjgmdgkgjaaDoorTpM
namespace Go.Proofs.YtigbnjgmdgkgjaaDoor
open Go Go.RowKit Sh

theorem own_blkF {w : World} {base : Nat} {v : Value} {n : Nat} {G : Nat → Fld} (h : w.ownsRow base 40 3 v n (rowC G n)) (hn : 0 < n) : ∃ g c rest, v = .slice (some ⟨g, 0, none⟩) n c ∧ n ≤ c ∧ base ≤ g ∧ Blk w g 40 (rowC G n ++ rest) := by
  rcases h.2 with ⟨_, h0⟩ | ⟨g, cap, cur, rfl, hb, hh, hc, _, hs, ht⟩
  · omega
  · refine ⟨g, cap, cur.toList.drop (n * 3), rfl, hc, hb, ?_⟩
    have e : rowC G n ++ cur.toList.drop (n * 3) = cur.toList := by rw [← ht, List.take_append_drop]
    unfold Blk
    rw [e]
    simpa using hh
/-- The law's row, and a row of its own. -/
structure MC (w0 W : World) (p : Option Addr) (n : Nat) (G : Nat → Fld) (g : Nat) (P : Nat → Fld) (rest : List Value) : Prop where
  r : Rw W p n G
  b : Blk W g 40 (rowC P n ++ rest)
  low : w0.heap.size ≤ g
  bel : Below w0.heap.size w0 W
theorem MC.below {w0 W W' : World} {p : Option Addr} {n : Nat} {G : Nat → Fld} {g : Nat} {P : Nat → Fld} {rest : List Value} (h : MC w0 W p n G g P rest) (hb : Below W.heap.size W W') : MC w0 W' p n G g P rest :=
  ⟨h.r.below hb, h.b.below hb h.b.lt, h.low, h.bel.trans (hb.mono h.bel.size)⟩
theorem MC.store {w0 W W' : World} {p : Option Addr} {n : Nat} {G : Nat → Fld} {g : Nat} {P Q : Nat → Fld} {rest : List Value} (h : MC w0 W p n G g P rest) (h0 : Rw w0 p n G) (hb : Blk W' g 40 (rowC Q n ++ rest)) (hk : But W.heap.size g W W') : MC w0 W' p n G g Q rest := by
  have bl : Below w0.heap.size w0 W' := h.bel.trans (hk.below h.low h.bel.size)
  exact ⟨h0.below bl, hb, h.low, bl⟩
theorem MC.kind {w0 W : World} {p : Option Addr} {n : Nat} {G : Nat → Fld} {g : Nat} {P : Nat → Fld} {rest : List Value} (h : MC w0 W p n G g P rest) {j : Nat} (hj : j < n) : W.cell? ⟨g, j * 3, none⟩ = some (.int .i64 (P j).k) := by
  have := rowC_at P n h.b j hj 0 (.int .i64 (P j).k) rfl
  rwa [Nat.zero_add, Nat.add_zero] at this
theorem MC.num {w0 W : World} {p : Option Addr} {n : Nat} {G : Nat → Fld} {g : Nat} {P : Nat → Fld} {rest : List Value} (h : MC w0 W p n G g P rest) {j : Nat} (hj : j < n) : W.cell? ⟨g, j * 3 + 1, none⟩ = some (.int .i64 (P j).n) := by
  have := rowC_at P n h.b j hj 1 (.int .i64 (P j).n) rfl
  rwa [Nat.zero_add] at this
theorem own_zeroF {w : World} {base : Nat} {v : Value} {n : Nat} {G : Nat → Fld} (h : w.ownsRow base 40 3 v (0 + n) ([] ++ rowC G n)) : w.ownsRow base 40 3 v n (rowC G n) := by rwa [List.nil_append, Nat.zero_add] at h
/-- The law's row, and two of its own. -/
structure MD (w0 W : World) (p : Option Addr) (n : Nat) (G : Nat → Fld) (g : Nat) (P : Nat → Fld) (rest : List Value) (gu : Nat) (U : Nat → Fld) (ru : List Value) : Prop where
  mc : MC w0 W p n G g P rest
  bu : Blk W gu 40 (rowC U n ++ ru)
  ne : gu ≠ g
  low : w0.heap.size ≤ gu
section
variable {w0 W W' : World} {p : Option Addr} {n : Nat} {G : Nat → Fld} {g : Nat} {P : Nat → Fld} {rest : List Value} {gu : Nat} {U V : Nat → Fld} {ru : List Value}
theorem MD.below (h : MD w0 W p n G g P rest gu U ru) (hb : Below W.heap.size W W') : MD w0 W' p n G g P rest gu U ru := ⟨h.mc.below hb, h.bu.below hb h.bu.lt, h.ne, h.low⟩
theorem MD.kind (h : MD w0 W p n G g P rest gu U ru) {j : Nat} (hj : j < n) : W.cell? ⟨gu, j * 3, none⟩ = some (.int .i64 (U j).k) := by
  have := rowC_at U n h.bu j hj 0 (.int .i64 (U j).k) rfl
  rwa [Nat.zero_add, Nat.add_zero] at this
theorem MD.num (h : MD w0 W p n G g P rest gu U ru) {j : Nat} (hj : j < n) : W.cell? ⟨gu, j * 3 + 1, none⟩ = some (.int .i64 (U j).n) := by
  have := rowC_at U n h.bu j hj 1 (.int .i64 (U j).n) rfl
  rwa [Nat.zero_add] at this
theorem MD.store (h : MD w0 W p n G g P rest gu U ru) (h0 : Rw w0 p n G) (hb : Blk W' gu 40 (rowC V n ++ ru)) (hk : But W.heap.size gu W W') : MD w0 W' p n G g P rest gu V ru := by
  have bl : Below w0.heap.size w0 W' := h.mc.bel.trans (hk.below h.low h.mc.bel.size)
  exact ⟨⟨h0.below bl, h.mc.b.but hk h.mc.b.lt h.ne.symm, h.mc.low, bl⟩, hb, h.ne, h.low⟩
end
/-- The law's four rows. -/
structure MF (w0 W : World) (p q r t : Option Addr) (n m : Nat) (G P U S : Nat → Fld) : Prop where
  g : Rw W p n G
  p : Rw W q n P
  u : Rw W r n U
  s : Rw W t m S
  bel : Below w0.heap.size w0 W
theorem MF.below {w0 W W' : World} {p q r t : Option Addr} {n m : Nat} {G P U S : Nat → Fld} (h : MF w0 W p q r t n m G P U S) (hb : Below W.heap.size W W') : MF w0 W' p q r t n m G P U S :=
  ⟨h.g.below hb, h.p.below hb, h.u.below hb, h.s.below hb, h.bel.trans (hb.mono h.bel.size)⟩
theorem own_more {w : World} {base : Nat} {v : Value} {n : Nat} {G : Nat → Fld} {f : Fld} (h : w.ownsRow base 40 3 v (n + 1) (rowC G n ++ rowC (fun _ => f) 1)) : w.ownsRow base 40 3 v (n + 1) (rowC (upd G n f) (n + 1)) := by
  rw [rowC, upd_self, rowC_congr n (fun j hj => upd_ne G f (by omega))]
  exact h
theorem Rw.kind {W : World} {p : Option Addr} {n : Nat} {G : Nat → Fld} (h : Rw W p n G) {b o j : Nat} (hp : p = some ⟨b, o, none⟩) (hj : j < n) : W.cell? ⟨b, o + j * 3, none⟩ = some (.int .i64 (G j).k) := by
  obtain ⟨b', o', e, _, r⟩ := h j hj
  rw [hp] at e
  injection e with e
  injection e with e1 e2
  subst e1 e2
  exact r 0 _ rfl
end Go.Proofs.YtigbnjgmdgkgjaaDoor
