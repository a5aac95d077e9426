/-
  A DIGEST AMONG OTHER MEMORY: Write, Sum as a caller with several blocks of its own wants them.
-/
import Derived.Test.YtkcjiidimmefdaaGreatDoorShaM
import Derived.Test.YtkcjiidimmefdaaGreatDoorBaseM
namespace Go.Proofs.YtkcjiidimmefdaaGreatDoor
open Go.RowKit Sh

theorem Sl.of_sr {w : World} {p : Option Addr} {xs : List Nat} (h : Sr w p xs) (g : Nat) (hg : w.heap.size ≤ g) : Sl w w.heap.size g p xs := fun hx => by
  obtain ⟨b, o, e, h1, h2⟩ := h hx
  exact ⟨b, o, e, h1, by omega, h2⟩
theorem Sl.old {w W : World} {p : Option Addr} {xs : List Nat} {g : Nat} (h : Sr w p xs) (hb : Below w.heap.size w W) (hg : w.heap.size ≤ g) : Sl W W.heap.size g p xs := fun hx => by
  obtain ⟨b, o, e, h1, h2⟩ := h hx
  exact ⟨b, o, e, Nat.lt_of_lt_of_le h1 hb.size, by omega, h2.below hb h1⟩
theorem Dig.but {w w' : World} {g g' : Nat} {l : List Nat} {s : S8} {r : List Nat} (h : Dig w g l s r) (hb : But w.heap.size g' w w') (hne : g ≠ g') : Dig w' g l s r := ⟨h.blk.but hb h.blk.lt hne, h.ok, h.len, h.bytes, h.rep⟩
theorem Wrote.dig {w w' : World} {g : Nat} {l : List Nat} (h : Wrote w w' g l) : ∃ s r, Dig w' g l s r := by
  obtain ⟨⟨s, r, hr, hb⟩, _⟩ := h
  exact ⟨s, r, Dig.of_rep hr hb⟩
/-- Write, Sum, Copy, as a law of several Digests wants them. -/
theorem write_u (B g : Nat) (s : S8) (r l xs : List Nat) (p : Option Addr) (n c : Nat) (w : World) (hd : Dig w g l s r) (hxs : Bytes xs) (hp : Sl w w.heap.size g p xs) (hn : xs.length = n) (hc : n ≤ c) (hsz : l.length + n < 2305843009213693952) (hk : KAt w) (hB : B ≤ g) (hkB : 1 < B) :
    Calls Tryz.prog 89 #[.pointer (some ⟨g, 0, none⟩), .slice p n c] w fun e w' => e = .returned (.tuple #[]) ∧ (∃ s r, Dig w' g (l ++ xs) s r) ∧ But w.heap.size g w w' ∧ Below B w w' := by
  subst hn
  refine (write_t g s r l xs p c w hd hxs hp hc hsz hk (by omega)).mono ?_
  rintro e w' ⟨rfl, h⟩
  have h2 := h.2
  exact ⟨rfl, h.dig, h2, h2.below hB (by have := hd.blk.lt; omega)⟩
theorem sum_u (xs : List Nat) (p : Option Addr) (n c : Nat) (w : World) (hxs : Bytes xs) (hp : Sr w p xs) (hn : xs.length = n) (hc : n ≤ c) (hsz : n < 2305843009213693952) (hk : KAt w) :
    Calls Tryz.prog 94 #[.slice p n c] w fun e w' => e = .returned (.agg (u8s (sum xs)).toArray) ∧ Below w.heap.size w w' := by
  subst hn
  exact sum_t xs p c w hxs (fun g hg => Sl.of_sr hp g hg) hc hsz hk
end Go.Proofs.YtkcjiidimmefdaaGreatDoor
