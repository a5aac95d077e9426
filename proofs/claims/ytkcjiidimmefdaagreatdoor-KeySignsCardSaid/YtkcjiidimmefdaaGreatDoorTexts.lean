/-
  A [][]byte that came in.
-/
import Derived.Test.YtkcjiidimmefdaaGreatDoorBaseM
namespace Go.Proofs.YtkcjiidimmefdaaGreatDoor
open Go Go.RowKit Sh

/-- A row of slices of bytes: the r-th has the address A r, the length L r, reads as X r. -/
structure Texts (w : World) (p : Option Addr) (n : Nat) (A : Nat → Option Addr) (L C : Nat → Nat) (X : Nat → List Nat) : Prop where
  cell : ∀ r, r < n → ∃ b o, p = some ⟨b, o, none⟩ ∧ b < w.heap.size ∧ w.cell? ⟨b, o + r, none⟩ = some (.slice (A r) (L r) (C r))
  len : ∀ r, r < n → (X r).length = L r
  cap : ∀ r, r < n → L r ≤ C r
  max : ∀ r, r < n → L r ≤ 9223372036854775807
  reads : ∀ r, r < n → Sr w (A r) (X r)
  bytes : ∀ r, r < n → Bytes (X r)
theorem Texts.below {w w' : World} {p : Option Addr} {n : Nat} {A : Nat → Option Addr} {L C : Nat → Nat} {X : Nat → List Nat} (h : Texts w p n A L C X) (hb : Below w.heap.size w w') : Texts w' p n A L C X :=
  ⟨fun r hr => by
    obtain ⟨b, o, e, h1, h2⟩ := h.cell r hr
    exact ⟨b, o, e, Nat.lt_of_lt_of_le h1 hb.size, (hb.cell (p := ⟨b, o + r, none⟩) h1).trans h2⟩, h.len, h.cap, h.max, fun r hr => (h.reads r hr).below hb, h.bytes⟩
end Go.Proofs.YtkcjiidimmefdaaGreatDoor
