/-
  A signer that a law holds: what Sign, Reserve, Public leave of it.
-/
import Derived.Test.YtkcjiidimmefdaaGreatDoorKyA
import Derived.Test.YtkcjiidimmefdaaGreatDoorKyB
import Derived.Test.YtkcjiidimmefdaaGreatDoorLmP
import Derived.Test.YtkcjiidimmefdaaGreatDoorOtWide
namespace Go.Proofs.YtkcjiidimmefdaaGreatDoor
open Go Go.RowKit Sh

theorem Kept.twoBelow {B g gt : Nat} {a b : World} (h : Kept (fun q => q = g ∨ q = gt) a b) (h1 : B ≤ g) (h2 : B ≤ gt) (hB : B ≤ a.heap.size) : Below B a b :=
  ⟨h.os, h.tape, h.output, h.size, fun k hk => h.block k (by omega) (by omega)⟩
/-- A signer of width 2 that a law made, and the world since the law began. -/
structure KW (w0 w : World) (g gt : Nat) (I seed : List Nat) (n r : Nat) : Prop where
  ks : KS w g gt I seed 2 1 n r
  b1 : w0.heap.size ≤ g
  b2 : w0.heap.size ≤ gt
  bel : Below w0.heap.size w0 w
section
variable {w0 w w' : World} {g gt : Nat} {I seed : List Nat} {n r : Nat}
theorem KW.below (h : KW w0 w g gt I seed n r) (hb : Below w.heap.size w w') : KW w0 w' g gt I seed n r :=
  ⟨h.ks.below hb, h.b1, h.b2, h.bel.trans (hb.mono h.bel.size)⟩
theorem Sr.farS {P : Option Addr} {xs : List Nat} (hp : Sr w P xs) (h : KS w g gt I seed 2 1 n r) (k : Nat) (u : Value) : Sr (w.setCell ⟨g, k, none⟩ u) P xs :=
  hp.kept (F := fun q => q = g) ((Kept.refl (fun q => q = g) w).setCell (p := ⟨g, k, none⟩) (Or.inl rfl) u) (fun hx a ha e => by
    obtain ⟨b, o, hb, hl, hc⟩ := hp hx
    rw [hb] at ha
    obtain rfl := Option.some.inj ha
    change b = g at e
    subst e
    have h0 := hc 0 hx
    rw [h.b.cell] at h0
    rw [Nat.add_zero] at h0
    match o, h0 with
    | 0, h0 => simp [sgC] at h0
    | 1, h0 => simp [sgC] at h0
    | 2, h0 => simp [sgC] at h0
    | o + 3, h0 => simp [sgC] at h0)
theorem KW.own {base m : Nat} {v : Value} {xs : List Value} (h : KW w0 w g gt I seed n r) (o : w.ownsRow base 5 1 v m xs) (hk : Kept (fun q => q = g ∨ q = gt) w w') : w'.ownsRow base 5 1 v m xs :=
  own_kept o hk (fun k e hf => by
    rcases hf with rfl | rfl
    · exact own_apart o h.ks.b (by decide) e
    · obtain ⟨m, _, t⟩ := h.ks.t.is
      exact own_apart o t (by decide) e)
theorem kwSign (xs : List Nat) (P : Option Addr) (m cc : Nat) (hI : I.length = 16) (hIb : Bytes I) (hs : seed.length = 32) (hsb : Bytes seed) (hk : KAt w0) (hki : KI w0) (h : KW w0 w g gt I seed n r) (hn : n < r) (hx : xs.length = m) (hp : Sr w P xs) (hxb : Bytes xs) (hcc : m ≤ cc) (hml : m ≤ 70368744177664) :
    Calls Tryz.prog 11 #[.pointer (some ⟨g, 0, none⟩), .slice P m cc] w fun e w' => ∃ ga c, e = .returned (.tuple #[.slice (some ⟨ga, 0, none⟩) 4460 c, .int .i64 0]) ∧ 4460 ≤ c ∧ w'.ownsRow w0.heap.size 5 1 (.slice (some ⟨ga, 0, none⟩) 4460 c) 4460 (u8s (lsigN I seed 1 n xs)) ∧ KW w0 w' g gt I seed (n + 1) r ∧ Below w0.heap.size w w' ∧ Kept (fun q => q = g ∨ q = gt) w w' := by
  have hn2 : n < 32 := Nat.lt_of_lt_of_le hn h.ks.top
  refine (kSign_yes I seed xs 2 1 n r g gt P m cc w hI hIb hs hsb (by decide) rfl hx (hp.farS h.ks _ _) hxb hcc hml h.ks hn (hk.below h.bel hk.lt) (hki.kept h.bel)).mono ?_
  rintro e w' ⟨u, rfl, o, ks, kp⟩
  rw [show 204 + 32 * (kd 1).p = 4460 from rfl] at o
  obtain ⟨ga, c, rest, rfl, hc, hg, _⟩ := own_blkp o (by decide)
  have hb := kp.twoBelow h.b1 h.b2 h.bel.size
  exact ⟨ga, c, rfl, hc, own_base o (fun k e => Nat.le_trans h.bel.size (o.lt k e).1), ⟨ks, h.b1, h.b2, h.bel.trans hb⟩, hb, kp⟩
theorem kwReserve (m : Nat) (h : KW w0 w g gt I seed n r) (hm : r ≤ m) (hm2 : m ≤ 32) :
    Calls Tryz.prog 9 #[.pointer (some ⟨g, 0, none⟩), .int .i64 (m : Int)] w fun e w' => e = .returned (.int .i64 0) ∧ KW w0 w' g gt I seed n m ∧ Below w0.heap.size w w' ∧ Kept (fun q => q = g ∨ q = gt) w w' := by
  refine (kReserve_yes I seed 2 1 n r g gt m w h.ks hm hm2).mono ?_
  rintro e w' ⟨rfl, ks, b⟩
  have hb := b.below h.b1 h.bel.size
  exact ⟨rfl, ⟨ks, h.b1, h.b2, h.bel.trans hb⟩, hb, ⟨b.os, b.tape, b.output, b.size, fun k hk hf => b.block k hk (fun e => hf (.inl e))⟩⟩
theorem kwPublic (hI : I.length = 16) (hIb : Bytes I) (hs : seed.length = 32) (hsb : Bytes seed) (hk : KAt w0) (hki : KI w0) (h : KW w0 w g gt I seed n r) :
    Calls Tryz.prog 16 #[.pointer (some ⟨g, 0, none⟩)] w fun e w' => ∃ ga c, e = .returned (.slice (some ⟨ga, 0, none⟩) 56 c) ∧ 56 ≤ c ∧ w'.ownsRow w.heap.size 5 1 (.slice (some ⟨ga, 0, none⟩) 56 c) 56 (u8s (lpubN I seed 1)) ∧ KW w0 w' g gt I seed n r ∧ Below w0.heap.size w w' ∧ Kept (fun q => q = g ∨ q = gt) w w' := by
  refine (kPublic_t I seed 2 1 n r g gt w hI hIb hs hsb (by decide) rfl h.ks (hk.below h.bel hk.lt) (hki.kept h.bel)).mono ?_
  rintro e w' ⟨u, rfl, o, ks, b⟩
  obtain ⟨ga, c, rest, rfl, hc, hg, _⟩ := own_blkp o (by decide)
  have hb := b.below h.b2 h.bel.size
  exact ⟨ga, c, rfl, hc, o, ⟨ks, h.b1, h.b2, h.bel.trans hb⟩, hb, ⟨b.os, b.tape, b.output, b.size, fun k hk hf => b.block k hk (fun e => hf (.inr e))⟩⟩
theorem kwNew (n : Nat) (hI : I.length = 16) (hs : seed.length = 32) (hn : n ≤ 32) (hk : KAt w0) (hki : KI w0) (hb : Below w0.heap.size w0 w) :
    Calls Tryz.prog 6 #[.agg (u8s (I ++ seed)).toArray, .int .i64 2, .int .i64 (n : Int)] w fun e w' => ∃ g gt, e = .returned (.tuple #[.pointer (some ⟨g, 0, none⟩), .int .i64 0]) ∧ KW w0 w' g gt I seed n n ∧ Below w.heap.size w w' := by
  refine (kNew_t I seed 2 1 n w hI hs (by decide) rfl hn (hk.below hb hk.lt) (hki.kept hb)).mono ?_
  rintro e w' ⟨g, gt, rfl, ks, h1, h2, b⟩
  have := hb.size
  exact ⟨g, gt, rfl, ⟨ks, by omega, by omega, hb.trans (b.mono hb.size)⟩, b⟩
end
end Go.Proofs.YtkcjiidimmefdaaGreatDoor
