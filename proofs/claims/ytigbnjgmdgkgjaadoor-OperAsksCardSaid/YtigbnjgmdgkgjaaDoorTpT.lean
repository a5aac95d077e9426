/-
  told of chapter 6.
-/
import Derived.Test.YtigbnjgmdgkgjaaDoorTpS
namespace Go.Proofs.YtigbnjgmdgkgjaaDoor
open Go Go.RowKit Sh

def aS : ByteArray := { data := #[97] }
def tG : Nat → Fld := fun j => if j = 0 then ⟨1, 7, eS⟩ else ⟨2, 0, aS⟩
def pG : Nat → Fld := fun j => if j = 0 then ⟨3, 0, eS⟩ else ⟨2, 0, aS⟩
theorem tG_may : mayP 2 tG = true ∧ mayV 2 tG = true ∧ mayP 2 pG = true ∧ mayV 2 pG = false := by decide +kernel
theorem tG_match : matchN 2 pG 2 tG = true ∧ matchN 2 tG 2 pG = false := by decide +kernel
theorem nil_may (G : Nat → Fld) : mayP 0 G = false := rfl
theorem tG_r (j : Nat) (_ : j < 2) : InR (tG j) := by
  unfold tG InR
  split <;> (constructor <;> decide)
theorem sameN_of {n m : Nat} {G H : Nat → Fld} (h : n = m) (hg : ∀ j, j < n → G j = H j) : sameN n G m H = true := by
  subst h
  unfold sameN
  rw [decide_eq_true rfl, Bool.true_and]
  exact (allN_iff _ n).2 (fun j hj => (sameF_iff _ _).2 (hg j hj))
theorem sameN_iff {n m : Nat} {G H : Nat → Fld} : sameN n G m H = true ↔ n = m ∧ ∀ j, j < n → G j = H j := by
  unfold sameN
  rw [Bool.and_eq_true, decide_eq_true_eq, allN_iff]
  exact and_congr_right fun _ => forall_congr' fun j => forall_congr' fun _ => sameF_iff _ _
theorem Rw.congr {w : World} {p : Option Addr} {n : Nat} {G H : Nat → Fld} (h : Rw w p n G) (hg : ∀ j, j < n → G j = H j) : Rw w p n H := fun j hj => by
  obtain ⟨b, o, e, hl, r⟩ := h j hj
  exact ⟨b, o, e, hl, by rw [← hg j hj]; exact r⟩
/-- The law's two rows. -/
structure TT (w0 W : World) (a b : Nat) : Prop where
  t : Rw W (some ⟨a, 0, none⟩) 2 tG
  p : Rw W (some ⟨b, 0, none⟩) 2 pG
  bel : Below w0.heap.size w0 W
theorem TT.below {w0 W W' : World} {a b : Nat} (h : TT w0 W a b) (hb : Below W.heap.size W W') : TT w0 W' a b := ⟨h.t.below hb, h.p.below hb, h.bel.trans (hb.mono h.bel.size)⟩
theorem putF_bytes (f : Fld) : Bytes (putF f) := by
  unfold putF
  refine app_bytes (beN_bytes _ _) ?_
  split
  · exact beN_bytes _ _
  · split
    · exact app_bytes (beN_bytes _ _) (bs_bytes _)
    · exact nil_bytes
theorem catF_bytes (G : Nat → Fld) : ∀ n, Bytes (catF G n)
  | 0 => nil_bytes
  | n + 1 => app_bytes (catF_bytes G n) (putF_bytes _)
theorem putN_bytes (n : Nat) (G : Nat → Fld) : Bytes (putN n G) := app_bytes (beN_bytes _ _) (catF_bytes G n)
end Go.Proofs.YtigbnjgmdgkgjaaDoor
