/-
  Bounds of SHA-256's plain functions; how the model's integer operations on words come to them.
  THE WALKS of package sha's small functions: turn and the four sigmas come to the plain functions of Pure.
  A Digest's three parts stand for a text: taking more bytes, and what finish makes of them, in plain terms.
-/
import Derived.Test.YtphgognhjdbdjaaDoorPurek
import Derived.Test.YtphgognhjdbdjaaDoorProg
import Derived.Test.YtphgognhjdbdjaaDoorBaseMk
import Derived.WalkKit
import Derived.WalkSpells
import Derived.WalkLawsBesides
import Derived.BigRegion
import Derived.Outline
import Derived.StillTailTactics
import Derived.Deep.MidRow
import Derived.Lib.Hide
import Derived.Deep.QuietTactic
import Derived.BigQuiet
import Derived.Deep.DeepCutAuto
import Derived.Deep.RegionWith
import Derived.Deep.WholeRow
import Derived.Laws.BytesArg
namespace Go.Proofs.YtphgognhjdbdjaaDoor.Sh
open Go

theorem h0_ok : h0.ok := by unfold S8.ok; decide
end Go.Proofs.YtphgognhjdbdjaaDoor.Sh
namespace Go.Proofs.YtphgognhjdbdjaaDoor
open Go.RowKit
end Go.Proofs.YtphgognhjdbdjaaDoor
namespace Go.Proofs.YtphgognhjdbdjaaDoor
open Go.RowKit

open Sh
end Go.Proofs.YtphgognhjdbdjaaDoor
namespace Go.Proofs.YtphgognhjdbdjaaDoor
open Go.RowKit Sh

end Go.Proofs.YtphgognhjdbdjaaDoor
namespace Go.Proofs.YtphgognhjdbdjaaDoor
open Go.RowKit Sh

/-- The cells of a Digest: its state, the bytes that fill no block yet, how many were written. -/
def D (s : S8) (r : List Nat) (n : Nat) : List Value := u32s s.list ++ (u8s r ++ [.int .u64 (n : Int)])
end Go.Proofs.YtphgognhjdbdjaaDoor
namespace Go.Proofs.YtphgognhjdbdjaaDoor
open Go.RowKit Sh
/-- The last block but for its length: what is left, the one bit, zeros. -/
def finA (r : List Nat) (k : Nat) : List Nat := (r.set k 128).take (k + 1) ++ List.replicate (63 - k) 0
def finB (s : S8) (r : List Nat) (k : Nat) : S8 × List Nat := if 56 ≤ k then (cmp s (sched (finA r k) 0), List.replicate 64 0) else (s, finA r k)
def finC (r : List Nat) (n i : Nat) : List Nat := r.take 56 ++ ((len8 (8 * n)).take i ++ r.drop (56 + i))
def finD (s : S8) (r : List Nat) (n : Nat) : S8 × List Nat := finB (if n = 0 then h0 else s) r (n % 64)
def fin (s : S8) (r : List Nat) (n : Nat) : S8 := cmp (finD s r n).1 (sched (finC (finD s r n).2 n 8) 0)
theorem bytes_mem {l : List Nat} : Bytes l ↔ ∀ x ∈ l, x < 256 := by
  constructor
  · intro h x hx
    obtain ⟨i, hi, rfl⟩ := List.mem_iff_getElem.1 hx
    have := h i
    rwa [gt_of_lt hi] at this
  · intro h i
    rcases Nat.lt_or_ge i l.length with hi | hi
    · rw [gt_of_lt hi]; exact h _ (List.getElem_mem hi)
    · rw [gt_out hi]; decide
theorem zeros_bytes (n : Nat) : Bytes (List.replicate n 0) := by
  rw [bytes_mem]; intro x hx; rw [List.eq_of_mem_replicate hx]; decide
end Go.Proofs.YtphgognhjdbdjaaDoor
namespace Go.Proofs.YtphgognhjdbdjaaDoor
open Sh

theorem first_congr {l l' : List Nat} {a a' : Nat} : ∀ n, (∀ j, j < 4 * n → gt l (a + j) = gt l' (a' + j)) → first l a n = first l' a' n
  | 0, _ => rfl
  | n + 1, h => by
    have e : word l a n = word l' a' n := by
      unfold word
      rw [show a + 4 * n + 1 = a + (4 * n + 1) from rfl, show a + 4 * n + 2 = a + (4 * n + 2) from rfl, show a + 4 * n + 3 = a + (4 * n + 3) from rfl,
        show a' + 4 * n + 1 = a' + (4 * n + 1) from rfl, show a' + 4 * n + 2 = a' + (4 * n + 2) from rfl, show a' + 4 * n + 3 = a' + (4 * n + 3) from rfl,
        h (4 * n) (by omega), h (4 * n + 1) (by omega), h (4 * n + 2) (by omega), h (4 * n + 3) (by omega)]
    unfold first
    rw [first_congr n (fun j hj => h j (by omega)), e]
theorem sched_congr {l l' : List Nat} {a a' : Nat} (h : ∀ j, j < 64 → gt l (a + j) = gt l' (a' + j)) : sched l a = sched l' a' := by
  unfold sched; rw [first_congr 16 (fun j hj => h j (by omega))]
theorem run_congr {l l' : List Nat} : ∀ n, (∀ j, j < 64 * n → gt l j = gt l' j) → run l n = run l' n
  | 0, _ => rfl
  | n + 1, h => by
    unfold run
    rw [run_congr n (fun j hj => h j (by omega)), sched_congr (fun j hj => h (64 * n + j) (by omega))]

/-- s, r stand for the text l: the state behind its whole blocks, and the bytes behind them. -/
structure Rep (s : S8) (r l : List Nat) : Prop where
  ok : s.ok
  state : s = run l (l.length / 64)
  len : r.length = 64
  bytes : Bytes r
  rest : ∀ j, j < l.length % 64 → gt r j = gt l (64 * (l.length / 64) + j)
theorem Rep.nil {r : List Nat} (hr : r.length = 64) (hb : Bytes r) : Rep h0 r [] := ⟨h0_ok, rfl, hr, hb, fun j hj => absurd hj (by simp)⟩

/-- What a copy of ys into r at k leaves. -/
def put (r : List Nat) (k : Nat) (ys : List Nat) : List Nat := r.take k ++ (ys ++ r.drop (k + ys.length))
theorem put_length {r ys : List Nat} {k : Nat} (hr : r.length = 64) (h : k + ys.length ≤ 64) : (put r k ys).length = 64 := by simp [put, hr]; omega
theorem put_front {r ys : List Nat} {k j : Nat} (hk : k ≤ r.length) (hj : j < k) : gt (put r k ys) j = gt r j := by
  unfold put
  rw [gt_app_left (by simp; omega)]
  simp [gt, List.getD_eq_getElem?_getD, hj]
theorem put_mid {r ys : List Nat} {k j : Nat} (hk : k ≤ r.length) (hj : j < ys.length) : gt (put r k ys) (k + j) = gt ys j := by
  unfold put
  rw [gt_app_right (by simp; omega), gt_app_left (by simp; omega)]
  congr 1; simp; omega
theorem put_bytes {r ys : List Nat} {k : Nat} (hr : Bytes r) (hy : Bytes ys) : Bytes (put r k ys) := by
  rw [bytes_mem] at *
  intro x hx
  rcases List.mem_append.1 hx with h | h
  · exact hr x (List.mem_of_mem_take h)
  · rcases List.mem_append.1 h with h | h
    · exact hy x h
    · exact hr x (List.mem_of_mem_drop h)
theorem Rep.more {s : S8} {r l ys : List Nat} (h : Rep s r l) (hy : Bytes ys) (hlt : l.length % 64 + ys.length < 64) : Rep s (put r (l.length % 64) ys) (l ++ ys) := by
  have e : (l ++ ys).length / 64 = l.length / 64 := by rw [List.length_append]; omega
  have e2 : (l ++ ys).length % 64 = l.length % 64 + ys.length := by rw [List.length_append]; omega
  refine ⟨h.ok, ?_, put_length h.len (by omega), put_bytes h.bytes hy, ?_⟩
  · rw [e, h.state]
    exact run_congr _ (fun j hj => (gt_app_left (by omega)).symm)
  · intro j hj
    rw [e2] at hj
    rw [e]
    have hl := h.len
    rcases Nat.lt_or_ge j (l.length % 64) with hj2 | hj2
    · rw [put_front (by omega) hj2, h.rest j hj2, gt_app_left (by omega)]
    · obtain ⟨i, rfl⟩ : ∃ i, j = l.length % 64 + i := ⟨j - l.length % 64, by omega⟩
      rw [put_mid (by omega) (by omega), gt_app_right (by omega)]
      congr 1; omega
end Go.Proofs.YtphgognhjdbdjaaDoor
namespace Go.Proofs.YtphgognhjdbdjaaDoor
open Go.RowKit Sh

/-- The slice with the address p reads as the bytes xs, which lie below block B and not in block g. -/
def Sl (w : World) (B g : Nat) (p : Option Addr) (xs : List Nat) : Prop := 0 < xs.length → ∃ b o, p = some ⟨b, o, none⟩ ∧ b < B ∧ b ≠ g ∧ BytesAt w b o xs
theorem Sl.but {w w' : World} {B g : Nat} {p : Option Addr} {xs : List Nat} (h : Sl w B g p xs) (hb : But B g w w') : Sl w' B g p xs := fun hx => by
  obtain ⟨b, o, e, h1, h2, h3⟩ := h hx
  exact ⟨b, o, e, h1, h2, h3.but hb h1 h2⟩
theorem gt_drop (l : List Nat) (n j : Nat) : gt (l.drop n) j = gt l (n + j) := by simp [gt, List.getD_eq_getElem?_getD]
theorem Sl.drop {w : World} {B g : Nat} {p p2 : Option Addr} {xs : List Nat} {n : Nat} (h : Sl w B g p xs) (h2 : n < xs.length → ∀ g off, p = some ⟨g, off, none⟩ → p2 = some ⟨g, off + n, none⟩) : Sl w B g p2 (xs.drop n) := fun hx => by
  have hx' : n < xs.length := by rw [List.length_drop] at hx; omega
  obtain ⟨b, o, e, h1, h3, h4⟩ := h (by omega)
  refine ⟨b, o + n, h2 hx' _ _ e, h1, h3, fun j hj => ?_⟩
  rw [List.length_drop] at hj
  rw [gt_drop, Nat.add_assoc]
  exact h4 (n + j) (by omega)
def sLen : Value → Nat | .slice _ n _ => n | _ => 0
/-- A Digest that has taken l: its state may be anything as long as l is empty. -/
structure Dig (w : World) (g : Nat) (l : List Nat) (s : S8) (r : List Nat) : Prop where
  blk : Blk w g 109 (D s r l.length)
  ok : s.ok
  len : r.length = 64
  bytes : Bytes r
  rep : l ≠ [] → Rep s r l
theorem Dig.begun {w : World} {g : Nat} {l : List Nat} {s : S8} {r : List Nat} (h : Dig w g l s r) : Rep (if l.length = 0 then h0 else s) r l := by
  by_cases hl : l = []
  · subst hl; exact Rep.nil h.len h.bytes
  · rw [if_neg (fun e => hl (List.eq_nil_of_length_eq_zero e))]; exact h.rep hl
end Go.Proofs.YtphgognhjdbdjaaDoor
namespace Go.Proofs.YtphgognhjdbdjaaDoor
open Go.RowKit Sh

def z0 : S8 := ⟨0, 0, 0, 0, 0, 0, 0, 0⟩
theorem z0_ok : z0.ok := by unfold S8.ok; decide
/-- The cells of a Digest that New makes. -/
def DZ : List Value := D z0 (List.replicate 64 0) 0
theorem Dig.zero {w : World} {g : Nat} (h : Blk w g 109 DZ) : Dig w g [] z0 (List.replicate 64 0) := ⟨h, z0_ok, List.length_replicate, zeros_bytes 64, fun e => absurd rfl e⟩
theorem Dig.below {w w' : World} {B g : Nat} {l : List Nat} {s : S8} {r : List Nat} (h : Dig w g l s r) (hb : Below B w w') (hg : g < B) : Dig w' g l s r := ⟨h.blk.below hb hg, h.ok, h.len, h.bytes, h.rep⟩
end Go.Proofs.YtphgognhjdbdjaaDoor
namespace Go.Proofs.YtphgognhjdbdjaaDoor
open Go.RowKit Sh

theorem Sl.none {w : World} {B g : Nat} : Sl w B g .none [] := fun h => absurd h (by simp)
/-! The digits. -/
def digits : ByteArray := { data := #[48, 49, 50, 51, 52, 53, 54, 55, 56, 57, 97, 98, 99, 100, 101, 102] }
end Go.Proofs.YtphgognhjdbdjaaDoor
