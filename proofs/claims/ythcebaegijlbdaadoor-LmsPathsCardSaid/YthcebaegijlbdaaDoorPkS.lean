/-
  pack: the Writer's contracts for a stack of blocks; Same.
-/
import Derived.Test.YthcebaegijlbdaaDoorPkE
import Derived.Test.YthcebaegijlbdaaDoorStr
import Derived.Lib.SlBytesConst
namespace Go.Proofs.YthcebaegijlbdaaDoor
open Go Go.RowKit Sh

theorem Wr.new {w : World} : Wr (w.alloc (.cells #[.pointer none, .int .i64 0] 68)) (fun k => w.heap.size ≤ k) w.heap.size [] := ⟨Nat.le_refl _, .inl ⟨Blk.new w _ [.pointer none, .int .i64 0], rfl⟩⟩
section
variable {w0 w : World} {B g : Nat} {l : List Nat}
theorem Wr.mid (x : Wr w0 (fun k => B ≤ k) g l) (hb : Below w0.heap.size w0 w) : Wr w (fun k => B ≤ k ∧ k < w0.heap.size) g l := x.there.below hb
theorem more_up {w' : World} (h : B ≤ w.heap.size) {k : Nat} (hk : More w w' (fun k => B ≤ k ∧ k < w0.heap.size) k) : B ≤ k := by
  rcases hk with e | e
  · exact e.1
  · omega
theorem num_s (v n : Nat) (x : Wr w0 (fun k => B ≤ k) g l) (hb : Below w0.heap.size w0 w) (hB : B ≤ w0.heap.size) (hv : v < 18446744073709551616) (h1 : 1 ≤ n) (h2 : n ≤ 8) (hl : l.length + n ≤ 70368744177664) :
    Calls Tryd.prog 29 #[.pointer (some ⟨g, 0, none⟩), .int .u64 v, .int .i64 n] w fun e w' => e = .returned (.tuple #[]) ∧ Wr w' (fun k => B ≤ k) g (l ++ beN v n) ∧ Below B w w' := by
  have hB2 : B ≤ w.heap.size := Nat.le_trans hB hb.size
  refine (num_t _ g l v n w (x.mid hb) hv h1 h2 hl).mono ?_
  rintro e w' ⟨rfl, y, k⟩
  exact ⟨rfl, y.mono fun _ => more_up hB2, (k.mono fun _ e => e.1).to_below hB2⟩
theorem raw_s (xs : List Nat) (p : Option Addr) (n c : Nat) (x : Wr w0 (fun k => B ≤ k) g l) (hb : Below w0.heap.size w0 w) (hB : B ≤ w0.heap.size) (hn : xs.length = n) (hp : Sr w p xs) (hl : l.length + n ≤ 70368744177664) :
    Calls Tryd.prog 30 #[.pointer (some ⟨g, 0, none⟩), .slice p n c] w fun e w' => e = .returned (.tuple #[]) ∧ Wr w' (fun k => B ≤ k) g (l ++ xs) ∧ Below B w w' := by
  have hB2 : B ≤ w.heap.size := Nat.le_trans hB hb.size
  refine (raw_t _ g l xs p n c w (x.mid hb) hn hp hl).mono ?_
  rintro e w' ⟨rfl, y, k⟩
  exact ⟨rfl, y.mono fun _ => more_up hB2, (k.mono fun _ e => e.1).to_below hB2⟩
end
theorem Sr.conv {w : World} {A : Option Addr} {xs : List Nat} {n : Nat} (h : Sr w A xs) (hn : xs.length = n) (c : Nat) : (convert 27 9 (.slice A n c)).run Tryd.prog w = .ok (.string (str xs)) w :=
  conv_bytes w 27 5 9 Tryd.underlying27 Tryd.underlying5 Tryd.underlying9 A n c xs hn fun hx => by obtain ⟨b, o, e, _, h2⟩ := h hx; exact ⟨b, o, e, h2⟩
theorem same_t (A B : Option Addr) (n m c d : Nat) (xs : List Nat) (w : World) (hx : Sr w A xs) (hy : Sr w B xs) (hn : xs.length = n) (hm : xs.length = m) :
    Calls Tryd.prog 12 #[.slice A n c, .slice B m d] w fun e w' => e = .returned (.bool true) ∧ w = w' := by
  have h1 := hx.conv hn c
  have h2 := hy.conv hm d
  have h3 : ((str xs).toList == (str xs).toList) = true := beq_self_eq_true _
  clear hx hy hn hm
  go_enter Tryd.func12, Tryd.ntmps12
  go_wp2
  go_ret
  exact ⟨rfl, rfl⟩
end Go.Proofs.YthcebaegijlbdaaDoor
