/-
  pack: the Writer's contracts for a stack of blocks; Same; told.
-/
import Derived.Test.YthgfghphceikbaaPkE
import Derived.Test.YthgfghphceikbaaStr
import Derived.Lib.SlBytesConst
namespace Go.Proofs.Ythgfghphceikbaa
open Go Go.RowKit Sh

theorem Wr.new {w : World} : Wr (w.alloc (.cells #[.pointer none, .int .i64 0] 26)) (fun k => w.heap.size ≤ k) w.heap.size [] := ⟨Nat.le_refl _, .inl ⟨Blk.new w _ [.pointer none, .int .i64 0], rfl⟩⟩
section
variable {w0 w : World} {B g : Nat} {l : List Nat}
theorem Wr.mid (x : Wr w0 (fun k => B ≤ k) g l) (hb : Below w0.heap.size w0 w) : Wr w (fun k => B ≤ k ∧ k < w0.heap.size) g l := x.there.below hb
theorem more_up {w' : World} (h : B ≤ w.heap.size) {k : Nat} (hk : More w w' (fun k => B ≤ k ∧ k < w0.heap.size) k) : B ≤ k := by
  rcases hk with e | e
  · exact e.1
  · omega
theorem num_s (v n : Nat) (x : Wr w0 (fun k => B ≤ k) g l) (hb : Below w0.heap.size w0 w) (hB : B ≤ w0.heap.size) (hv : v < 18446744073709551616) (h1 : 1 ≤ n) (h2 : n ≤ 8) (hl : l.length + n ≤ 70368744177664) :
    Calls Try.prog 15 #[.pointer (some ⟨g, 0, none⟩), .int .u64 v, .int .i64 n] w fun e w' => e = .returned (.tuple #[]) ∧ Wr w' (fun k => B ≤ k) g (l ++ beN v n) ∧ Below B w w' := by
  have hB2 : B ≤ w.heap.size := Nat.le_trans hB hb.size
  refine (num_t _ g l v n w (x.mid hb) hv h1 h2 hl).mono ?_
  rintro e w' ⟨rfl, y, k⟩
  exact ⟨rfl, y.mono fun _ => more_up hB2, (k.mono fun _ e => e.1).to_below hB2⟩
theorem raw_s (xs : List Nat) (p : Option Addr) (n c : Nat) (x : Wr w0 (fun k => B ≤ k) g l) (hb : Below w0.heap.size w0 w) (hB : B ≤ w0.heap.size) (hn : xs.length = n) (hp : Sr w p xs) (hl : l.length + n ≤ 70368744177664) :
    Calls Try.prog 16 #[.pointer (some ⟨g, 0, none⟩), .slice p n c] w fun e w' => e = .returned (.tuple #[]) ∧ Wr w' (fun k => B ≤ k) g (l ++ xs) ∧ Below B w w' := by
  have hB2 : B ≤ w.heap.size := Nat.le_trans hB hb.size
  refine (raw_t _ g l xs p n c w (x.mid hb) hn hp hl).mono ?_
  rintro e w' ⟨rfl, y, k⟩
  exact ⟨rfl, y.mono fun _ => more_up hB2, (k.mono fun _ e => e.1).to_below hB2⟩
theorem text_s (xs : List Nat) (p : Option Addr) (n c : Nat) (x : Wr w0 (fun k => B ≤ k) g l) (hb : Below w0.heap.size w0 w) (hB : B ≤ w0.heap.size) (hn : xs.length = n) (hp : Sr w p xs) (hpF : 0 < xs.length → ∀ a : Addr, p = some a → a.block < B ∨ w0.heap.size ≤ a.block) (hl : l.length + (n + 4) ≤ 70368744177664) :
    Calls Try.prog 7 #[.pointer (some ⟨g, 0, none⟩), .slice p n c] w fun e w' => e = .returned (.tuple #[]) ∧ Wr w' (fun k => B ≤ k) g (l ++ txtN xs) ∧ Below B w w' := by
  have hB2 : B ≤ w.heap.size := Nat.le_trans hB hb.size
  refine (text_t _ g l xs p n c w (x.mid hb) hn hp (fun hx a ha hf => by have := hpF hx a ha; omega) hl).mono ?_
  rintro e w' ⟨rfl, y, k⟩
  exact ⟨rfl, y.mono fun _ => more_up hB2, (k.mono fun _ e => e.1).to_below hB2⟩
end
/-- Bytes that a literal laid. -/
theorem Sr.made (xs : List Nat) (w : World) (e : TypeId) (fr : Nat × Nat) : Sr (w.alloc (.cells (u8s xs).toArray e fr)) (some ⟨w.heap.size, 0, none⟩) xs := fun _ =>
  ⟨w.heap.size, 0, rfl, by simp, fun j hj => by rw [Nat.zero_add, cell_of_row _ _ j _ e fr (heap_alloc_new w _)]; simpa using u8s_get _ _ hj⟩
theorem Sr.conv {w : World} {A : Option Addr} {xs : List Nat} {n : Nat} (h : Sr w A xs) (hn : xs.length = n) (c : Nat) : (convert 27 9 (.slice A n c)).run Try.prog w = .ok (.string (str xs)) w :=
  conv_bytes w 27 5 9 Try.underlying27 Try.underlying5 Try.underlying9 A n c xs hn fun hx => by obtain ⟨b, o, e, _, h2⟩ := h hx; exact ⟨b, o, e, h2⟩
theorem same_t (A B : Option Addr) (n m c d : Nat) (xs : List Nat) (w : World) (hx : Sr w A xs) (hy : Sr w B xs) (hn : xs.length = n) (hm : xs.length = m) :
    Calls Try.prog 11 #[.slice A n c, .slice B m d] w fun e w' => e = .returned (.bool true) ∧ w = w' := by
  have h1 := hx.conv hn c
  have h2 := hy.conv hm d
  have h3 : ((str xs).toList == (str xs).toList) = true := beq_self_eq_true _
  clear hx hy hn hm
  go_enter Try.func11, Try.ntmps11
  go_wp2
  go_ret
  exact ⟨rfl, rfl⟩
theorem beN_258 : beN 258 2 = [1, 2] := by decide
theorem txtN_a : txtN [97] = [0, 0, 0, 1, 97] := by decide
def sTold : ByteArray := str [1, 2, 0, 0, 0, 1, 97, 9]
theorem sTold_list : (sTold.toList == [1, 2, 0, 0, 0, 1, 97, 9]) = true := by decide +kernel
def sA : ByteArray := str [97]
theorem sA_list : (sA.toList == [97]) = true := by decide +kernel
theorem sl_bytes {l : List Nat} (h : ∀ x ∈ l, x < 256) : Bytes l := fun i => by
  rcases Nat.lt_or_ge i l.length with hi | hi
  · rw [gt_of_lt hi]; exact h _ (List.getElem_mem _)
  · rw [gt_out hi]; decide
set_option maxRecDepth 100000 in
set_option maxHeartbeats 1000000 in
theorem told_t (w : World) : Calls Try.prog 6 #[] w fun e w' => e = .returned (.bool true) ∧ Below w.heap.size w w' := by
  have kc := fun (w : World) (C : Array Value) (n c : Nat) => Lib.run_convert_bytes_const (P := Try.prog) w 27 5 C n c Try.underlying27 Try.underlying5
  go_enter Try.func6, Try.ntmps6
  go_wp2_with fail
  have hz : (w.alloc (.cells #[.pointer none, .int .i64 0] 26)).heap.size = w.heap.size + 1 := by simp
  have hb0 : Below w.heap.size w (w.alloc (.cells #[.pointer none, .int .i64 0] 26)) := (Below.refl _ _).alloc (Nat.le_refl _) _
  refine (num_s (w0 := w.alloc (.cells #[.pointer none, .int .i64 0] 26)) 258 2 Wr.new (Below.refl _ _) (by omega) (by omega) (by omega) (by omega) (by simp)).mono ?_
  rintro e w1 ⟨rfl, x1, b1⟩
  rw [beN_258, List.nil_append] at x1
  have X1 := Lib.hid x1; have B1 := Lib.hid (hb0.trans b1)
  clear x1 b1 hb0 hz
  go_wp2_with fail
  refine (text_s (w0 := w1) [97] (some ⟨w1.heap.size, 0, none⟩) 1 1 X1.out ((Below.refl _ _).alloc (Nat.le_refl _) _) B1.out.size rfl (Sr.made [97] w1 _ _) (fun _ a ha => by cases ha; exact .inr (Nat.le_refl _)) (by decide)).mono ?_
  rintro e w2 ⟨rfl, x2, b2⟩
  rw [txtN_a] at x2
  have X2 := Lib.hid x2; have B2 := Lib.hid (B1.out.trans (((Below.refl _ _).alloc B1.out.size _).trans b2))
  clear x2 b2 X1 B1
  go_wp2_with fail
  refine (raw_s (w0 := w2) [9] (some ⟨w2.heap.size, 0, none⟩) 1 1 X2.out ((Below.refl _ _).alloc (Nat.le_refl _) _) B2.out.size rfl (Sr.made [9] w2 _ _) (by decide)).mono ?_
  rintro e w3 ⟨rfl, x3, b3⟩
  have X3 : Hid (Wr w3 (fun k => w.heap.size ≤ k) w.heap.size [1, 2, 0, 0, 0, 1, 97, 9]) := Lib.hid x3
  have B3 := Lib.hid (B2.out.trans (((Below.refl _ _).alloc B2.out.size _).trans b3))
  clear x3 b3 X2 B2
  go_wp2_with fail
  refine (wbytes_t _ _ _ w3 X3.out (by decide)).mono ?_
  rintro e w4 ⟨v, rfl, o4, b4⟩
  obtain ⟨A, c, rfl, _⟩ := own_form o4
  have s4 : Sr w4 A [1, 2, 0, 0, 0, 1, 97, 9] := Sr.of_own o4
  have S4 := Lib.hid s4
  have B4 := Lib.hid (B3.out.trans (b4.mono B3.out.size))
  clear o4 b4 s4 X3 B3
  rw [show ([1, 2, 0, 0, 0, 1, 97, 9] : List Nat).length = 8 from rfl]
  go_wp2_with fail
  refine (rnew_t [1, 2, 0, 0, 0, 1, 97, 9] A 8 c w4 rfl S4.out (by omega)).mono ?_
  rintro e w5 ⟨g, rfl, hg, x5, b5⟩
  have s5 : (convert 27 9 (.slice A 8 c)).run Try.prog w5 = .ok (.string sTold) w5 := (S4.out.below b5).conv rfl c
  have hg0 : w.heap.size ≤ g := Nat.le_trans B4.out.size hg
  have X5 := Lib.hid x5
  have B5 := Lib.hid (B4.out.trans (b5.mono B4.out.size))
  clear x5 b5 S4 B4 hg
  have q1 := sTold_list
  go_wp2_with fail
  refine (rnum_ok g _ false 2 w5 X5.out (sl_bytes (by decide)) (by omega) (by omega) (by decide) (by decide)).mono ?_
  rintro e w6 ⟨rfl, x6, k6⟩
  rw [show ((val (List.take 2 [1, 2, 0, 0, 0, 1, 97, 9]) : Nat) : Int) = 258 from by decide]
  have X6 : Hid (Rd w6 g [0, 0, 0, 1, 97, 9] false) := Lib.hid x6
  have B6 := Lib.hid (B5.out.trans ((k6.mono (G := fun k => w.heap.size ≤ k) fun k e => by subst e; exact hg0).to_below B5.out.size))
  clear x6 k6 s5 q1 X5 B5
  go_wp2_with fail
  refine (rtext_ok g _ false 1 w6 X6.out (sl_bytes (by decide)) (by omega) (by decide) (by decide) 1 (by decide) (by decide) (by decide)).mono ?_
  rintro e w7 ⟨v, rfl, o7, x7, k7⟩
  obtain ⟨A7, c7, rfl, _⟩ := own_form o7
  have s7 : Sr w7 A7 [97] := Sr.of_own o7
  have s8 : (convert 27 9 (.slice A7 1 c7)).run Try.prog w7 = .ok (.string sA) w7 := s7.conv rfl c7
  have X7 : Hid (Rd w7 g [9] false) := Lib.hid x7
  have B7 := Lib.hid (B6.out.trans ((k7.mono (G := fun k => w.heap.size ≤ k) fun k e => by subst e; exact hg0).to_below B6.out.size))
  clear x7 k7 o7 s7 X6 B6
  have q1 := sA_list
  go_wp2_with fail
  refine (left_t g _ false w7 X7.out).mono ?_
  rintro e w8 ⟨rfl, rfl⟩
  rw [show ((([9] : List Nat).length : Nat) : Int) = 1 from rfl]
  clear s8 q1
  go_wp2_with fail
  refine (raw_ok g _ false 1 w7 X7.out (by decide) (by decide)).mono ?_
  rintro e w8 ⟨v, rfl, o8, x8, k8⟩
  obtain ⟨A8, c8, rfl, _⟩ := own_form o8
  have X8 : Hid (Rd w8 g [] false) := Lib.hid x8
  have B8 := Lib.hid (B7.out.trans ((k8.mono (G := fun k => w.heap.size ≤ k) fun k e => by subst e; exact hg0).to_below B7.out.size))
  clear x8 k8 o8 X7 B7
  go_wp2_with fail
  refine (end_t g _ false w8 X8.out).mono ?_
  rintro e w9 ⟨rfl, rfl⟩
  rw [show ((endN [] false : Nat) : Int) = 0 from by decide]
  go_wp2_with fail
  refine (rnew_t [] none 0 0 w8 rfl Sr.nil (by omega)).mono ?_
  rintro e w9 ⟨g9, rfl, hg9, x9, b9⟩
  have X9 := Lib.hid x9
  have B9 := Lib.hid (B8.out.trans (b9.mono B8.out.size))
  clear x9 b9 X8 B8
  go_wp2_with fail
  refine (end_t g9 _ false w9 X9.out).mono ?_
  rintro e wa ⟨rfl, rfl⟩
  rw [show ((endN [] false : Nat) : Int) = 0 from by decide]
  go_wp2_with fail
  go_ret
  exact ⟨rfl, B9.out⟩
end Go.Proofs.Ythgfghphceikbaa
