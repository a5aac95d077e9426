/-
  PACKAGE key: sync/atomic's Int32; a Signer in memory; New, Reserve, Reserved, Next, Public, Sign.
-/
import Derived.Test.YtkcjiidimmefdaaGreatDoorLmC
import Derived.Test.YtkcjiidimmefdaaGreatDoorLmS
namespace Go.Proofs.YtkcjiidimmefdaaGreatDoor
open Go Go.RowKit Sh

theorem aload (a : Addr) (x : Int) (w : World) (hc : w.cell? a = some (.int .i32 x)) :
    Calls Tryz.prog 31 #[.pointer (some a)] w fun e w' => e = .returned (.int .i32 x) ∧ w' = w := by
  have hl := run_call_load (P := Tryz.prog) Tryz.func53 (by kernel_rfl) (by kernel_rfl) (by kernel_rfl) .i32 (by kernel_rfl) hc
  go_enter Tryz.func31, Tryz.ntmps31
  go_wp2
  go_ret
  exact ⟨rfl, rfl⟩
theorem astore (a : Addr) (x : Value) (y : Int) (w : World) (hc : w.cell? a = some x) (hz : w.frozen? a = false) :
    Calls Tryz.prog 22 #[.pointer (some a), .int .i32 y] w fun e w' => e = .returned (.tuple #[]) ∧ w' = w.setCell a (.int .i32 y) := by
  have hst := run_call_store (P := Tryz.prog) Tryz.func38 (by kernel_rfl) (by kernel_rfl) (by kernel_rfl) (by kernel_rfl) (k := .i32) (y := y) hc hz
  go_enter Tryz.func22, Tryz.ntmps22
  go_wp2
  go_end0
  exact ⟨rfl, rfl⟩
theorem acas (a : Addr) (x y : Int) (w : World) (hc : w.cell? a = some (.int .i32 x)) (hz : w.frozen? a = false) :
    Calls Tryz.prog 44 #[.pointer (some a), .int .i32 x, .int .i32 y] w fun e w' => e = .returned (.bool true) ∧ w' = w.setCell a (.int .i32 y) := by
  have hcas := run_call_cas_hit (P := Tryz.prog) Tryz.func65 (by kernel_rfl) (by kernel_rfl) (by kernel_rfl) .i32 (by kernel_rfl) (y := y) hc hz
  go_enter Tryz.func44, Tryz.ntmps44
  go_wp2
  go_ret
  exact ⟨rfl, rfl⟩
/-- A signer's cells: its tree, the next index, how many are reserved. -/
def sgC (gt n r : Nat) : List Value := [.pointer (some ⟨gt, 0, none⟩), .int .i32 (n : Int), .int .i32 (r : Int)]
/-- A signer that New made. -/
structure KS (w : World) (g gt : Nat) (I seed : List Nat) (v i n r : Nat) : Prop where
  b : Blk w g 60 (sgC gt n r)
  t : Stands w gt I seed v i
  k1 : 1 ≠ g
  k2 : 0 ≠ g
  le : n ≤ r
  top : r ≤ 32
section
variable {w w' : World} {g gt : Nat} {I seed : List Nat} {v i n r : Nat}
theorem KS.below (h : KS w g gt I seed v i n r) (hb : Below w.heap.size w w') : KS w' g gt I seed v i n r :=
  ⟨h.b.below hb h.b.lt, h.t.below hb, h.k1, h.k2, h.le, h.top⟩
theorem KS.ne (h : KS w g gt I seed v i n r) : g ≠ gt := by
  obtain ⟨m, _, t⟩ := h.t.is
  exact h.b.apart t (by decide)
theorem KS.c0 (h : KS w g gt I seed v i n r) : w.cell? ⟨g, 0, none⟩ = some (.pointer (some ⟨gt, 0, none⟩)) := by rw [h.b.cell]; rfl
theorem KS.c1 (h : KS w g gt I seed v i n r) : w.cell? ⟨g, 1, none⟩ = some (.int .i32 (n : Int)) := by rw [h.b.cell]; rfl
theorem KS.c2 (h : KS w g gt I seed v i n r) : w.cell? ⟨g, 2, none⟩ = some (.int .i32 (r : Int)) := by rw [h.b.cell]; rfl
theorem Stands.farS (h : Stands w gt I seed v i) (hg : g ≠ gt) (k : Nat) (u : Value) : Stands (w.setCell ⟨g, k, none⟩ u) gt I seed v i := by
  obtain ⟨m, hm, t⟩ := h.is
  exact ⟨⟨m, hm, (Below.heap_setCell w ⟨g, k, none⟩ u gt (fun e => hg e.symm)).trans t⟩, h.k1, h.k2⟩
theorem KS.setN (h : KS w g gt I seed v i n r) (n' : Nat) (hn : n' ≤ r) : KS (w.setCell ⟨g, 1, none⟩ (.int .i32 (n' : Int))) g gt I seed v i n' r :=
  ⟨h.b.store 1 _, h.t.farS h.ne 1 _, h.k1, h.k2, hn, h.top⟩
theorem KS.setR (h : KS w g gt I seed v i n r) (r' : Nat) (hn : n ≤ r') (ht : r' ≤ 32) : KS (w.setCell ⟨g, 2, none⟩ (.int .i32 (r' : Int))) g gt I seed v i n r' :=
  ⟨h.b.store 2 _, h.t.farS h.ne 2 _, h.k1, h.k2, hn, ht⟩
end
theorem i32_of (n : Nat) (hn : n ≤ 32) : IntKind.i32.wrap (n : Int) = (n : Int) := by
  simp [IntKind.wrap, IntKind.bits, IntKind.signed]; omega
theorem kstands_yes (p : Option Addr) (g : Nat) (w : World) (hc : w.cell? ⟨g, 0, none⟩ = some (.pointer p)) : Calls Tryz.prog 26 #[.pointer (some ⟨g, 0, none⟩)] w fun e w' => e = .returned (.bool p.isSome) ∧ w' = w := by
  rcases p with _ | p
  · go_enter Tryz.func26, Tryz.ntmps26
    go_wp2
    go_ret
    exact ⟨rfl, rfl⟩
  · go_enter Tryz.func26, Tryz.ntmps26
    go_wp2
    go_ret
    exact ⟨rfl, rfl⟩
theorem kstands_nil (w : World) : Calls Tryz.prog 26 #[.pointer none] w fun e w' => e = .returned (.bool false) ∧ w' = w := by
  go_enter Tryz.func26, Tryz.ntmps26
  go_wp2
  go_ret
  exact ⟨rfl, rfl⟩
theorem kReserved_t (I seed : List Nat) (v i n r g gt : Nat) (w : World) (h : KS w g gt I seed v i n r) : Calls Tryz.prog 15 #[.pointer (some ⟨g, 0, none⟩)] w fun e w' => e = .returned (.int .i64 (r : Int)) ∧ w' = w := by
  have ST := Lib.hid (kstands_yes _ g w h.c0)
  have LD := Lib.hid (aload ⟨g, 2, none⟩ _ w h.c2)
  have r1 : (r : Int) ≤ 32 := by have := h.top; omega
  clear h
  go_enter Tryz.func15, Tryz.ntmps15
  go_wp2_with (first
    | (go_at_call 26; refine ST.out.mono ?_; rintro e w' ⟨rfl, rfl⟩)
    | (go_at_call 31; refine LD.out.mono ?_; rintro e w' ⟨rfl, rfl⟩))
  go_ret
  exact ⟨rfl, rfl⟩
theorem kNext_t (I seed : List Nat) (v i n r g gt : Nat) (w : World) (h : KS w g gt I seed v i n r) : Calls Tryz.prog 14 #[.pointer (some ⟨g, 0, none⟩)] w fun e w' => e = .returned (.int .i64 (n : Int)) ∧ w' = w := by
  have ST := Lib.hid (kstands_yes _ g w h.c0)
  have LD := Lib.hid (aload ⟨g, 1, none⟩ _ w h.c1)
  have r1 : (n : Int) ≤ 32 := by have := h.top; have := h.le; omega
  clear h
  go_enter Tryz.func14, Tryz.ntmps14
  go_wp2_with (first
    | (go_at_call 26; refine ST.out.mono ?_; rintro e w' ⟨rfl, rfl⟩)
    | (go_at_call 31; refine LD.out.mono ?_; rintro e w' ⟨rfl, rfl⟩))
  go_ret
  exact ⟨rfl, rfl⟩
theorem kraise_yes (I seed : List Nat) (v i n r g gt m : Nat) (w : World) (h : KS w g gt I seed v i n r) (hm : r ≤ m) (hm2 : m ≤ 32) : Calls Tryz.prog 27 #[.pointer (some ⟨g, 0, none⟩), .int .i64 (m : Int)] w fun e w' => e = .returned (.bool true) ∧ w' = w.setCell ⟨g, 2, none⟩ (.int .i32 (m : Int)) := by
  have LD := Lib.hid (aload ⟨g, 2, none⟩ _ w h.c2)
  have CS := Lib.hid (acas ⟨g, 2, none⟩ (r : Int) (m : Int) w h.c2 (h.b.frozen 2))
  have e1 := i32_of r h.top
  have e2 := i32_of m hm2
  have r1 : (r : Int) ≤ 32 := by have := h.top; omega
  have rm : (r : Int) ≤ (m : Int) := by omega
  clear h hm hm2
  go_enter Tryz.func27, Tryz.ntmps27
  go_wp2_with (go_at_call 31; refine LD.out.mono ?_; rintro e w' ⟨rfl, rfl⟩)
  go_loopw [5] (fun s wr => s = .int .i64 (r : Int) ∧ wr = w') (fun _ _ => 0)
  case atStart => exact ⟨rfl, rfl⟩
  case round =>
    obtain ⟨rfl, rfl⟩ := hrel
    go_wp2_with (go_at_call 44; refine CS.out.mono ?_; rintro e w'' ⟨rfl, rfl⟩)
    go_ret
    exact ⟨rfl, rfl⟩
theorem kraise_no (I seed : List Nat) (v i n r g gt : Nat) (m : Int) (w : World) (h : KS w g gt I seed v i n r) (hm : m < (r : Int)) : Calls Tryz.prog 27 #[.pointer (some ⟨g, 0, none⟩), .int .i64 m] w fun e w' => e = .returned (.bool false) ∧ w' = w := by
  have LD := Lib.hid (aload ⟨g, 2, none⟩ _ w h.c2)
  have r1 : (r : Int) ≤ 32 := by have := h.top; omega
  have rm : ¬ (r : Int) ≤ m := by omega
  clear h hm
  go_enter Tryz.func27, Tryz.ntmps27
  go_wp2_with (go_at_call 31; refine LD.out.mono ?_; rintro e w' ⟨rfl, rfl⟩)
  go_loopw [5] (fun s wr => s = .int .i64 (r : Int) ∧ wr = w') (fun _ _ => 0)
  case atStart => exact ⟨rfl, rfl⟩
  case round =>
    obtain ⟨rfl, rfl⟩ := hrel
    go_wp2_with fail
    go_ret
    exact ⟨rfl, rfl⟩
theorem kReserve_yes (I seed : List Nat) (v i n r g gt m : Nat) (w : World) (h : KS w g gt I seed v i n r) (hm : r ≤ m) (hm2 : m ≤ 32) : Calls Tryz.prog 9 #[.pointer (some ⟨g, 0, none⟩), .int .i64 (m : Int)] w fun e w' => e = .returned (.int .i64 0) ∧ KS w' g gt I seed v i n m ∧ But w.heap.size g w w' := by
  have ST := Lib.hid (kstands_yes _ g w h.c0)
  have RA := Lib.hid (kraise_yes I seed v i n r g gt m w h hm hm2)
  have KE := Lib.hid (h.setR m (Nat.le_trans h.le hm) hm2)
  have m1 : (m : Int) ≤ 32 := by omega
  clear h hm hm2
  go_enter Tryz.func9, Tryz.ntmps9
  go_wp2_with (first
    | (go_at_call 26; refine ST.out.mono ?_; rintro e w' ⟨rfl, rfl⟩)
    | (go_at_call 27; refine RA.out.mono ?_; rintro e w'' ⟨rfl, rfl⟩))
  go_ret
  exact ⟨rfl, KE.out, (But.refl _ _ _).setCell _ _⟩
theorem kReserve_no (I seed : List Nat) (v i n r g gt : Nat) (m : Int) (w : World) (h : KS w g gt I seed v i n r) (hm : m < (r : Int) ∨ 32 < m) : Calls Tryz.prog 9 #[.pointer (some ⟨g, 0, none⟩), .int .i64 m] w fun e w' => e = .returned (.int .i64 1) ∧ w' = w := by
  have ST := Lib.hid (kstands_yes _ g w h.c0)
  by_cases hb : 32 < m
  · clear h hm
    go_enter Tryz.func9, Tryz.ntmps9
    go_wp2_with (go_at_call 26; refine ST.out.mono ?_; rintro e w' ⟨rfl, rfl⟩)
    go_ret
    exact ⟨rfl, rfl⟩
  · have RA := Lib.hid (kraise_no I seed v i n r g gt m w h (by omega))
    have m1 : m ≤ 32 := by omega
    clear h hm hb
    go_enter Tryz.func9, Tryz.ntmps9
    go_wp2_with (first
      | (go_at_call 26; refine ST.out.mono ?_; rintro e w' ⟨rfl, rfl⟩)
      | (go_at_call 27; refine RA.out.mono ?_; rintro e w'' ⟨rfl, rfl⟩))
    go_ret
    exact ⟨rfl, rfl⟩
theorem ktake_yes (I seed : List Nat) (v i n r g gt : Nat) (w : World) (h : KS w g gt I seed v i n r) (hn : n < r) : Calls Tryz.prog 28 #[.pointer (some ⟨g, 0, none⟩)] w fun e w' => e = .returned (.tuple #[.int .i64 (n : Int), .int .i64 0]) ∧ w' = w.setCell ⟨g, 1, none⟩ (.int .i32 ((n + 1 : Nat) : Int)) := by
  have L1 := Lib.hid (aload ⟨g, 1, none⟩ _ w h.c1)
  have L2 := Lib.hid (aload ⟨g, 2, none⟩ _ w h.c2)
  have CS := Lib.hid (acas ⟨g, 1, none⟩ (n : Int) ((n + 1 : Nat) : Int) w h.c1 (h.b.frozen 1))
  have e0 := i32_of (n + 1) (by have := h.top; omega)
  have e2 : IntKind.i32.wrap ((n : Int) + 1) = ((n + 1 : Nat) : Int) := by rw [← e0]; rfl
  have r1 : (r : Int) ≤ 32 := by have := h.top; omega
  have rm : (n : Int) < (r : Int) := by omega
  clear h hn e0
  go_enter Tryz.func28, Tryz.ntmps28
  go_wp2_with (go_at_call 31; refine L1.out.mono ?_; rintro e w' ⟨rfl, rfl⟩)
  go_loopw [4] (fun s wr => s = .int .i32 (n : Int) ∧ wr = w') (fun _ _ => 0)
  case atStart => exact ⟨rfl, rfl⟩
  case round =>
    obtain ⟨rfl, rfl⟩ := hrel
    go_wp2_with (first
      | (go_at_call 31; refine L2.out.mono ?_; rintro e w' ⟨rfl, rfl⟩)
      | (go_at_call 44; refine CS.out.mono ?_; rintro e w'' ⟨rfl, rfl⟩))
    go_ret2
    exact ⟨rfl, rfl⟩
def noSign (n : Nat) : Nat := if n = 32 then 4 else 6
theorem ktake_no (I seed : List Nat) (v i n g gt : Nat) (w : World) (h : KS w g gt I seed v i n n) : Calls Tryz.prog 28 #[.pointer (some ⟨g, 0, none⟩)] w fun e w' => e = .returned (.tuple #[.int .i64 0, .int .i64 ((noSign n : Nat) : Int)]) ∧ w' = w := by
  have L1 := Lib.hid (aload ⟨g, 1, none⟩ _ w h.c1)
  have L2 := Lib.hid (aload ⟨g, 2, none⟩ _ w h.c2)
  by_cases hn : n = 32
  · subst hn
    clear h
    go_enter Tryz.func28, Tryz.ntmps28
    go_wp2_with (go_at_call 31; refine L1.out.mono ?_; rintro e w' ⟨rfl, rfl⟩)
    go_loopw [4] (fun s wr => s = .int .i32 ((32 : Nat) : Int) ∧ wr = w') (fun _ _ => 0)
    case atStart => exact ⟨rfl, rfl⟩
    case round =>
      obtain ⟨rfl, rfl⟩ := hrel
      go_wp2_with (go_at_call 31; refine L2.out.mono ?_; rintro e w' ⟨rfl, rfl⟩)
      go_ret2
      exact ⟨rfl, rfl⟩
  · have t0 : ((n : Int) == 32) = false := by rw [beq_eq_false_iff_ne]; omega
    have HE := Lib.hid (show noSign n = 6 by unfold noSign; rw [if_neg hn])
    clear h hn
    go_enter Tryz.func28, Tryz.ntmps28
    go_wp2_with (go_at_call 31; refine L1.out.mono ?_; rintro e w' ⟨rfl, rfl⟩)
    go_loopw [4] (fun s wr => s = .int .i32 (n : Int) ∧ wr = w') (fun _ _ => 0)
    case atStart => exact ⟨rfl, rfl⟩
    case round =>
      obtain ⟨rfl, rfl⟩ := hrel
      go_wp2_with (go_at_call 31; refine L2.out.mono ?_; rintro e w' ⟨rfl, rfl⟩)
      go_ret2
      exact ⟨by rw [HE.out]; rfl, rfl⟩
theorem i32_i64 (n : Nat) (hn : n ≤ 32) : IntKind.i64.wrap (n : Int) = (n : Int) := by
  simp [IntKind.wrap, IntKind.bits, IntKind.signed]; omega
theorem But.keptTwo {g gt : Nat} {w w1 w' : World} (h : But w.heap.size g w w1) (k : But w1.heap.size gt w1 w') : Kept (fun q => q = g ∨ q = gt) w w' :=
  ⟨k.os.trans h.os, k.tape.trans h.tape, k.output.trans h.output, Nat.le_trans h.size k.size, fun b hb hf => (k.block b (Nat.lt_of_lt_of_le hb h.size) (fun e => hf (.inr e))).trans (h.block b hb (fun e => hf (.inl e)))⟩
theorem KS.moveT {I seed : List Nat} {v i n r g gt : Nat} {w w' : World} (h : KS w g gt I seed v i n r) (hs : Stands w' gt I seed v i) (hb : But w.heap.size gt w w') : KS w' g gt I seed v i n r :=
  ⟨h.b.but hb h.b.lt h.ne, hs, h.k1, h.k2, h.le, h.top⟩
set_option maxHeartbeats 1000000 in
theorem kSign_yes (I seed xs : List Nat) (v i n r g gt : Nat) (P : Option Addr) (m cc : Nat) (w : World) (hI : I.length = 16) (hIb : Bytes I) (hs : seed.length = 32) (hsb : Bytes seed) (hi : i < 4) (hv : v = (kd i).w) (hx : xs.length = m) (hp : Sr (w.setCell ⟨g, 1, none⟩ (.int .i32 ((n + 1 : Nat) : Int))) P xs) (hxb : Bytes xs) (hcc : m ≤ cc) (hml : m ≤ 70368744177664) (h : KS w g gt I seed v i n r) (hn : n < r) (hk : KAt w) (hki : KI w) :
    Calls Tryz.prog 11 #[.pointer (some ⟨g, 0, none⟩), .slice P m cc] w fun e w' => ∃ u, e = .returned (.tuple #[u, .int .i64 0]) ∧ w'.ownsRow w.heap.size 5 1 u (204 + 32 * (kd i).p) (u8s (lsigN I seed i n xs)) ∧ KS w' g gt I seed v i (n + 1) r ∧ Kept (fun q => q = g ∨ q = gt) w w' := by
  have ST := Lib.hid (kstands_yes _ g w h.c0)
  have TA := Lib.hid (ktake_yes I seed v i n r g gt w h hn)
  have K1 := Lib.hid (h.setN (n + 1) hn)
  have B1 := Lib.hid ((But.refl w.heap.size g w).setCell 1 (.int .i32 ((n + 1 : Nat) : Int)))
  have SZ := Lib.hid (show (w.setCell ⟨g, 1, none⟩ (.int .i32 ((n + 1 : Nat) : Int))).heap.size = w.heap.size by simp)
  have SG := Lib.hid (tree_sign_t I seed xs v i gt n P m cc (w.setCell ⟨g, 1, none⟩ (.int .i32 ((n + 1 : Nat) : Int))) hI hIb hs hsb hi hv (by have := h.top; omega) hx hp hxb hcc hml K1.out.t (kat_but hk B1.out h.k1) (ki_but hki B1.out h.k2))
  obtain ⟨W, hW⟩ : ∃ x, w.setCell ⟨g, 1, none⟩ (.int .i32 ((n + 1 : Nat) : Int)) = x := ⟨_, rfl⟩
  rw [hW] at TA K1 B1 SZ SG
  have c0 := K1.out.c0
  clear hI hIb hs hsb hi hv hx hp hxb hcc hml h hn hk hki hW
  go_enter Tryz.func11, Tryz.ntmps11
  go_wp2_with (first
    | (go_at_call 26; refine ST.out.mono ?_; rintro e w' ⟨rfl, rfl⟩)
    | (go_at_call 28; refine TA.out.mono ?_; rintro e w'' ⟨rfl, rfl⟩))
  refine SG.out.mono ?_
  rintro e w2 ⟨u, rfl, o2, st2, b2⟩
  have K2 := Lib.hid (K1.out.moveT st2 b2); have O2 := Lib.hid o2; have B2 := Lib.hid (B1.out.keptTwo b2)
  clear st2 b2 o2 K1 B1 SG
  go_wp2_with fail
  go_ret2
  exact ⟨u, rfl, by rw [← SZ.out]; exact O2.out, K2.out, B2.out⟩
theorem kSign_no (I seed : List Nat) (v i n g gt : Nat) (V : Value) (w : World) (h : KS w g gt I seed v i n n) :
    Calls Tryz.prog 11 #[.pointer (some ⟨g, 0, none⟩), V] w fun e w' => e = .returned (.tuple #[.slice none 0 0, .int .i64 ((noSign n : Nat) : Int)]) ∧ w' = w := by
  have ST := Lib.hid (kstands_yes _ g w h.c0)
  have TA := Lib.hid (ktake_no I seed v i n g gt w h)
  have t0 : (((noSign n : Nat) : Int) != 0) = true := by rw [bne_iff_ne]; unfold noSign; split <;> decide
  obtain ⟨E, hE⟩ : ∃ x, noSign n = x := ⟨_, rfl⟩
  rw [hE] at TA t0 ⊢
  clear h hE
  go_enter Tryz.func11, Tryz.ntmps11
  go_wp2_with (first
    | (go_at_call 26; refine ST.out.mono ?_; rintro e w' ⟨rfl, rfl⟩)
    | (go_at_call 28; refine TA.out.mono ?_; rintro e w'' ⟨rfl, rfl⟩))
  go_ret2
  exact ⟨rfl, rfl⟩
set_option maxHeartbeats 1000000 in
theorem kPublic_t (I seed : List Nat) (v i n r g gt : Nat) (w : World) (hI : I.length = 16) (hIb : Bytes I) (hs : seed.length = 32) (hsb : Bytes seed) (hi : i < 4) (hv : v = (kd i).w) (h : KS w g gt I seed v i n r) (hk : KAt w) (hki : KI w) :
    Calls Tryz.prog 16 #[.pointer (some ⟨g, 0, none⟩)] w fun e w' => ∃ u, e = .returned u ∧ w'.ownsRow w.heap.size 5 1 u 56 (u8s (lpubN I seed i)) ∧ KS w' g gt I seed v i n r ∧ But w.heap.size gt w w' := by
  have ST := Lib.hid (kstands_yes _ g w h.c0)
  have PB := Lib.hid (tree_pub_t I seed v i gt w hI hIb hs hsb hi hv h.t hk hki)
  have K0 := Lib.hid h
  have c0 := h.c0
  clear hI hIb hs hsb hi hv h hk hki
  go_enter Tryz.func16, Tryz.ntmps16
  go_wp2_with (go_at_call 26; refine ST.out.mono ?_; rintro e w' ⟨rfl, rfl⟩)
  refine PB.out.mono ?_
  rintro e w2 ⟨u, rfl, o2, st2, b2⟩
  have K2 := Lib.hid (K0.out.moveT st2 b2); have O2 := Lib.hid o2; have B2 := Lib.hid b2
  clear st2 b2 o2 K0 PB
  go_wp2_with fail
  go_ret
  exact ⟨u, rfl, O2.out, K2.out, B2.out⟩
set_option maxRecDepth 100000 in
set_option maxHeartbeats 2000000 in
theorem kNew_t (I seed : List Nat) (v i n : Nat) (w : World) (hI : I.length = 16) (hs : seed.length = 32) (hi : i < 4) (hv : v = (kd i).w) (hn : n ≤ 32) (hk : KAt w) (hki : KI w) :
    Calls Tryz.prog 6 #[.agg (u8s (I ++ seed)).toArray, .int .i64 (v : Int), .int .i64 (n : Int)] w fun e w' => ∃ g gt, e = .returned (.tuple #[.pointer (some ⟨g, 0, none⟩), .int .i64 0]) ∧ KS w' g gt I seed v i n n ∧ w.heap.size ≤ gt ∧ gt < g ∧ Below w.heap.size w w' := by
  have HIS := Lib.hid (show (I ++ seed).length = 48 by rw [List.length_append, hI, hs])
  have S0 := Lib.hid (Blk.new w 27 (u8s (I ++ seed))); have B0 := Lib.hid ((Below.refl w.heap.size w).alloc (Nat.le_refl _) (.cells (u8s (I ++ seed)).toArray 27))
  have NW := Lib.hid (fun W (h : Below w.heap.size w W) => new_ok I seed v i W hI hs hi hv (hk.below h hk.lt) (hki.kept h))
  have HK := Lib.hid hk.lt; have HKI := Lib.hid hki.lt
  have e1 := i32_of n hn
  have n1 : (0 : Int) ≤ (n : Int) := by omega
  have n2 : (n : Int) ≤ 32 := by omega
  have HN := Lib.hid hn
  clear hI hs hi hv hk hki hn
  go_enter Tryz.func6, Tryz.ntmps6
  go_wp2_with ((with_reducible refine load_blk 27 (.tmp 3) w.heap.size 27 (u8s (I ++ seed)) _ rfl rfl ?_ Tryz.underlying27 ?_ ?_ ?_ ?_); exact S0.out; exact rfl; exact size48 _ HIS.out; exact rfl)
  refine (NW.out _ B0.out).mono ?_
  rintro e w2 ⟨gt, rfl, st2, hg, b2⟩
  have hgw : w.heap.size ≤ gt := Nat.le_trans B0.out.size hg
  have ST := Lib.hid st2; have B2 := Lib.hid (B0.out.trans (b2.mono B0.out.size))
  clear st2 b2 S0 B0 NW hg
  go_upto_region 5 with (fail)
  refine world_is (fun W => Blk W w2.heap.size 60 (sgC gt 0 0) ∧ Stands W gt I seed v i ∧ Below w.heap.size w W) ⟨Blk.new w2 _ _, ST.out.below ((Below.refl _ _).alloc (Nat.le_refl _) _), B2.out.alloc B2.out.size _⟩ ?_
  rintro W ⟨bk, st, bl⟩
  have hgl : gt < w2.heap.size := ST.out.lt
  have hww : w.heap.size ≤ w2.heap.size := B2.out.size
  obtain ⟨g, hgg⟩ : ∃ x, w2.heap.size = x := ⟨_, rfl⟩
  rw [hgg] at bk hgl hww ⊢
  have S1 := Lib.hid (astore ⟨g, 1, none⟩ (.int .i32 0) (n : Int) W (by rw [bk.cell]; rfl) (bk.frozen 1))
  have bk2 := bk.store 1 (.int .i32 (n : Int))
  have S2 := Lib.hid (astore ⟨g, 2, none⟩ (.int .i32 0) (n : Int) (W.setCell ⟨g, 1, none⟩ (.int .i32 (n : Int))) (by rw [bk2.cell]; rfl) (bk2.frozen 2))
  have bk3 := bk2.store 2 (.int .i32 (n : Int))
  have st3 := (st.farS (Nat.ne_of_gt hgl) 1 (.int .i32 (n : Int))).farS (Nat.ne_of_gt hgl) 2 (.int .i32 (n : Int))
  have bl3 := (bl.setCell (p := ⟨g, 1, none⟩) hww (.int .i32 (n : Int))).setCell (p := ⟨g, 2, none⟩) hww (.int .i32 (n : Int))
  have KE := Lib.hid (show KS ((W.setCell ⟨g, 1, none⟩ (.int .i32 (n : Int))).setCell ⟨g, 2, none⟩ (.int .i32 (n : Int))) g gt I seed v i n n from
    ⟨bk3, st3, by have := HK.out; omega, by have := HKI.out; omega, Nat.le_refl _, HN.out⟩)
  have BE := Lib.hid bl3
  clear bk bk2 bk3 st st3 bl bl3 hgg ST B2
  go_wp2_with (first
    | (go_at_call 22; refine S1.out.mono ?_; rintro e w3 ⟨rfl, rfl⟩)
    | (go_at_call 22; refine S2.out.mono ?_; rintro e w4 ⟨rfl, rfl⟩))
  go_ret2
  exact ⟨g, gt, rfl, KE.out, hgw, hgl, BE.out⟩
set_option maxRecDepth 100000 in
set_option maxHeartbeats 1000000 in
theorem kNew_no (I seed : List Nat) (v i : Nat) (n : Int) (w : World) (hI : I.length = 16) (hs : seed.length = 32) (hi : i < 4) (hv : v = (kd i).w) (hn : n < 0 ∨ 32 < n) (hk : KAt w) (hki : KI w) :
    Calls Tryz.prog 6 #[.agg (u8s (I ++ seed)).toArray, .int .i64 (v : Int), .int .i64 n] w fun e w' => e = .returned (.tuple #[.pointer none, .int .i64 1]) ∧ Below w.heap.size w w' := by
  have HIS := Lib.hid (show (I ++ seed).length = 48 by rw [List.length_append, hI, hs])
  have S0 := Lib.hid (Blk.new w 27 (u8s (I ++ seed))); have B0 := Lib.hid ((Below.refl w.heap.size w).alloc (Nat.le_refl _) (.cells (u8s (I ++ seed)).toArray 27))
  have NW := Lib.hid (fun W (h : Below w.heap.size w W) => new_ok I seed v i W hI hs hi hv (hk.below h hk.lt) (hki.kept h))
  clear hI hs hi hv hk hki
  go_enter Tryz.func6, Tryz.ntmps6
  go_wp2_with ((with_reducible refine load_blk 27 (.tmp 3) w.heap.size 27 (u8s (I ++ seed)) _ rfl rfl ?_ Tryz.underlying27 ?_ ?_ ?_ ?_); exact S0.out; exact rfl; exact size48 _ HIS.out; exact rfl)
  refine (NW.out _ B0.out).mono ?_
  rintro e w2 ⟨gt, rfl, st2, hg, b2⟩
  have B2 := Lib.hid (B0.out.trans (b2.mono B0.out.size))
  clear st2 b2 S0 B0 NW hg
  by_cases h0 : n < 0
  · clear hn
    go_wp2_with fail
    go_ret2
    exact ⟨rfl, B2.out⟩
  · have h1 : 0 ≤ n := by omega
    have h2 : 32 < n := by omega
    clear hn h0
    go_wp2_with fail
    go_ret2
    exact ⟨rfl, B2.out⟩
set_option maxRecDepth 100000 in
set_option maxHeartbeats 1000000 in
theorem kNew_bad (S : List Nat) (v n : Int) (w : World) (hS : S.length = 48) (hv : ∀ i, i < 4 → v ≠ ((kd i).w : Int)) (hki : KI w) :
    Calls Tryz.prog 6 #[.agg (u8s S).toArray, .int .i64 v, .int .i64 n] w fun e w' => e = .returned (.tuple #[.pointer none, .int .i64 1]) ∧ Below w.heap.size w w' := by
  have HIS := Lib.hid hS
  have S0 := Lib.hid (Blk.new w 27 (u8s S)); have B0 := Lib.hid ((Below.refl w.heap.size w).alloc (Nat.le_refl _) (.cells (u8s S).toArray 27))
  have NW := Lib.hid (fun W (h : Below w.heap.size w W) => new_bad S v W (hki.kept h) hv)
  clear hS hv hki
  go_enter Tryz.func6, Tryz.ntmps6
  go_wp2_with ((with_reducible refine load_blk 27 (.tmp 3) w.heap.size 27 (u8s S) _ rfl rfl ?_ Tryz.underlying27 ?_ ?_ ?_ ?_); exact S0.out; exact rfl; exact size48 _ HIS.out; exact rfl)
  refine (NW.out _ B0.out).mono ?_
  rintro e w2 ⟨rfl, b2⟩
  have B2 := Lib.hid (B0.out.trans (b2.mono B0.out.size))
  clear b2 S0 B0 NW
  go_wp2_with fail
  go_ret2
  exact ⟨rfl, B2.out⟩
theorem kSign_nil (w : World) : Calls Tryz.prog 11 #[.pointer none, .slice none 0 0] w fun e w' => e = .returned (.tuple #[.slice none 0 0, .int .i64 1]) ∧ w' = w := by
  have ST := Lib.hid (kstands_nil w)
  go_enter Tryz.func11, Tryz.ntmps11
  go_wp2_with (go_at_call 26; refine ST.out.mono ?_; rintro e w' ⟨rfl, rfl⟩)
  go_ret2
  exact ⟨rfl, rfl⟩
theorem kNext_nil (w : World) : Calls Tryz.prog 14 #[.pointer none] w fun e w' => e = .returned (.int .i64 0) ∧ w' = w := by
  have ST := Lib.hid (kstands_nil w)
  go_enter Tryz.func14, Tryz.ntmps14
  go_wp2_with (go_at_call 26; refine ST.out.mono ?_; rintro e w' ⟨rfl, rfl⟩)
  go_ret
  exact ⟨rfl, rfl⟩
theorem kReserved_nil (w : World) : Calls Tryz.prog 15 #[.pointer none] w fun e w' => e = .returned (.int .i64 0) ∧ w' = w := by
  have ST := Lib.hid (kstands_nil w)
  go_enter Tryz.func15, Tryz.ntmps15
  go_wp2_with (go_at_call 26; refine ST.out.mono ?_; rintro e w' ⟨rfl, rfl⟩)
  go_ret
  exact ⟨rfl, rfl⟩
theorem kReserve_nil (w : World) : Calls Tryz.prog 9 #[.pointer none, .int .i64 1] w fun e w' => e = .returned (.int .i64 1) ∧ w' = w := by
  have ST := Lib.hid (kstands_nil w)
  go_enter Tryz.func9, Tryz.ntmps9
  go_wp2_with (go_at_call 26; refine ST.out.mono ?_; rintro e w' ⟨rfl, rfl⟩)
  go_ret
  exact ⟨rfl, rfl⟩
theorem kPublic_nil (w : World) : Calls Tryz.prog 16 #[.pointer none] w fun e w' => e = .returned (.slice none 0 0) ∧ w' = w := by
  have ST := Lib.hid (kstands_nil w)
  go_enter Tryz.func16, Tryz.ntmps16
  go_wp2_with (go_at_call 26; refine ST.out.mono ?_; rintro e w' ⟨rfl, rfl⟩)
  go_ret
  exact ⟨rfl, rfl⟩
end Go.Proofs.YtkcjiidimmefdaaGreatDoor
