/-
  PACKAGE ots, THE LEAF: head, secret, message: hashes of a leaf's own texts.
-/
import Derived.Test.YtigbnjgmdgkgjaaGreatDoorOtE
import Derived.Test.YtigbnjgmdgkgjaaGreatDoorShaM
namespace Go.Proofs.YtigbnjgmdgkgjaaGreatDoor
open Go Go.RowKit Sh

/-- The cells of a leaf. -/
def lf (I : List Nat) (q : Nat) : List Value := u8s I ++ [.int .i64 (q : Int)]
theorem lf_length (I : List Nat) (q : Nat) (hI : I.length = 16) : (lf I q).length = 17 := by simp [lf, u8s_length, hI]
theorem lf_size (I : List Nat) (q : Nat) (hI : I.length = 16) : (Tryz.prog.info? 128).map (·.size) = some (lf I q).length := by
  rw [lf_length I q hI]
  kernel_rfl
theorem lf_one (I : List Nat) (q : Nat) : (lf I q).toArray.all (·.oneCell') = true := all_oneCell_toArray (fun v hv => by
  rcases List.mem_append.1 hv with h | h
  · exact u8s_each _ _ h
  · simp at h; subst h; rfl)
def headN (I : List Nat) (q mark : Nat) : List Nat := I ++ beN q 4 ++ beN mark 2
theorem headN_length (I : List Nat) (q mark : Nat) (hI : I.length = 16) : (headN I q mark).length = 22 := by simp [headN, beN_length, hI]
theorem headN_bytes (I : List Nat) (q mark : Nat) (hb : Bytes I) : Bytes (headN I q mark) := app_bytes (app_bytes hb (beN_bytes _ _)) (beN_bytes _ _)
/-- A block's front reads as bytes. -/
theorem Sr.of_blk {w : World} {g : Nat} {t : TypeId} {cs rest : List Value} {xs : List Nat} (h : Blk w g t cs) (hc : cs = u8s xs ++ rest) : Sr w (some ⟨g, 0, none⟩) xs := fun _ => by
  subst hc
  refine ⟨g, 0, rfl, h.lt, fun j hj => ?_⟩
  rw [Nat.zero_add, h.cell, List.getElem?_append_left (by rw [u8s_length]; exact hj), u8s_get _ _ hj]
set_option maxRecDepth 100000 in
set_option maxHeartbeats 1000000 in
theorem head_t (I : List Nat) (q mark : Nat) (w : World) (hI : I.length = 16) (hq : q < 32) (hm : mark < 65536) :
    Calls Tryz.prog 95 #[.agg (lf I q).toArray, .int .i64 (mark : Int)] w fun e w' => ∃ v, e = .returned v ∧ Fresh 5 w w' v (headN I q mark) := by
  have HI := Lib.hid hI
  have L0 := Lib.hid (Blk.new w 128 (lf I q))
  have B0 := Lib.hid ((Below.refl w.heap.size w).alloc (Nat.le_refl _) (.cells (lf I q).toArray 128))
  have W0 := Lib.hid (Wr.new (w := w.alloc (.cells (lf I q).toArray 128)))
  rw [show (w.alloc (.cells (lf I q).toArray 128)).heap.size = w.heap.size + 1 from by simp] at W0
  have q1 : (0 : Int) ≤ q := by omega
  have q2 : (q : Int) < 32 := by omega
  have m1 : (0 : Int) ≤ mark := by omega
  have m2 : (mark : Int) < 65536 := by omega
  clear hI
  go_enter Tryz.func95, Tryz.ntmps95
  go_wp2_with fail
  have L1 := Lib.hid (L0.out.alloc (.cells #[.pointer none, .int .i64 0] 81))
  refine (raw_s I (some ⟨w.heap.size, 0, none⟩) 16 16 W0.out (Below.refl _ _) (by simp) HI.out (Sr.of_blk L1.out rfl) (by simp)).mono ?_
  rintro e w1 ⟨rfl, x1, b1⟩
  have L2 := Lib.hid (L1.out.below b1 (by simp)); have X1 := Lib.hid x1; have B1 := Lib.hid ((B0.out.alloc B0.out.size (.cells #[.pointer none, .int .i64 0] 81)).trans (b1.mono (by simp)))
  have c16 : w1.cell? ⟨w.heap.size, 16, none⟩ = some (.int .i64 (q : Int)) := by
    rw [L2.out.cell]
    unfold lf
    rw [List.getElem?_append_right (by rw [u8s_length, HI.out]; decide), u8s_length, HI.out]
    rfl
  have s1 : w.heap.size + 1 ≤ w1.heap.size := by have := x1.lt; omega
  clear x1 b1 L0 L1 B0 W0
  go_wp2_with fail
  refine (num_s q 4 X1.out (Below.refl _ _) s1 (by omega) (by decide) (by decide) (by simp [HI.out])).mono ?_
  rintro e w2 ⟨rfl, x2, b2⟩
  have X2 := Lib.hid x2; have B2 := Lib.hid (B1.out.trans (b2.mono (by omega)))
  have s2 : w.heap.size + 1 ≤ w2.heap.size := by have := x2.lt; omega
  clear x2 b2 B1 X1 L2 c16
  go_wp2_with fail
  refine (num_s mark 2 X2.out (Below.refl _ _) s2 (by omega) (by decide) (by decide) (by simp [HI.out, beN_length])).mono ?_
  rintro e w3 ⟨rfl, x3, b3⟩
  have X3 := Lib.hid x3; have B3 := Lib.hid (B2.out.trans (b3.mono (by omega)))
  clear x3 b3 B2 X2
  go_wp2_with fail
  refine (wbytes_t _ _ _ w3 X3.out (by simp [HI.out, beN_length])).mono ?_
  rintro e w4 ⟨v, rfl, o4, b4⟩
  have O4 := Lib.hid o4; have B4 := Lib.hid b4
  clear o4 b4
  go_wp2_with fail
  go_ret
  refine ⟨v, rfl, ?_, B3.out.trans (B4.out.mono B3.out.size)⟩
  have h := own_base O4.out (base' := w.heap.size) (fun k e => Nat.le_trans B3.out.size (O4.out.lt k e).1)
  rw [List.nil_append] at h
  exact h
end Go.Proofs.YtigbnjgmdgkgjaaGreatDoor
