/-
  PACKAGE vote
-/
import Derived.Test.YtlipjglehongeabGreatDoorVt11
namespace Go.Proofs.YtlipjglehongeabGreatDoor
open Go Go.RowKit Sh

def textV (a : List Nat) (q : Nat) (l : List Nat) : List Nat := (([86, 79, 84, 69] ++ a) ++ beN q 4) ++ l
structure QT (w0 w2 W : World) (a : List Nat) (q : Nat) (l : List Nat) (ls : List Nat) : Prop where
  wr : Wr W (fun k => w2.heap.size ≤ k) w2.heap.size ls
  ba : Blk W w0.heap.size 23 (u8s a)
  bp : Blk W (w0.heap.size + 1) 3 [.int .i64 (q : Int)]
  bl : Blk W (w0.heap.size + 2) 23 (u8s l)
  lo : w0.heap.size + 2 < w2.heap.size
  b2 : Below w2.heap.size w2 W
theorem QT.step {w0 w2 W W' : World} {a l ls ls' : List Nat} {q : Nat} (h : QT w0 w2 W a q l ls) (hw : Wr W' (fun k => w2.heap.size ≤ k) w2.heap.size ls') (hb : Below w2.heap.size W W') : QT w0 w2 W' a q l ls' := by
  have := h.lo
  exact ⟨hw, h.ba.below hb (by omega), h.bp.below hb (by omega), h.bl.below hb (by omega), h.lo, h.b2.trans hb⟩
theorem sr_blkV {w : World} {g : Nat} {t : TypeId} {xs : List Nat} (h : Blk w g t (u8s xs)) : Sr w (some ⟨g, 0, none⟩) xs := fun _ => ⟨g, 0, rfl, h.lt, fun j hj => by rw [Nat.zero_add, h.cell]; exact u8s_get _ _ hj⟩
set_option maxRecDepth 100000 in
set_option maxHeartbeats 1000000 in
theorem vText1_t (a l : List Nat) (q : Nat) (w0 w2 W : World) (h : QT w0 w2 W a q l []) (ha : a.length = 32) (hl : l.length = 32) (hq : q ≤ 1048576) :
    Calls Tryz.prog 25 #[.pointer (some ⟨w2.heap.size, 0, none⟩), .pointer (some ⟨w0.heap.size, 0, none⟩), .pointer (some ⟨w0.heap.size + 1, 0, none⟩), .pointer (some ⟨w0.heap.size + 2, 0, none⟩)] W fun e W' => e = .returned (.tuple #[]) ∧ Wr W' (fun k => w2.heap.size ≤ k) w2.heap.size (textV a q l) ∧ Below w2.heap.size w2 W' := by
  have i1 : IntKind.u64.wrap (q : Int) = (q : Int) := IntWalk.u64_in _ (by omega)
  have P0 := Lib.hid h
  have SM := Lib.hid (Sr.made [86, 79, 84, 69] W 5 (4, 5))
  have BA := Lib.hid ((Below.refl W.heap.size W).alloc (Nat.le_refl _) (.cells (u8s [86, 79, 84, 69]).toArray 5 (4, 5)))
  clear h
  go_enter Tryz.func25, Tryz.ntmps25
  have kc := fun (w : World) (C : Array Value) (n c : Nat) => Lib.run_convert_bytes_const (P := Tryz.prog) w 24 5 C n c Tryz.underlying24 Tryz.underlying5
  have RW_ := Lib.hid (raw_s [86, 79, 84, 69] (some ⟨W.heap.size, 0, none⟩) 4 4 P0.out.wr BA.out P0.out.b2.size rfl SM.out (by simp))
  go_wp2_with fail
  clear kc
  refine RW_.out.mono ?_
  rintro e w3 ⟨rfl, x3, b3⟩
  rw [List.nil_append] at x3
  have P3 := Lib.hid (P0.out.step x3 ((BA.out.mono P0.out.b2.size).trans b3))
  clear x3 b3 RW_ SM BA P0
  have SA := Lib.hid (sr_blkV P3.out.ba)
  have RW_ := Lib.hid (raw_s a (some ⟨w0.heap.size, 0, none⟩) 32 32 P3.out.wr (Below.refl _ _) P3.out.b2.size ha SA.out (by simp))
  go_wp2_with fail
  refine RW_.out.mono ?_
  rintro e w4 ⟨rfl, x4, b4⟩
  have P4 := Lib.hid (P3.out.step x4 b4)
  clear x4 b4 RW_ SA P3
  have c1 : w4.cell? ⟨w0.heap.size + 1, 0, none⟩ = some (.int .i64 (q : Int)) := P4.out.bp.cell 0
  go_wp2_with fail
  refine (num_s q 4 P4.out.wr (Below.refl _ _) P4.out.b2.size (by omega) (by decide) (by decide) (by simp only [List.length_append, ha, List.length_cons, List.length_nil]; omega)).mono ?_
  rintro e w5 ⟨rfl, x5, b5⟩
  have P5 := Lib.hid (P4.out.step x5 b5)
  clear x5 b5 P4 c1 i1
  have SL := Lib.hid (sr_blkV P5.out.bl)
  have RW_ := Lib.hid (raw_s l (some ⟨w0.heap.size + 2, 0, none⟩) 32 32 P5.out.wr (Below.refl _ _) P5.out.b2.size hl SL.out (by simp only [List.length_append, ha, beN_length, List.length_cons, List.length_nil]; omega))
  go_wp2_with fail
  refine RW_.out.mono ?_
  rintro e w6 ⟨rfl, x6, b6⟩
  have P6 := Lib.hid (P5.out.step x6 b6)
  clear x6 b6 RW_ SL P5
  go_wp2_with fail
  go_end0
  exact ⟨rfl, P6.out.wr, P6.out.b2⟩
theorem textV_len {a l : List Nat} {q : Nat} (ha : a.length = 32) (hl : l.length = 32) : (textV a q l).length = 72 := by
  unfold textV
  simp only [List.length_append, beN_length, ha, hl, List.length_cons, List.length_nil]
theorem new3V (w : World) (o1 o2 : Obj) (t : TypeId) (cs : List Value) : Blk (((w.alloc o1).alloc o2).alloc (.cells cs.toArray t)) (w.heap.size + 2) t cs := by
  have h := Blk.new2 (w.alloc o1) o2 t cs
  simpa using h
set_option maxRecDepth 100000 in
set_option maxHeartbeats 1000000 in
theorem vText_t (a l : List Nat) (q : Nat) (w : World) (ha : a.length = 32) (hl : l.length = 32) (hq : q ≤ 1048576) :
    Calls Tryz.prog 10 #[.agg (u8s a).toArray, .int .i64 (q : Int), .agg (u8s l).toArray] w fun e w' => ∃ u, e = .returned u ∧ Fresh 5 w w' u (textV a q l) := by
  obtain ⟨V, hV⟩ : ∃ V, ((w.alloc (.cells (u8s a).toArray 23)).alloc (.cells #[.int .i64 (q : Int)] 3)).alloc (.cells (u8s l).toArray 23) = V := ⟨_, rfl⟩
  have B0 := Lib.hid (show Below w.heap.size w V from by rw [← hV]; exact (((Below.refl _ _).alloc (Nat.le_refl _) _).alloc (by simp) _).alloc (by simp; omega) _)
  have VS := Lib.hid (show w.heap.size + 2 < V.heap.size from by rw [← hV]; simp)
  have BL := Lib.hid (show Blk V w.heap.size 23 (u8s a) ∧ Blk V (w.heap.size + 1) 3 [.int .i64 (q : Int)] ∧ Blk V (w.heap.size + 2) 23 (u8s l) from by
    rw [← hV]
    exact ⟨((Blk.new w 23 (u8s a)).alloc _).alloc _, (Blk.new2 w _ 3 [.int .i64 (q : Int)]).alloc _, new3V w _ _ _ _⟩)
  have CALL := Lib.hid (vText1_t a l q w V _ ⟨Wr.new, BL.out.1.alloc _, BL.out.2.1.alloc _, BL.out.2.2.alloc _, VS.out, (Below.refl _ _).alloc (Nat.le_refl _) _⟩ ha hl hq)
  have WT := Lib.hid (vWritten_t 25 #[.pointer (some ⟨w.heap.size, 0, none⟩), .pointer (some ⟨w.heap.size + 1, 0, none⟩), .pointer (some ⟨w.heap.size + 2, 0, none⟩)] (textV a q l) V (enters_of Tryz.func25 (by kernel_rfl) rfl) (by rw [textV_len ha hl]; omega) CALL.out)
  have hmf : ∀ (fn : Fn) (first cap : Array Value) (w : World), (Instr.makeFunc fn first cap).run Tryz.prog w = .ok (.func fn first cap) w := fun _ _ _ _ => rfl
  clear CALL BL VS
  go_enter Tryz.func10, Tryz.ntmps10
  go_wp2_with fail
  clear hV
  refine WT.out.mono ?_
  rintro e w2 ⟨u, rfl, fr⟩
  have FR := Lib.hid (show Fresh 5 w w2 u (textV a q l) from ⟨own_base fr.1 (fun k hk => Nat.le_trans B0.out.size (fr.1.lt k hk).1), B0.out.trans (fr.2.mono B0.out.size)⟩)
  clear fr WT
  go_wp2_with fail
  go_ret
  exact ⟨u, rfl, FR.out⟩
end Go.Proofs.YtlipjglehongeabGreatDoor
