/-
  PACKAGE ots, THE DIGITS: coef.
-/
import Derived.Test.YtkcjiidimmefdaaGreatDoorOtA
import Derived.Deep.RegionHeld3
namespace Go.Proofs.YtkcjiidimmefdaaGreatDoor
open Go Go.RowKit Sh

/-- The world of a walk gets a name: what is known of it is laid down first. -/
theorem world_is {P : Program} {c : Code} {Q : Exit → Act → World → Prop} {a : Act} {w : World} (R : World → Prop) (h : R w) (k : ∀ W, R W → Code.wp P c Q a W) : Code.wp P c Q a w := k w h
theorem blk_at {w : World} {g : Nat} (hg : w.heap.size = g) (o : Obj) (t : TypeId) (cs : List Value) (ho : o = .cells cs.toArray t := by rfl) : Blk (w.alloc o) g t cs := by
  subst hg; subst ho; exact Blk.new w t cs
/-- The n-th digit of w bits. -/
def coefN (w : Nat) (l : List Nat) (n : Nat) : Nat := gt l (n / (8 / w)) / 2 ^ (8 - w * (n % (8 / w) + 1)) % 2 ^ w
theorem below_drewN {B : Nat} {a w : World} (h : Below B a w) (n : Nat) : Below B a (w.drewN n) := ⟨h.os, h.tape, h.output, h.size, h.block⟩
theorem and_low : ∀ w, w = 1 ∨ w = 2 ∨ w = 4 ∨ w = 8 → ∀ x : Nat, x < 256 → bits .and .i64 (x : Int) ((2 ^ w - 1 : Nat) : Int) = ((x % 2 ^ w : Nat) : Int) := by
  rintro w (rfl | rfl | rfl | rfl) <;> decide +kernel
theorem and_coef (w : Nat) (hw : w = 1 ∨ w = 2 ∨ w = 4 ∨ w = 8) (x s : Nat) (hx : x < 256) : bits .and .i64 (IntKind.i64.wrap ((x : Int) / 2 ^ s)) ((2 ^ w - 1 : Nat) : Int) = ((x / 2 ^ s % 2 ^ w : Nat) : Int) := by
  have h1 : (x : Int) / 2 ^ s = ((x / 2 ^ s : Nat) : Int) := by simp
  have h2 : x / 2 ^ s ≤ x := Nat.div_le_self _ _
  rw [h1]
  clear h1
  generalize x / 2 ^ s = y at *
  rw [IntWalk.i64_in _ ⟨by omega, by omega⟩, and_low w hw _ (by omega)]
set_option maxRecDepth 100000 in
set_option maxHeartbeats 1000000 in
theorem coef_0 (l : List Nat) (n : Nat) (w : World) (hl : l.length = 34) (hb : Bytes l) (hn : n < 34 * 8) :
    Calls Tryz.prog 92 #[.agg #[.int .u64 1, .int .i64 1, .int .i64 265, .int .i64 7], .agg (u8s l).toArray, .int .i64 (n : Int)] w fun e w' => e = .returned (.int .i64 (coefN 1 l n : Nat)) ∧ Below w.heap.size w w' := by
  have i0 : (0 : Int) ≤ n := by omega
  have i1 : (n : Int) ≤ 1000 := by omega
  have HL := Lib.hid hl
  clear hl
  go_enter Tryz.func92, Tryz.ntmps92
  go_wp2
  go_quiet (fail)
  go_wp2
  have e8 : (8 : Int) - ((n : Int) % 8 + 1) = ((8 - 1 * (n % 8 + 1) : Nat) : Int) := by omega
  rw [e8]
  clear e8
  obtain ⟨s, hs⟩ : ∃ s, 8 - 1 * (n % 8 + 1) = s := ⟨_, rfl⟩
  rw [hs]
  have hs7 : s ≤ 7 := by omega
  have HS := Lib.hid hs
  clear hs
  obtain ⟨m, hm⟩ : ∃ m, n / 8 = m := ⟨_, rfl⟩
  have q1 : IntKind.i64.wrap ((n : Int) / 8) = (m : Int) := by
    rw [show (n : Int) / 8 = (m : Int) from by omega]
    exact IntWalk.i64_in _ (by omega)
  have q2 : (m : Int) < 34 := by omega
  have q3 : m < 34 := by omega
  have HM := Lib.hid hm
  clear hm
  have bk : Blk (((w.alloc (.cells #[.int .u64 1, .int .i64 1, .int .i64 265, .int .i64 7] 125)).alloc (.cells (u8s l).toArray 152)).drewN nq) w.heap.size 125 (kv (kd 0)) := ((Blk.new w _ (kv (kd 0))).alloc _).drewN _
  have bl : Blk (((w.alloc (.cells #[.int .u64 1, .int .i64 1, .int .i64 265, .int .i64 7] 125)).alloc (.cells (u8s l).toArray 152)).drewN nq) (w.heap.size + 1) 152 (u8s l) := (Blk.new2 w _ 152 (u8s l)).drewN _
  have bb : Below w.heap.size w (((w.alloc (.cells #[.int .u64 1, .int .i64 1, .int .i64 265, .int .i64 7] 125)).alloc (.cells (u8s l).toArray 152)).drewN nq) := below_drewN (((Below.refl _ _).alloc (Nat.le_refl _) _).alloc (by simp) _) _
  generalize hW : ((w.alloc (.cells #[.int .u64 1, .int .i64 1, .int .i64 265, .int .i64 7] 125)).alloc (.cells (u8s l).toArray 152)).drewN nq = W at *
  have r1 : (W.drew.rangeAt w.heap.size 0 (kv (kd 0)) ∧ W.drew.cell? ⟨w.heap.size + 1, m, none⟩ = some (.int .u8 ((gt l m : Nat) : Int))) := ⟨fun j v hv => by rw [Nat.zero_add]; exact (bk.drew.cell j).trans hv, by rw [bl.drew.cell, u8s_get _ _ (by rw [HL.out]; omega)]⟩
  have BK := Lib.hid bk; have BB := Lib.hid bb
  have hlt1 : w.heap.size + 1 < W.drew.heap.size := bl.drew.lt
  clear hW bk bl bb
  refine wp_region_held (S := fun V => V.rangeAt w.heap.size 0 (kv (kd 0)) ∧ V.cell? ⟨w.heap.size + 1, m, none⟩ = some (.int .u8 ((gt l m : Nat) : Int))) (by kernel_rfl) ?_
  change wpAnyH _ _ _ _ _ _ _ _ W.drew
  refine wpAnyH_take (i := 0) (v := ?_) rfl (by kernel_rfl) (by kernel_rfl) (by kernel_rfl) (fun _ _ _ h => h) (Or.inl ⟨by kernel_rfl, ?_⟩) r1 ?_
  rotate_left 1
  · (intro w hS; clear hS; go_simp; try (with_reducible rfl))
  refine wpAnyH_take (i := 1) (v := ?_) rfl (by kernel_rfl) (by kernel_rfl) (by kernel_rfl) (fun _ _ _ h => h) (Or.inl ⟨by kernel_rfl, ?_⟩) r1 ?_
  rotate_left 1
  · (intro w hS; clear hS; go_simp; try (with_reducible rfl))
  refine wpAnyH_take (i := 2) (v := ?_) rfl (by kernel_rfl) (by kernel_rfl) (by kernel_rfl) (fun _ _ _ h => h) (Or.inl ⟨by kernel_rfl, ?_⟩) r1 ?_
  rotate_left 1
  · (intro w hS; clear hS; go_simp; try (with_reducible rfl))
  refine wpAnyH_take (i := 3) (v := ?_) rfl (by kernel_rfl) (by kernel_rfl) (by kernel_rfl) (fun _ _ _ h => h) (Or.inl ⟨by kernel_rfl, ?_⟩) r1 ?_
  rotate_left 1
  · (intro w hS; clear hS; go_simp; try (with_reducible rfl))
  refine wpAnyH_take (i := 4) (v := ?_) rfl (by kernel_rfl) (by kernel_rfl) (by kernel_rfl) (fun _ _ _ h => h) (Or.inl ⟨by kernel_rfl, ?_⟩) r1 ?_
  rotate_left 1
  · (intro w hS; have hs := hS.2; clear hS; go_simp; try (with_reducible rfl))
  refine wpAnyH_take (i := 5) (v := ?_) rfl (by kernel_rfl) (by kernel_rfl) (by kernel_rfl) (fun _ _ _ h => h) (Or.inl ⟨by kernel_rfl, ?_⟩) r1 ?_
  rotate_left 1
  · (intro w hS; clear hS; go_simp; try (with_reducible rfl))
  refine wpAnyH_take (i := 6) (v := ?_) rfl (by kernel_rfl) (by kernel_rfl) (by kernel_rfl) (fun _ _ _ h => h) (Or.inl ⟨by kernel_rfl, ?_⟩) r1 ?_
  rotate_left 1
  · (intro w hS; clear hS; go_simp; try (with_reducible rfl))
  refine wpAnyH_take (i := 7) (v := ?_) rfl (by kernel_rfl) (by kernel_rfl) (by kernel_rfl) (fun _ _ _ h => h) (Or.inl ⟨by kernel_rfl, ?_⟩) r1 ?_
  rotate_left 1
  · (intro w hS; clear hS; go_simp; try (with_reducible rfl))
  refine wpAnyH_take (i := 8) (v := .agg (kv (kd 0)).toArray) rfl (by kernel_rfl) (by kernel_rfl) (by kernel_rfl) (fun _ _ _ h => h) (yieldsIf_load_mid (by kernel_rfl) 125 (.tmp 3) rfl w.heap.size 0 (by go_simp) (kv (kd 0)) _ (fun _ h => h.1) Tryz.underlying125 rfl (kv_size _)) r1 ?_
  refine wpAnyH_ready (rs := [9]) (by kernel_rfl) (by simp) ?_
  refine AllReadyH.cons rfl (fun K hK => ?_) AllReadyH.nil
  go_simp
  refine (top_t 0 (by omega) W.drew).mono ?_
  rintro e w1 ⟨rfl, b1⟩
  have r2 : (w1.rangeAt w.heap.size 0 (kv (kd 0)) ∧ w1.cell? ⟨w.heap.size + 1, m, none⟩ = some (.int .u8 ((gt l m : Nat) : Int))) := ⟨fun j v hv => (b1.cell (p := ⟨w.heap.size, 0 + j, none⟩) BK.out.drew.lt).trans (r1.1 j v hv), (b1.cell (p := ⟨w.heap.size + 1, m, none⟩) hlt1).trans r1.2⟩
  have B1 := Lib.hid (BB.out.drew.trans (b1.mono BB.out.drew.size))
  clear b1
  refine hK.out _ _ r2 (fun _ => ?_)
  clear hK K
  refine wpAnyH_take (i := 10) (v := ?_) rfl (by kernel_rfl) (by kernel_rfl) (by kernel_rfl) (fun _ _ _ h => h) (Or.inl ⟨by kernel_rfl, ?_⟩) r2 ?_
  rotate_left 1
  · (intro w hS; clear hS; go_simp; try (with_reducible rfl))
  refine wpAnyH_take (i := 11) (v := ?_) rfl (by kernel_rfl) (by kernel_rfl) (by kernel_rfl) (fun _ _ _ h => h) (Or.inl ⟨by kernel_rfl, ?_⟩) r2 ?_
  rotate_left 1
  · (intro w hS; clear hS; go_simp; try (with_reducible rfl))
  refine wpAnyH_done (by kernel_rfl) ?_ _
  go_simp
  go_wp2_with fail
  go_ret
  refine ⟨?_, B1.out⟩
  show Ending.returned (.int .i64 (bits .and .i64 (IntKind.i64.wrap (((gt l m : Nat) : Int) / 2 ^ s)) ((2 ^ 1 - 1 : Nat) : Int))) = _
  rw [and_coef 1 (by decide) _ s (hb m), show coefN 1 l n = gt l (n / 8) / 2 ^ (8 - 1 * (n % 8 + 1)) % 2 ^ 1 from rfl, HM.out, HS.out]
set_option maxRecDepth 100000 in
set_option maxHeartbeats 1000000 in
theorem coef_2 (l : List Nat) (n : Nat) (w : World) (hl : l.length = 34) (hb : Bytes l) (hn : n < 34 * 2) :
    Calls Tryz.prog 92 #[.agg #[.int .u64 3, .int .i64 4, .int .i64 67, .int .i64 4], .agg (u8s l).toArray, .int .i64 (n : Int)] w fun e w' => e = .returned (.int .i64 (coefN 4 l n : Nat)) ∧ Below w.heap.size w w' := by
  have i0 : (0 : Int) ≤ n := by omega
  have i1 : (n : Int) ≤ 1000 := by omega
  have HL := Lib.hid hl
  clear hl
  go_enter Tryz.func92, Tryz.ntmps92
  go_wp2
  go_quiet (fail)
  go_wp2
  have e8 : (8 : Int) - 4 * ((n : Int) % 2 + 1) = ((8 - 4 * (n % 2 + 1) : Nat) : Int) := by omega
  rw [e8]
  clear e8
  obtain ⟨s, hs⟩ : ∃ s, 8 - 4 * (n % 2 + 1) = s := ⟨_, rfl⟩
  rw [hs]
  have hs7 : s ≤ 7 := by omega
  have HS := Lib.hid hs
  clear hs
  obtain ⟨m, hm⟩ : ∃ m, n / 2 = m := ⟨_, rfl⟩
  have q1 : IntKind.i64.wrap ((n : Int) / 2) = (m : Int) := by
    rw [show (n : Int) / 2 = (m : Int) from by omega]
    exact IntWalk.i64_in _ (by omega)
  have q2 : (m : Int) < 34 := by omega
  have q3 : m < 34 := by omega
  have HM := Lib.hid hm
  clear hm
  have bk : Blk (((w.alloc (.cells #[.int .u64 3, .int .i64 4, .int .i64 67, .int .i64 4] 125)).alloc (.cells (u8s l).toArray 152)).drewN nq) w.heap.size 125 (kv (kd 2)) := ((Blk.new w _ (kv (kd 2))).alloc _).drewN _
  have bl : Blk (((w.alloc (.cells #[.int .u64 3, .int .i64 4, .int .i64 67, .int .i64 4] 125)).alloc (.cells (u8s l).toArray 152)).drewN nq) (w.heap.size + 1) 152 (u8s l) := (Blk.new2 w _ 152 (u8s l)).drewN _
  have bb : Below w.heap.size w (((w.alloc (.cells #[.int .u64 3, .int .i64 4, .int .i64 67, .int .i64 4] 125)).alloc (.cells (u8s l).toArray 152)).drewN nq) := below_drewN (((Below.refl _ _).alloc (Nat.le_refl _) _).alloc (by simp) _) _
  generalize hW : ((w.alloc (.cells #[.int .u64 3, .int .i64 4, .int .i64 67, .int .i64 4] 125)).alloc (.cells (u8s l).toArray 152)).drewN nq = W at *
  have r1 : (W.drew.rangeAt w.heap.size 0 (kv (kd 2)) ∧ W.drew.cell? ⟨w.heap.size + 1, m, none⟩ = some (.int .u8 ((gt l m : Nat) : Int))) := ⟨fun j v hv => by rw [Nat.zero_add]; exact (bk.drew.cell j).trans hv, by rw [bl.drew.cell, u8s_get _ _ (by rw [HL.out]; omega)]⟩
  have BK := Lib.hid bk; have BB := Lib.hid bb
  have hlt1 : w.heap.size + 1 < W.drew.heap.size := bl.drew.lt
  clear hW bk bl bb
  refine wp_region_held (S := fun V => V.rangeAt w.heap.size 0 (kv (kd 2)) ∧ V.cell? ⟨w.heap.size + 1, m, none⟩ = some (.int .u8 ((gt l m : Nat) : Int))) (by kernel_rfl) ?_
  change wpAnyH _ _ _ _ _ _ _ _ W.drew
  refine wpAnyH_take (i := 0) (v := ?_) rfl (by kernel_rfl) (by kernel_rfl) (by kernel_rfl) (fun _ _ _ h => h) (Or.inl ⟨by kernel_rfl, ?_⟩) r1 ?_
  rotate_left 1
  · (intro w hS; clear hS; go_simp; try (with_reducible rfl))
  refine wpAnyH_take (i := 1) (v := ?_) rfl (by kernel_rfl) (by kernel_rfl) (by kernel_rfl) (fun _ _ _ h => h) (Or.inl ⟨by kernel_rfl, ?_⟩) r1 ?_
  rotate_left 1
  · (intro w hS; clear hS; go_simp; try (with_reducible rfl))
  refine wpAnyH_take (i := 2) (v := ?_) rfl (by kernel_rfl) (by kernel_rfl) (by kernel_rfl) (fun _ _ _ h => h) (Or.inl ⟨by kernel_rfl, ?_⟩) r1 ?_
  rotate_left 1
  · (intro w hS; clear hS; go_simp; try (with_reducible rfl))
  refine wpAnyH_take (i := 3) (v := ?_) rfl (by kernel_rfl) (by kernel_rfl) (by kernel_rfl) (fun _ _ _ h => h) (Or.inl ⟨by kernel_rfl, ?_⟩) r1 ?_
  rotate_left 1
  · (intro w hS; clear hS; go_simp; try (with_reducible rfl))
  refine wpAnyH_take (i := 4) (v := ?_) rfl (by kernel_rfl) (by kernel_rfl) (by kernel_rfl) (fun _ _ _ h => h) (Or.inl ⟨by kernel_rfl, ?_⟩) r1 ?_
  rotate_left 1
  · (intro w hS; have hs := hS.2; clear hS; go_simp; try (with_reducible rfl))
  refine wpAnyH_take (i := 5) (v := ?_) rfl (by kernel_rfl) (by kernel_rfl) (by kernel_rfl) (fun _ _ _ h => h) (Or.inl ⟨by kernel_rfl, ?_⟩) r1 ?_
  rotate_left 1
  · (intro w hS; clear hS; go_simp; try (with_reducible rfl))
  refine wpAnyH_take (i := 6) (v := ?_) rfl (by kernel_rfl) (by kernel_rfl) (by kernel_rfl) (fun _ _ _ h => h) (Or.inl ⟨by kernel_rfl, ?_⟩) r1 ?_
  rotate_left 1
  · (intro w hS; clear hS; go_simp; try (with_reducible rfl))
  refine wpAnyH_take (i := 7) (v := ?_) rfl (by kernel_rfl) (by kernel_rfl) (by kernel_rfl) (fun _ _ _ h => h) (Or.inl ⟨by kernel_rfl, ?_⟩) r1 ?_
  rotate_left 1
  · (intro w hS; clear hS; go_simp; try (with_reducible rfl))
  refine wpAnyH_take (i := 8) (v := .agg (kv (kd 2)).toArray) rfl (by kernel_rfl) (by kernel_rfl) (by kernel_rfl) (fun _ _ _ h => h) (yieldsIf_load_mid (by kernel_rfl) 125 (.tmp 3) rfl w.heap.size 0 (by go_simp) (kv (kd 2)) _ (fun _ h => h.1) Tryz.underlying125 rfl (kv_size _)) r1 ?_
  refine wpAnyH_ready (rs := [9]) (by kernel_rfl) (by simp) ?_
  refine AllReadyH.cons rfl (fun K hK => ?_) AllReadyH.nil
  go_simp
  refine (top_t 2 (by omega) W.drew).mono ?_
  rintro e w1 ⟨rfl, b1⟩
  have r2 : (w1.rangeAt w.heap.size 0 (kv (kd 2)) ∧ w1.cell? ⟨w.heap.size + 1, m, none⟩ = some (.int .u8 ((gt l m : Nat) : Int))) := ⟨fun j v hv => (b1.cell (p := ⟨w.heap.size, 0 + j, none⟩) BK.out.drew.lt).trans (r1.1 j v hv), (b1.cell (p := ⟨w.heap.size + 1, m, none⟩) hlt1).trans r1.2⟩
  have B1 := Lib.hid (BB.out.drew.trans (b1.mono BB.out.drew.size))
  clear b1
  refine hK.out _ _ r2 (fun _ => ?_)
  clear hK K
  refine wpAnyH_take (i := 10) (v := ?_) rfl (by kernel_rfl) (by kernel_rfl) (by kernel_rfl) (fun _ _ _ h => h) (Or.inl ⟨by kernel_rfl, ?_⟩) r2 ?_
  rotate_left 1
  · (intro w hS; clear hS; go_simp; try (with_reducible rfl))
  refine wpAnyH_take (i := 11) (v := ?_) rfl (by kernel_rfl) (by kernel_rfl) (by kernel_rfl) (fun _ _ _ h => h) (Or.inl ⟨by kernel_rfl, ?_⟩) r2 ?_
  rotate_left 1
  · (intro w hS; clear hS; go_simp; try (with_reducible rfl))
  refine wpAnyH_done (by kernel_rfl) ?_ _
  go_simp
  go_wp2_with fail
  go_ret
  refine ⟨?_, B1.out⟩
  show Ending.returned (.int .i64 (bits .and .i64 (IntKind.i64.wrap (((gt l m : Nat) : Int) / 2 ^ s)) ((2 ^ 4 - 1 : Nat) : Int))) = _
  rw [and_coef 4 (by decide) _ s (hb m), show coefN 4 l n = gt l (n / 2) / 2 ^ (8 - 4 * (n % 2 + 1)) % 2 ^ 4 from rfl, HM.out, HS.out]
set_option maxRecDepth 100000 in
set_option maxHeartbeats 1000000 in
theorem coef_3 (l : List Nat) (n : Nat) (w : World) (hl : l.length = 34) (hb : Bytes l) (hn : n < 34 * 1) :
    Calls Tryz.prog 92 #[.agg #[.int .u64 4, .int .i64 8, .int .i64 34, .int .i64 0], .agg (u8s l).toArray, .int .i64 (n : Int)] w fun e w' => e = .returned (.int .i64 (coefN 8 l n : Nat)) ∧ Below w.heap.size w w' := by
  have i0 : (0 : Int) ≤ n := by omega
  have i1 : (n : Int) ≤ 1000 := by omega
  have HL := Lib.hid hl
  clear hl
  go_enter Tryz.func92, Tryz.ntmps92
  go_wp2
  go_quiet (fail)
  go_wp2
  have q1 : IntKind.i64.wrap (n : Int) = (n : Int) := IntWalk.i64_in _ (by omega)
  have q2 : (n : Int) < 34 := by omega
  have q3 : n < 34 := by omega
  obtain ⟨m, rfl⟩ : ∃ m, m = n := ⟨_, rfl⟩
  have bk : Blk (((w.alloc (.cells #[.int .u64 4, .int .i64 8, .int .i64 34, .int .i64 0] 125)).alloc (.cells (u8s l).toArray 152)).drewN nq) w.heap.size 125 (kv (kd 3)) := ((Blk.new w _ (kv (kd 3))).alloc _).drewN _
  have bl : Blk (((w.alloc (.cells #[.int .u64 4, .int .i64 8, .int .i64 34, .int .i64 0] 125)).alloc (.cells (u8s l).toArray 152)).drewN nq) (w.heap.size + 1) 152 (u8s l) := (Blk.new2 w _ 152 (u8s l)).drewN _
  have bb : Below w.heap.size w (((w.alloc (.cells #[.int .u64 4, .int .i64 8, .int .i64 34, .int .i64 0] 125)).alloc (.cells (u8s l).toArray 152)).drewN nq) := below_drewN (((Below.refl _ _).alloc (Nat.le_refl _) _).alloc (by simp) _) _
  generalize hW : ((w.alloc (.cells #[.int .u64 4, .int .i64 8, .int .i64 34, .int .i64 0] 125)).alloc (.cells (u8s l).toArray 152)).drewN nq = W at *
  have r1 : (W.drew.rangeAt w.heap.size 0 (kv (kd 3)) ∧ W.drew.cell? ⟨w.heap.size + 1, m, none⟩ = some (.int .u8 ((gt l m : Nat) : Int))) := ⟨fun j v hv => by rw [Nat.zero_add]; exact (bk.drew.cell j).trans hv, by rw [bl.drew.cell, u8s_get _ _ (by rw [HL.out]; omega)]⟩
  have BK := Lib.hid bk; have BB := Lib.hid bb
  have hlt1 : w.heap.size + 1 < W.drew.heap.size := bl.drew.lt
  clear hW bk bl bb
  refine wp_region_held (S := fun V => V.rangeAt w.heap.size 0 (kv (kd 3)) ∧ V.cell? ⟨w.heap.size + 1, m, none⟩ = some (.int .u8 ((gt l m : Nat) : Int))) (by kernel_rfl) ?_
  change wpAnyH _ _ _ _ _ _ _ _ W.drew
  refine wpAnyH_take (i := 0) (v := ?_) rfl (by kernel_rfl) (by kernel_rfl) (by kernel_rfl) (fun _ _ _ h => h) (Or.inl ⟨by kernel_rfl, ?_⟩) r1 ?_
  rotate_left 1
  · (intro w hS; clear hS; go_simp; try (with_reducible rfl))
  refine wpAnyH_take (i := 1) (v := ?_) rfl (by kernel_rfl) (by kernel_rfl) (by kernel_rfl) (fun _ _ _ h => h) (Or.inl ⟨by kernel_rfl, ?_⟩) r1 ?_
  rotate_left 1
  · (intro w hS; clear hS; go_simp; try (with_reducible rfl))
  refine wpAnyH_take (i := 2) (v := ?_) rfl (by kernel_rfl) (by kernel_rfl) (by kernel_rfl) (fun _ _ _ h => h) (Or.inl ⟨by kernel_rfl, ?_⟩) r1 ?_
  rotate_left 1
  · (intro w hS; clear hS; go_simp; try (with_reducible rfl))
  refine wpAnyH_take (i := 3) (v := ?_) rfl (by kernel_rfl) (by kernel_rfl) (by kernel_rfl) (fun _ _ _ h => h) (Or.inl ⟨by kernel_rfl, ?_⟩) r1 ?_
  rotate_left 1
  · (intro w hS; clear hS; go_simp; try (with_reducible rfl))
  refine wpAnyH_take (i := 4) (v := ?_) rfl (by kernel_rfl) (by kernel_rfl) (by kernel_rfl) (fun _ _ _ h => h) (Or.inl ⟨by kernel_rfl, ?_⟩) r1 ?_
  rotate_left 1
  · (intro w hS; have hs := hS.2; clear hS; go_simp; try (with_reducible rfl))
  refine wpAnyH_take (i := 5) (v := ?_) rfl (by kernel_rfl) (by kernel_rfl) (by kernel_rfl) (fun _ _ _ h => h) (Or.inl ⟨by kernel_rfl, ?_⟩) r1 ?_
  rotate_left 1
  · (intro w hS; clear hS; go_simp; try (with_reducible rfl))
  refine wpAnyH_take (i := 6) (v := ?_) rfl (by kernel_rfl) (by kernel_rfl) (by kernel_rfl) (fun _ _ _ h => h) (Or.inl ⟨by kernel_rfl, ?_⟩) r1 ?_
  rotate_left 1
  · (intro w hS; clear hS; go_simp; try (with_reducible rfl))
  refine wpAnyH_take (i := 7) (v := ?_) rfl (by kernel_rfl) (by kernel_rfl) (by kernel_rfl) (fun _ _ _ h => h) (Or.inl ⟨by kernel_rfl, ?_⟩) r1 ?_
  rotate_left 1
  · (intro w hS; clear hS; go_simp; try (with_reducible rfl))
  refine wpAnyH_take (i := 8) (v := .agg (kv (kd 3)).toArray) rfl (by kernel_rfl) (by kernel_rfl) (by kernel_rfl) (fun _ _ _ h => h) (yieldsIf_load_mid (by kernel_rfl) 125 (.tmp 3) rfl w.heap.size 0 (by go_simp) (kv (kd 3)) _ (fun _ h => h.1) Tryz.underlying125 rfl (kv_size _)) r1 ?_
  refine wpAnyH_ready (rs := [9]) (by kernel_rfl) (by simp) ?_
  refine AllReadyH.cons rfl (fun K hK => ?_) AllReadyH.nil
  go_simp
  refine (top_t 3 (by omega) W.drew).mono ?_
  rintro e w1 ⟨rfl, b1⟩
  have r2 : (w1.rangeAt w.heap.size 0 (kv (kd 3)) ∧ w1.cell? ⟨w.heap.size + 1, m, none⟩ = some (.int .u8 ((gt l m : Nat) : Int))) := ⟨fun j v hv => (b1.cell (p := ⟨w.heap.size, 0 + j, none⟩) BK.out.drew.lt).trans (r1.1 j v hv), (b1.cell (p := ⟨w.heap.size + 1, m, none⟩) hlt1).trans r1.2⟩
  have B1 := Lib.hid (BB.out.drew.trans (b1.mono BB.out.drew.size))
  clear b1
  refine hK.out _ _ r2 (fun _ => ?_)
  clear hK K
  refine wpAnyH_take (i := 10) (v := ?_) rfl (by kernel_rfl) (by kernel_rfl) (by kernel_rfl) (fun _ _ _ h => h) (Or.inl ⟨by kernel_rfl, ?_⟩) r2 ?_
  rotate_left 1
  · (intro w hS; clear hS; go_simp; try (with_reducible rfl))
  refine wpAnyH_take (i := 11) (v := ?_) rfl (by kernel_rfl) (by kernel_rfl) (by kernel_rfl) (fun _ _ _ h => h) (Or.inl ⟨by kernel_rfl, ?_⟩) r2 ?_
  rotate_left 1
  · (intro w hS; clear hS; go_simp; try (with_reducible rfl))
  refine wpAnyH_done (by kernel_rfl) ?_ _
  go_simp
  go_wp2_with fail
  go_ret
  refine ⟨?_, B1.out⟩
  show Ending.returned (.int .i64 (bits .and .i64 (IntKind.i64.wrap (((gt l m : Nat) : Int))) ((2 ^ 8 - 1 : Nat) : Int))) = _
  have h := and_coef 8 (by decide) _ 0 (hb m)
  rw [show (((gt l m : Nat) : Int)) / 2 ^ 0 = ((gt l m : Nat) : Int) from by simp] at h
  have e : coefN 8 l m = gt l m / 2 ^ 0 % 2 ^ 8 := by
    unfold coefN
    rw [show 8 / 8 = 1 from rfl, Nat.div_one, Nat.mod_one]
  rw [h, e]
set_option maxRecDepth 100000 in
set_option maxHeartbeats 1000000 in
theorem coef_1 (l : List Nat) (n : Nat) (w : World) (hl : l.length = 34) (hb : Bytes l) (hn : n < 34 * 4) :
    Calls Tryz.prog 92 #[.agg #[.int .u64 2, .int .i64 2, .int .i64 133, .int .i64 6], .agg (u8s l).toArray, .int .i64 (n : Int)] w fun e w' => e = .returned (.int .i64 (coefN 2 l n : Nat)) ∧ Below w.heap.size w w' := by
  have i0 : (0 : Int) ≤ n := by omega
  have i1 : (n : Int) ≤ 1000 := by omega
  have HL := Lib.hid hl
  clear hl
  go_enter Tryz.func92, Tryz.ntmps92
  go_wp2
  go_quiet (fail)
  go_wp2
  have e8 : (8 : Int) - 2 * ((n : Int) % 4 + 1) = ((8 - 2 * (n % 4 + 1) : Nat) : Int) := by omega
  rw [e8]
  clear e8
  obtain ⟨s, hs⟩ : ∃ s, 8 - 2 * (n % 4 + 1) = s := ⟨_, rfl⟩
  rw [hs]
  have hs7 : s ≤ 7 := by omega
  have HS := Lib.hid hs
  clear hs
  obtain ⟨m, hm⟩ : ∃ m, n / 4 = m := ⟨_, rfl⟩
  have q1 : IntKind.i64.wrap ((n : Int) / 4) = (m : Int) := by
    rw [show (n : Int) / 4 = (m : Int) from by omega]
    exact IntWalk.i64_in _ (by omega)
  have q2 : (m : Int) < 34 := by omega
  have q3 : m < 34 := by omega
  have HM := Lib.hid hm
  clear hm
  have bk : Blk (((w.alloc (.cells #[.int .u64 2, .int .i64 2, .int .i64 133, .int .i64 6] 125)).alloc (.cells (u8s l).toArray 152)).drewN nq) w.heap.size 125 (kv (kd 1)) := ((Blk.new w _ (kv (kd 1))).alloc _).drewN _
  have bl : Blk (((w.alloc (.cells #[.int .u64 2, .int .i64 2, .int .i64 133, .int .i64 6] 125)).alloc (.cells (u8s l).toArray 152)).drewN nq) (w.heap.size + 1) 152 (u8s l) := (Blk.new2 w _ 152 (u8s l)).drewN _
  have bb : Below w.heap.size w (((w.alloc (.cells #[.int .u64 2, .int .i64 2, .int .i64 133, .int .i64 6] 125)).alloc (.cells (u8s l).toArray 152)).drewN nq) := below_drewN (((Below.refl _ _).alloc (Nat.le_refl _) _).alloc (by simp) _) _
  generalize hW : ((w.alloc (.cells #[.int .u64 2, .int .i64 2, .int .i64 133, .int .i64 6] 125)).alloc (.cells (u8s l).toArray 152)).drewN nq = W at *
  have r1 : (W.drew.rangeAt w.heap.size 0 (kv (kd 1)) ∧ W.drew.cell? ⟨w.heap.size + 1, m, none⟩ = some (.int .u8 ((gt l m : Nat) : Int))) := ⟨fun j v hv => by rw [Nat.zero_add]; exact (bk.drew.cell j).trans hv, by rw [bl.drew.cell, u8s_get _ _ (by rw [HL.out]; omega)]⟩
  have BK := Lib.hid bk; have BB := Lib.hid bb
  have hlt1 : w.heap.size + 1 < W.drew.heap.size := bl.drew.lt
  clear hW bk bl bb
  refine wp_region_held (S := fun V => V.rangeAt w.heap.size 0 (kv (kd 1)) ∧ V.cell? ⟨w.heap.size + 1, m, none⟩ = some (.int .u8 ((gt l m : Nat) : Int))) (by kernel_rfl) ?_
  change wpAnyH _ _ _ _ _ _ _ _ W.drew
  refine wpAnyH_take (i := 0) (v := ?_) rfl (by kernel_rfl) (by kernel_rfl) (by kernel_rfl) (fun _ _ _ h => h) (Or.inl ⟨by kernel_rfl, ?_⟩) r1 ?_
  rotate_left 1
  · (intro w hS; clear hS; go_simp; try (with_reducible rfl))
  refine wpAnyH_take (i := 1) (v := ?_) rfl (by kernel_rfl) (by kernel_rfl) (by kernel_rfl) (fun _ _ _ h => h) (Or.inl ⟨by kernel_rfl, ?_⟩) r1 ?_
  rotate_left 1
  · (intro w hS; clear hS; go_simp; try (with_reducible rfl))
  refine wpAnyH_take (i := 2) (v := ?_) rfl (by kernel_rfl) (by kernel_rfl) (by kernel_rfl) (fun _ _ _ h => h) (Or.inl ⟨by kernel_rfl, ?_⟩) r1 ?_
  rotate_left 1
  · (intro w hS; clear hS; go_simp; try (with_reducible rfl))
  refine wpAnyH_take (i := 3) (v := ?_) rfl (by kernel_rfl) (by kernel_rfl) (by kernel_rfl) (fun _ _ _ h => h) (Or.inl ⟨by kernel_rfl, ?_⟩) r1 ?_
  rotate_left 1
  · (intro w hS; clear hS; go_simp; try (with_reducible rfl))
  refine wpAnyH_take (i := 4) (v := ?_) rfl (by kernel_rfl) (by kernel_rfl) (by kernel_rfl) (fun _ _ _ h => h) (Or.inl ⟨by kernel_rfl, ?_⟩) r1 ?_
  rotate_left 1
  · (intro w hS; have hs := hS.2; clear hS; go_simp; try (with_reducible rfl))
  refine wpAnyH_take (i := 5) (v := ?_) rfl (by kernel_rfl) (by kernel_rfl) (by kernel_rfl) (fun _ _ _ h => h) (Or.inl ⟨by kernel_rfl, ?_⟩) r1 ?_
  rotate_left 1
  · (intro w hS; clear hS; go_simp; try (with_reducible rfl))
  refine wpAnyH_take (i := 6) (v := ?_) rfl (by kernel_rfl) (by kernel_rfl) (by kernel_rfl) (fun _ _ _ h => h) (Or.inl ⟨by kernel_rfl, ?_⟩) r1 ?_
  rotate_left 1
  · (intro w hS; clear hS; go_simp; try (with_reducible rfl))
  refine wpAnyH_take (i := 7) (v := ?_) rfl (by kernel_rfl) (by kernel_rfl) (by kernel_rfl) (fun _ _ _ h => h) (Or.inl ⟨by kernel_rfl, ?_⟩) r1 ?_
  rotate_left 1
  · (intro w hS; clear hS; go_simp; try (with_reducible rfl))
  refine wpAnyH_take (i := 8) (v := .agg (kv (kd 1)).toArray) rfl (by kernel_rfl) (by kernel_rfl) (by kernel_rfl) (fun _ _ _ h => h) (yieldsIf_load_mid (by kernel_rfl) 125 (.tmp 3) rfl w.heap.size 0 (by go_simp) (kv (kd 1)) _ (fun _ h => h.1) Tryz.underlying125 rfl (kv_size _)) r1 ?_
  refine wpAnyH_ready (rs := [9]) (by kernel_rfl) (by simp) ?_
  refine AllReadyH.cons rfl (fun K hK => ?_) AllReadyH.nil
  go_simp
  refine (top_t 1 (by omega) W.drew).mono ?_
  rintro e w1 ⟨rfl, b1⟩
  have r2 : (w1.rangeAt w.heap.size 0 (kv (kd 1)) ∧ w1.cell? ⟨w.heap.size + 1, m, none⟩ = some (.int .u8 ((gt l m : Nat) : Int))) := ⟨fun j v hv => (b1.cell (p := ⟨w.heap.size, 0 + j, none⟩) BK.out.drew.lt).trans (r1.1 j v hv), (b1.cell (p := ⟨w.heap.size + 1, m, none⟩) hlt1).trans r1.2⟩
  have B1 := Lib.hid (BB.out.drew.trans (b1.mono BB.out.drew.size))
  clear b1
  refine hK.out _ _ r2 (fun _ => ?_)
  clear hK K
  refine wpAnyH_take (i := 10) (v := ?_) rfl (by kernel_rfl) (by kernel_rfl) (by kernel_rfl) (fun _ _ _ h => h) (Or.inl ⟨by kernel_rfl, ?_⟩) r2 ?_
  rotate_left 1
  · (intro w hS; clear hS; go_simp; try (with_reducible rfl))
  refine wpAnyH_take (i := 11) (v := ?_) rfl (by kernel_rfl) (by kernel_rfl) (by kernel_rfl) (fun _ _ _ h => h) (Or.inl ⟨by kernel_rfl, ?_⟩) r2 ?_
  rotate_left 1
  · (intro w hS; clear hS; go_simp; try (with_reducible rfl))
  refine wpAnyH_done (by kernel_rfl) ?_ _
  go_simp
  go_wp2_with fail
  go_ret
  refine ⟨?_, B1.out⟩
  show Ending.returned (.int .i64 (bits .and .i64 (IntKind.i64.wrap (((gt l m : Nat) : Int) / 2 ^ s)) ((2 ^ 2 - 1 : Nat) : Int))) = _
  rw [and_coef 2 (by decide) _ s (hb m), show coefN 2 l n = gt l (n / 4) / 2 ^ (8 - 2 * (n % 4 + 1)) % 2 ^ 2 from rfl, HM.out, HS.out]
theorem coef_t (i : Nat) (hi : i < 4) (l : List Nat) (n : Nat) (w : World) (hl : l.length = 34) (hb : Bytes l) (hn : n < 34 * (8 / (kd i).w)) :
    Calls Tryz.prog 92 #[.agg (kv (kd i)).toArray, .agg (u8s l).toArray, .int .i64 (n : Int)] w fun e w' => e = .returned (.int .i64 (coefN (kd i).w l n : Nat)) ∧ Below w.heap.size w w' := by
  have : i = 0 ∨ i = 1 ∨ i = 2 ∨ i = 3 := by omega
  rcases this with rfl | rfl | rfl | rfl
  · exact coef_0 l n w hl hb hn
  · exact coef_1 l n w hl hb hn
  · exact coef_2 l n w hl hb hn
  · exact coef_3 l n w hl hb hn
end Go.Proofs.YtkcjiidimmefdaaGreatDoor
