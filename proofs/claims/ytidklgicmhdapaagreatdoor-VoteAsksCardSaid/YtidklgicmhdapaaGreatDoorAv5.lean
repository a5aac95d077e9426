/-
  PACKAGE space
-/
import Derived.Test.YtidklgicmhdapaaGreatDoorAv4
import Derived.Lib.SliceRun
namespace Go.Proofs.YtidklgicmhdapaaGreatDoor
open Go Go.RowKit Sh

theorem infoI : (Tryz.prog.info? 108).map (fun i => (i.zero, i.size, i.bytes)) = some (some (.agg #[.int .i64 0, .int .i64 0, .slice none 0 0]), 3, 40) := by kernel_rfl
theorem infoW : (Tryz.prog.info? 113).map (fun i => (i.zero, i.size, i.bytes)) = some (some (.agg #[.int .i64 0, .int .i64 0, .bool false, .slice none 0 0]), 4, 48) := by kernel_rfl
def FT (w : World) (base : Nat) (p : Option Addr) (c : Nat) (l : List Fld) : Prop := w.ownsRow base 158 3 (.slice p l.length c) l.length (l.flatMap fv)
theorem isClient_t (c : Int) (w : World) : Calls Tryz.prog 112 #[.int .i64 c] w fun e w' => e = .returned (.bool (clB c)) ∧ w = w' := by
  unfold clB
  by_cases h1 : 0 ≤ c
  · rw [decide_eq_true h1, Bool.true_and]
    go_enter Tryz.func112, Tryz.ntmps112
    go_wp2
    go_ret
    exact ⟨by simp, rfl⟩
  · rw [decide_eq_false h1, Bool.false_and]
    have h2 : c < 0 := by omega
    go_enter Tryz.func112, Tryz.ntmps112
    go_wp2
    go_ret
    exact ⟨by simp, rfl⟩
theorem mayAllow_t (c : Int) (w : World) : Calls Tryz.prog 93 #[.int .i64 c] w fun e w' => e = .returned (.bool (alB c)) ∧ w = w' := by
  unfold alB
  by_cases h1 : 0 ≤ c
  · rw [decide_eq_true h1, Bool.true_and]
    go_enter Tryz.func93, Tryz.ntmps93
    go_wp2
    go_ret
    exact ⟨by simp, rfl⟩
  · rw [decide_eq_false h1, Bool.false_and]
    have h2 : c < 0 := by omega
    go_enter Tryz.func93, Tryz.ntmps93
    go_wp2
    go_ret
    exact ⟨by simp, rfl⟩
theorem mayLast_t (un now : Int) (w : World) : Calls Tryz.prog 113 #[.int .i64 un, .int .i64 now] w fun e w' => e = .returned (.bool (lastB un now)) ∧ w = w' := by
  unfold lastB
  by_cases h0 : un = 0
  · subst h0
    go_enter Tryz.func113, Tryz.ntmps113
    go_wp2
    go_ret
    exact ⟨by simp, rfl⟩
  · have e0 : (un == 0) = false := by rw [beq_eq_false_iff_ne]; exact h0
    rw [e0, Bool.false_or]
    by_cases h1 : now < un
    · rw [decide_eq_true h1, Bool.true_and]
      go_enter Tryz.func113, Tryz.ntmps113
      go_wp2
      go_ret
      exact ⟨by simp, rfl⟩
    · rw [decide_eq_false h1, Bool.false_and]
      have h2 : un ≤ now := by omega
      go_enter Tryz.func113, Tryz.ntmps113
      go_wp2
      go_ret
      exact ⟨by simp, rfl⟩
theorem pv_oneA (x : Rpv) : (pv x).toArray.all (·.oneCell') = true := by simp [pv, Value.oneCell']
theorem pv_cells {w : World} {g : Nat} {x : Rpv} (h : Blk w g 79 (pv x)) :
    w.cell? ⟨g, 0, none⟩ = some (.int .i64 x.r.cl) ∧ w.cell? ⟨g, 1, none⟩ = some (.int .i64 x.r.sq) ∧ w.cell? ⟨g, 2, none⟩ = some (.int .i64 x.r.kd) ∧ w.cell? ⟨g, 3, none⟩ = some (.slice x.p x.r.t.length x.c) ∧ w.cell? ⟨g, 4, none⟩ = some (.bool x.r.lt) := ⟨h.cell 0, h.cell 1, h.cell 2, h.cell 3, h.cell 4⟩
theorem isEmpty_dec {α : Type} (l : List α) : l.isEmpty = decide (l.length = 0) := by cases l <;> simp
set_option maxRecDepth 100000 in
theorem mayReply_t (x : Rpv) (w : World) (h : TR w x.p x.r.t) : Calls Tryz.prog 117 #[.agg (pv x).toArray] w fun e w' => e = .returned (.bool (rpB x.r)) ∧ Below w.heap.size w w' := by
  obtain ⟨⟨cl, sq, kd, t, lt⟩, p, c⟩ := x
  have B0 := Lib.hid (Blk.new w 79 (pv ⟨⟨cl, sq, kd, t, lt⟩, p, c⟩))
  have BW := Lib.hid ((Below.refl w.heap.size w).alloc (Nat.le_refl _) (.cells (pv ⟨⟨cl, sq, kd, t, lt⟩, p, c⟩).toArray 79))
  have MT := Lib.hid (May_t t.length c p (gl t) _ h.n (h.below BW.out).t)
  have hf : rpB ⟨cl, sq, kd, t, lt⟩ = if sq = 0 then (kd == 0) && (decide (t.length = 0) && !lt) else if sq < 0 ∨ 1073741824 < sq then false else if kd = 2 then vT t else decide (1 ≤ kd) && (decide (kd ≤ 6) && (decide (t.length = 0) && !lt)) := by unfold rpB; simp only [isEmpty_dec]
  obtain ⟨_, c1, c2, c3, c4⟩ := pv_cells B0.out
  dsimp only at c1 c2 c3 c4
  show Calls _ _ _ _ fun e w' => e = .returned (.bool (rpB ⟨cl, sq, kd, t, lt⟩)) ∧ Below w.heap.size w w'
  rw [hf]
  change Hid (Calls _ _ _ _ fun e w' => e = .returned (.bool (vT t)) ∧ _) at MT
  obtain ⟨vb, hvb⟩ : ∃ b, vT t = b := ⟨_, rfl⟩
  rw [hvb] at MT ⊢
  obtain ⟨n, hn⟩ : ∃ n, t.length = n := ⟨_, rfl⟩
  rw [hn] at MT c3 ⊢
  obtain ⟨xs, hx⟩ : ∃ l, pv ⟨⟨cl, sq, kd, t, lt⟩, p, c⟩ = l := ⟨_, rfl⟩
  rw [hx] at B0 BW MT c1 c2 c3 c4 ⊢
  clear hf hvb hn hx h B0
  by_cases s0 : sq = 0
  · subst s0
    rw [if_pos rfl]
    clear MT
    by_cases k0 : kd = 0
    · subst k0
      by_cases n0 : n = 0
      · subst n0
        go_enter Tryz.func117, Tryz.ntmps117
        go_wp2_with fail
        go_ret
        exact ⟨by simp, BW.out⟩
      · have e1 : ((n : Int) == 0) = false := by rw [beq_eq_false_iff_ne]; omega
        go_enter Tryz.func117, Tryz.ntmps117
        go_wp2_with fail
        go_ret
        exact ⟨by simp, BW.out⟩
    · have e1 : (kd == 0) = false := by rw [beq_eq_false_iff_ne]; exact k0
      go_enter Tryz.func117, Tryz.ntmps117
      go_wp2_with fail
      go_ret
      exact ⟨by simp, BW.out⟩
  · have e0 : (sq == 0) = false := by rw [beq_eq_false_iff_ne]; exact s0
    rw [if_neg s0]
    by_cases s1 : sq < 0
    · rw [if_pos (.inl s1)]
      clear MT
      go_enter Tryz.func117, Tryz.ntmps117
      go_wp2_with fail
      go_ret
      exact ⟨rfl, BW.out⟩
    · by_cases s2 : 1073741824 < sq
      · rw [if_pos (.inr s2)]
        clear MT
        have s3 : 0 ≤ sq := by omega
        go_enter Tryz.func117, Tryz.ntmps117
        go_wp2_with fail
        go_ret
        exact ⟨rfl, BW.out⟩
      · rw [if_neg (by omega)]
        have s3 : 0 ≤ sq := by omega
        have s4 : sq ≤ 1073741824 := by omega
        by_cases k2 : kd = 2
        · subst k2
          rw [if_pos rfl]
          go_enter Tryz.func117, Tryz.ntmps117
          go_wp2_with fail
          refine MT.out.mono ?_
          rintro e w2 ⟨rfl, b2⟩
          go_wp2_with fail
          go_ret
          exact ⟨rfl, BW.out.trans (b2.mono BW.out.size)⟩
        · rw [if_neg k2]
          have e2 : (kd == 2) = false := by rw [beq_eq_false_iff_ne]; exact k2
          clear MT
          by_cases k1 : 1 ≤ kd
          · by_cases k6 : kd ≤ 6
            · by_cases n0 : n = 0
              · subst n0
                go_enter Tryz.func117, Tryz.ntmps117
                go_wp2_with fail
                go_ret
                exact ⟨by simp, BW.out⟩
              · have e1 : ((n : Int) == 0) = false := by rw [beq_eq_false_iff_ne]; omega
                go_enter Tryz.func117, Tryz.ntmps117
                go_wp2_with fail
                go_ret
                exact ⟨by simp, BW.out⟩
            · have k7 : 6 < kd := by omega
              go_enter Tryz.func117, Tryz.ntmps117
              go_wp2_with fail
              go_ret
              exact ⟨by rw [show decide (kd ≤ 6) = false from decide_eq_false (by omega)]; simp, BW.out⟩
          · have k3 : kd < 1 := by omega
            go_enter Tryz.func117, Tryz.ntmps117
            go_wp2_with fail
            go_ret
            exact ⟨by rw [show decide (1 ≤ kd) = false from decide_eq_false (by omega)]; simp, BW.out⟩
end Go.Proofs.YtidklgicmhdapaaGreatDoor
