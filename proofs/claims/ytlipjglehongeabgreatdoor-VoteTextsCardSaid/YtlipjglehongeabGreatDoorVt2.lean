/-
  PACKAGE tuple
  PACKAGE tuple
-/
import Derived.Test.YtlipjglehongeabGreatDoorVt1
import Derived.Laws.StructEq
namespace Go.Proofs.YtlipjglehongeabGreatDoor
open Go Go.RowKit Sh

structure Fld where
  k : Int
  n : Int
  s : ByteArray
def fv (f : Fld) : List Value := [.int .i64 f.k, .int .i64 f.n, .string f.s]
theorem fv_size (f : Fld) : (Tryz.prog.info? 152).map (·.size) = some (fv f).length := by
  show (Tryz.prog.info? 152).map (·.size) = some 3
  kernel_rfl
theorem fv_one (f : Fld) : (fv f).toArray.all (·.oneCell') = true := by simp [fv, Value.oneCell']
theorem fv_cells {w : World} {g : Nat} {k n : Int} {s : ByteArray} (h : Blk w g 152 (fv ⟨k, n, s⟩)) :
    w.cell? ⟨g, 0, none⟩ = some (.int .i64 k) ∧ w.cell? ⟨g, 1, none⟩ = some (.int .i64 n) ∧ w.cell? ⟨g, 2, none⟩ = some (.string s) := ⟨h.cell 0, h.cell 1, h.cell 2⟩
def okV (f : Fld) : Bool := if f.k = 1 then f.s.toList.isEmpty else if f.k = 2 then (f.n == 0) && decide ((f.s.size : Int) ≤ 40) else false
def okP (f : Fld) : Bool := if f.k = 3 ∨ f.k = 4 ∨ f.k = 5 then (f.n == 0) && f.s.toList.isEmpty else okV f

theorem isValue_t (f : Fld) (w : World) : Calls Tryz.prog 113 #[.agg (fv f).toArray] w fun e w' => e = .returned (.bool (okV f)) ∧ Below w.heap.size w w' := by
  obtain ⟨k, n, s⟩ := f
  have B0 := Lib.hid (Blk.new w 152 (fv ⟨k, n, s⟩))
  have BW := Lib.hid ((Below.refl w.heap.size w).alloc (Nat.le_refl _) (.cells (fv ⟨k, n, s⟩).toArray 152))
  obtain ⟨c0, c1, c2⟩ := fv_cells B0.out
  by_cases h1 : k = 1
  · subst h1
    go_enter Tryz.func113, Tryz.ntmps113
    go_wp2
    go_ret
    exact ⟨by simp [okV], BW.out⟩
  · have e1 : (k == 1) = false := by rw [beq_eq_false_iff_ne]; exact h1
    by_cases h2 : k = 2
    · subst h2
      cases hn : (n == 0) with
      | false =>
        go_enter Tryz.func113, Tryz.ntmps113
        go_wp2
        go_ret
        exact ⟨by simp [okV, hn], BW.out⟩
      | true =>
        go_enter Tryz.func113, Tryz.ntmps113
        go_wp2
        go_ret
        exact ⟨by simp [okV, hn], BW.out⟩
    · have e2 : (k == 2) = false := by rw [beq_eq_false_iff_ne]; exact h2
      go_enter Tryz.func113, Tryz.ntmps113
      go_wp2
      go_ret
      exact ⟨by simp [okV, h1, h2], BW.out⟩

theorem isPattern_t (f : Fld) (w : World) : Calls Tryz.prog 112 #[.agg (fv f).toArray] w fun e w' => e = .returned (.bool (okP f)) ∧ Below w.heap.size w w' := by
  have IV := Lib.hid (fun W => isValue_t f W)
  obtain ⟨k, n, s⟩ := f
  have FV := Lib.hid (fv_size ⟨k, n, s⟩)
  have B0 := Lib.hid (Blk.new w 152 (fv ⟨k, n, s⟩))
  have BW := Lib.hid ((Below.refl w.heap.size w).alloc (Nat.le_refl _) (.cells (fv ⟨k, n, s⟩).toArray 152))
  obtain ⟨c0, c1, c2⟩ := fv_cells B0.out
  by_cases h : k = 3 ∨ k = 4 ∨ k = 5
  · have hk : okP ⟨k, n, s⟩ = ((n == 0) && s.toList.isEmpty) := if_pos h
    rw [hk]
    clear IV hk
    rcases h with rfl | rfl | rfl
    all_goals
      cases hn : (n == 0) with
      | false =>
        go_enter Tryz.func112, Tryz.ntmps112
        go_wp2
        go_ret
        exact ⟨by simp, BW.out⟩
      | true =>
        go_enter Tryz.func112, Tryz.ntmps112
        go_wp2
        go_ret
        exact ⟨by simp, BW.out⟩
  · have hk : okP ⟨k, n, s⟩ = okV ⟨k, n, s⟩ := if_neg h
    rw [hk]
    have e3 : (k == 3) = false := by rw [beq_eq_false_iff_ne]; exact fun e => h (.inl e)
    have e4 : (k == 4) = false := by rw [beq_eq_false_iff_ne]; exact fun e => h (.inr (.inl e))
    have e5 : (k == 5) = false := by rw [beq_eq_false_iff_ne]; exact fun e => h (.inr (.inr e))
    clear hk h
    obtain ⟨b, hb⟩ : ∃ b, okV ⟨k, n, s⟩ = b := ⟨_, rfl⟩
    rw [hb] at IV ⊢
    obtain ⟨cs, hcs⟩ : ∃ cs, fv ⟨k, n, s⟩ = cs := ⟨_, rfl⟩
    rw [hcs] at IV FV B0 BW c0 c1 c2 ⊢
    clear hb hcs
    go_enter Tryz.func112, Tryz.ntmps112
    go_wp2_with ((with_reducible refine load_blk 152 (.tmp 1) w.heap.size 152 cs _ rfl rfl ?_ Tryz.underlying152 ?_ ?_ ?_ ?_); exact B0.out; exact rfl; exact FV.out; exact rfl)
    refine (IV.out _).mono ?_
    rintro e w1 ⟨rfl, b1⟩
    go_wp2_with fail
    go_ret
    exact ⟨rfl, BW.out.trans (b1.mono BW.out.size)⟩
end Go.Proofs.YtlipjglehongeabGreatDoor
namespace Go.Proofs.YtlipjglehongeabGreatDoor
open Go Go.RowKit Sh

def sameF (a b : Fld) : Bool := (a.k == b.k) && ((a.n == b.n) && (a.s.toList == b.s.toList))
end Go.Proofs.YtlipjglehongeabGreatDoor
