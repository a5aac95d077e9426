/-
  EQUALITY of digests, beside what layer 8 has.
-/
import Derived.Test.YtphgognhjdbdjaaDoorEqk
import Derived.Test.YtphgognhjdbdjaaDoorStPk
import Derived.Laws.StructEq
namespace Go.Proofs.YtphgognhjdbdjaaDoor
open Go Go.RowKit Sh

theorem run_forIn_find {P : Program} {β : Type} (r0 stop : β) (f : Nat → β → Sem (ForInStep β)) (bad : Nat → Bool) (w : World) : ∀ (ns : List Nat), (∀ i ∈ ns, (f i r0).run P w = .ok (if bad i then .done stop else .yield r0) w) → (forIn ns r0 f).run P w = .ok (if ns.any bad then stop else r0) w
  | [], _ => by simp [Sem.run_pure]
  | n :: ns, h => by
    have h1 := h n (List.mem_cons_self)
    cases hb : bad n with
    | true =>
      rw [hb] at h1
      simp only [List.forIn_cons, Sem.run_bind, h1, Result.andThen]
      simp [hb, Sem.run_pure]
    | false =>
      rw [hb] at h1
      simp only [List.forIn_cons, Sem.run_bind, h1, Result.andThen]
      simp only [Bool.false_eq_true, if_false]
      rw [run_forIn_find r0 stop f bad w ns (fun i hi => h i (List.mem_cons_of_mem _ hi))]
      simp [hb]
theorem eqIn_u8s (d t n : Nat) (ht : Tryd.prog.underlying t = some (.array n 5)) (xs ys : List Nat) (hx : xs.length = n) (hy : ys.length = n) (w : World) :
    (Op.equalIn (d + 2) t (.agg (u8s xs).toArray) (.agg (u8s ys).toArray)).run Tryd.prog w = .ok (decide (xs = ys)) w := by
  have h5 : (sizeOf 5).run Tryd.prog w = .ok 1 w := by kernel_rfl
  unfold Op.equalIn
  simp only [Sem.run_bind, run_underlying ht, Result.andThen_ok, h5, Nat.mul_one]
  have key : ∀ i, i < n → (Op.equalIn (d + 1) 5 (.int .u8 ((gt xs i : Nat) : Int)) (.int .u8 ((gt ys i : Nat) : Int))).run Tryd.prog w = .ok (decide (gt xs i = gt ys i)) w := fun i hi => by
    rw [run_equalIn_int w d 5 .u8 .u8 _ _ Tryd.underlying5]
    simp
    rw [Bool.eq_iff_iff]; simp; omega
  simp only [Std.Legacy.Range.forIn_eq_forIn_range', Std.Legacy.Range.size]
  rw [run_forIn_find (none, ()) (some false, ()) _ (fun i => decide (gt xs i ≠ gt ys i)) w _ (fun i hi => by
    have hi2 : i < n := by simpa using hi
    simp only [Sem.run_bind, part_u8 xs i (by omega), part_u8 ys i (by omega), Result.andThen_ok, key i hi2]
    by_cases he : gt xs i = gt ys i
    · simp [he, Sem.run_pure]
    · simp [he, Sem.run_pure])]
  have ha : ((List.range' 0 ((n - 0 + 1 - 1) / 1)).any fun i => decide (gt xs i ≠ gt ys i)) = !decide (xs = ys) := by
    by_cases he : xs = ys
    · subst he
      simp
    · have : ∃ i, i < n ∧ gt xs i ≠ gt ys i := by
        refine Classical.byContradiction fun hno => he ?_
        apply List.ext_getElem (by omega)
        intro i h1 h2
        have h3 : gt xs i = gt ys i := Classical.byContradiction fun h => hno ⟨i, by omega, h⟩
        rwa [gt_of_lt h1, gt_of_lt h2] at h3
      obtain ⟨i, hi, hne⟩ := this
      simp only [he, decide_false, Bool.not_false]
      rw [List.any_eq_true]
      exact ⟨i, by simp; omega, by simpa using hne⟩
  rw [ha]
  by_cases he : xs = ys <;> simp [he, Result.andThen, Sem.run_pure]
theorem eqIn_hash (S : List Nat) (h : S.length = 32) (w : World) : (Op.equalIn 10000 37 (.agg (u8s S).toArray) (.agg (u8s S).toArray)).run Tryd.prog w = .ok true w := by
  rw [eqIn_u8s 9998 37 32 Tryd.underlying37 S S h h w, decide_eq_true rfl]
theorem str_beqT (xs ys : List Nat) (hx : Bytes xs) (hy : Bytes ys) : ((str xs).toList == (str ys).toList) = decide (xs = ys) := by
  by_cases h : xs = ys
  · subst h; simp
  · have hne : (str xs).toList ≠ (str ys).toList := fun e => h (by rw [← bs_str xs hx, ← bs_str ys hy, bs, bs, e])
    rw [beq_eq_false_iff_ne.2 hne, decide_eq_false h]
end Go.Proofs.YtphgognhjdbdjaaDoor
