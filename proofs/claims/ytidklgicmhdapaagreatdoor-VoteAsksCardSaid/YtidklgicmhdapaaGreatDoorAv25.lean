/-
  PACKAGE state
  PACKAGE state
  A DIGEST AMONG OTHER MEMORY
  PACKAGE state
  EQUALITY of digests, beside what layer 8 has
-/
import Derived.Test.YtidklgicmhdapaaGreatDoorAv15
import Derived.Test.YtidklgicmhdapaaGreatDoorAv16
import Derived.Test.YtidklgicmhdapaaGreatDoorAv18
import Derived.Test.YtidklgicmhdapaaGreatDoorAv11
import Derived.Test.YtidklgicmhdapaaGreatDoorAv1
import Derived.Test.YtidklgicmhdapaaGreatDoorAv23
import Derived.Lib.SlBytesConst
import Derived.Test.YtidklgicmhdapaaGreatDoorAv12
import Derived.Test.YtidklgicmhdapaaGreatDoorAv7
import Derived.Laws.StructEq
namespace Go.Proofs.YtidklgicmhdapaaGreatDoor
open Go Go.RowKit Sh

section
variable {W0 w W W' : World} {F : Nat → Prop} {g : Nat} {l l' : List Nat}
end
end Go.Proofs.YtidklgicmhdapaaGreatDoor
namespace Go.Proofs.YtidklgicmhdapaaGreatDoor
open Go Go.RowKit Sh

section
variable {w0 w2 W W' : World} {x : Spv} {l l' : List Nat}
end
theorem take_snocS {α : Type} {l : List α} {j : Nat} {y : α} (h : l[j]? = some y) : l.take (j + 1) = l.take j ++ [y] := by rw [List.take_add_one, h]; rfl
end Go.Proofs.YtidklgicmhdapaaGreatDoor
namespace Go.Proofs.YtidklgicmhdapaaGreatDoor
open Go.RowKit Sh

theorem Sl.of_sr {w : World} {p : Option Addr} {xs : List Nat} (h : Sr w p xs) (g : Nat) (hg : w.heap.size ≤ g) : Sl w w.heap.size g p xs := fun hx => by
  obtain ⟨b, o, e, h1, h2⟩ := h hx
  exact ⟨b, o, e, h1, by omega, h2⟩
theorem Sl.old {w W : World} {p : Option Addr} {xs : List Nat} {g : Nat} (h : Sr w p xs) (hb : Below w.heap.size w W) (hg : w.heap.size ≤ g) : Sl W W.heap.size g p xs := fun hx => by
  obtain ⟨b, o, e, h1, h2⟩ := h hx
  exact ⟨b, o, e, Nat.lt_of_lt_of_le h1 hb.size, by omega, h2.below hb h1⟩
theorem Wrote.dig {w w' : World} {g : Nat} {l : List Nat} (h : Wrote w w' g l) : ∃ s r, Dig w' g l s r := by
  obtain ⟨⟨s, r, hr, hb⟩, _⟩ := h
  exact ⟨s, r, Dig.of_rep hr hb⟩
theorem write_u (B g : Nat) (s : S8) (r l xs : List Nat) (p : Option Addr) (n c : Nat) (w : World) (hd : Dig w g l s r) (hxs : Bytes xs) (hp : Sl w w.heap.size g p xs) (hn : xs.length = n) (hc : n ≤ c) (hsz : l.length + n < 2305843009213693952) (hk : KAt w) (hB : B ≤ g) (hkB : 1 < B) :
    Calls Tryz.prog 75 #[.pointer (some ⟨g, 0, none⟩), .slice p n c] w fun e w' => e = .returned (.tuple #[]) ∧ (∃ s r, Dig w' g (l ++ xs) s r) ∧ But w.heap.size g w w' ∧ Below B w w' := by
  subst hn
  refine (write_t g s r l xs p c w hd hxs hp hc hsz hk (by omega)).mono ?_
  rintro e w' ⟨rfl, h⟩
  have h2 := h.2
  exact ⟨rfl, h.dig, h2, h2.below hB (by have := hd.blk.lt; omega)⟩
end Go.Proofs.YtidklgicmhdapaaGreatDoor
namespace Go.Proofs.YtidklgicmhdapaaGreatDoor
open Go Go.RowKit Sh

def zH : List Nat := List.replicate 32 0
theorem Sl.ne {w : World} {p : Option Addr} {xs : List Nat} {g : Nat} (h : Sr w p xs) (hg : ∀ a : Addr, p = some a → a.block ≠ g) : Sl w w.heap.size g p xs := fun hx => by
  obtain ⟨b, o, e, h1, h2⟩ := h hx
  exact ⟨b, o, e, h1, hg _ e, h2⟩
theorem hash_size (l : List Nat) (h : l.length = 32) : (Tryz.prog.info? 23).map (·.size) = some (u8s l).length := by
  rw [u8s_length, h]
  kernel_rfl
theorem u8s_oneD (xs : List Nat) : (u8s xs).toArray.all (·.oneCell') = true := all_oneCell_toArray (fun v hv => by
  unfold u8s at hv
  obtain ⟨x, _, rfl⟩ := List.mem_map.1 hv
  rfl)
end Go.Proofs.YtidklgicmhdapaaGreatDoor
namespace Go.Proofs.YtidklgicmhdapaaGreatDoor
open Go Go.RowKit Sh

theorem run_forIn_findS {P : Program} {β : Type} (r0 stop : β) (f : Nat → β → Sem (ForInStep β)) (bad : Nat → Bool) (w : World) : ∀ (ns : List Nat), (∀ i ∈ ns, (f i r0).run P w = .ok (if bad i then .done stop else .yield r0) w) → (forIn ns r0 f).run P w = .ok (if ns.any bad then stop else r0) w
  | [], _ => by simp [Sem.run_pure]
  | n :: ns, h => by
    have h1 := h n (List.mem_cons_self)
    cases hb : bad n with
    | true =>
      rw [hb] at h1
      simp only [List.forIn_cons, Sem.run_bind, h1, Result.andThen]
      simp [hb, Sem.run_pure]
    | false =>
      rw [hb] at h1
      simp only [List.forIn_cons, Sem.run_bind, h1, Result.andThen]
      simp only [Bool.false_eq_true, if_false]
      rw [run_forIn_findS r0 stop f bad w ns (fun i hi => h i (List.mem_cons_of_mem _ hi))]
      simp [hb]
theorem eqIn_u8sS (d t n : Nat) (ht : Tryz.prog.underlying t = some (.array n 5)) (xs ys : List Nat) (hx : xs.length = n) (hy : ys.length = n) (w : World) :
    (Op.equalIn (d + 2) t (.agg (u8s xs).toArray) (.agg (u8s ys).toArray)).run Tryz.prog w = .ok (decide (xs = ys)) w := by
  have h5 : (sizeOf 5).run Tryz.prog w = .ok 1 w := by kernel_rfl
  unfold Op.equalIn
  simp only [Sem.run_bind, run_underlying ht, Result.andThen_ok, h5, Nat.mul_one]
  have key : ∀ i, i < n → (Op.equalIn (d + 1) 5 (.int .u8 ((gt xs i : Nat) : Int)) (.int .u8 ((gt ys i : Nat) : Int))).run Tryz.prog w = .ok (decide (gt xs i = gt ys i)) w := fun i hi => by
    rw [run_equalIn_int w d 5 .u8 .u8 _ _ Tryz.underlying5]
    simp
    rw [Bool.eq_iff_iff]; simp; omega
  simp only [Std.Legacy.Range.forIn_eq_forIn_range', Std.Legacy.Range.size]
  rw [run_forIn_findS (none, ()) (some false, ()) _ (fun i => decide (gt xs i ≠ gt ys i)) w _ (fun i hi => by
    have hi2 : i < n := by simpa using hi
    simp only [Sem.run_bind, part_u8 xs i (by omega), part_u8 ys i (by omega), Result.andThen_ok, key i hi2]
    by_cases he : gt xs i = gt ys i
    · simp [he, Sem.run_pure]
    · simp [he, Sem.run_pure])]
  have ha : ((List.range' 0 ((n - 0 + 1 - 1) / 1)).any fun i => decide (gt xs i ≠ gt ys i)) = !decide (xs = ys) := by
    by_cases he : xs = ys
    · subst he
      simp
    · have : ∃ i, i < n ∧ gt xs i ≠ gt ys i := by
        refine Classical.byContradiction fun hno => he ?_
        apply List.ext_getElem (by omega)
        intro i h1 h2
        have h3 : gt xs i = gt ys i := Classical.byContradiction fun h => hno ⟨i, by omega, h⟩
        rwa [gt_of_lt h1, gt_of_lt h2] at h3
      obtain ⟨i, hi, hne⟩ := this
      simp only [he, decide_false, Bool.not_false]
      rw [List.any_eq_true]
      exact ⟨i, by simp; omega, by simpa using hne⟩
  rw [ha]
  by_cases he : xs = ys <;> simp [he, Result.andThen, Sem.run_pure]
theorem str_beqT (xs ys : List Nat) (hx : Bytes xs) (hy : Bytes ys) : ((str xs).toList == (str ys).toList) = decide (xs = ys) := by
  by_cases h : xs = ys
  · subst h; simp
  · have hne : (str xs).toList ≠ (str ys).toList := fun e => h (by rw [← bs_str xs hx, ← bs_str ys hy, bs, bs, e])
    rw [beq_eq_false_iff_ne.2 hne, decide_eq_false h]
end Go.Proofs.YtidklgicmhdapaaGreatDoor
