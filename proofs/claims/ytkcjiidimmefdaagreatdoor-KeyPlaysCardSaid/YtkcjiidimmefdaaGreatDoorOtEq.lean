/-
  EQUALITY of arrays of bytes, of secrets, of texts: whatever they hold.
-/
import Derived.Test.YtkcjiidimmefdaaGreatDoorOtWide
import Derived.Laws.StructEq
import Derived.Test.YtkcjiidimmefdaaGreatDoorPkM
namespace Go.Proofs.YtkcjiidimmefdaaGreatDoor
open Go Go.RowKit Sh

theorem run_forIn_find {P : Program} {β : Type} (r0 stop : β) (f : Nat → β → Sem (ForInStep β)) (bad : Nat → Bool) (w : World) : ∀ (ns : List Nat), (∀ i ∈ ns, (f i r0).run P w = .ok (if bad i then .done stop else .yield r0) w) → (forIn ns r0 f).run P w = .ok (if ns.any bad then stop else r0) w
  | [], _ => by simp [Sem.run_pure]
  | n :: ns, h => by
    have h1 := h n (List.mem_cons_self)
    cases hb : bad n with
    | true =>
      rw [hb] at h1
      simp only [List.forIn_cons, Sem.run_bind, h1, Result.andThen]
      simp [hb, Sem.run_pure]
    | false =>
      rw [hb] at h1
      simp only [List.forIn_cons, Sem.run_bind, h1, Result.andThen]
      simp only [Bool.false_eq_true, if_false]
      rw [run_forIn_find r0 stop f bad w ns (fun i hi => h i (List.mem_cons_of_mem _ hi))]
      simp [hb]
theorem eqIn_u8s (d t n : Nat) (ht : Tryz.prog.underlying t = some (.array n 5)) (xs ys : List Nat) (hx : xs.length = n) (hy : ys.length = n) (w : World) :
    (Op.equalIn (d + 2) t (.agg (u8s xs).toArray) (.agg (u8s ys).toArray)).run Tryz.prog w = .ok (decide (xs = ys)) w := by
  have h5 : (sizeOf 5).run Tryz.prog w = .ok 1 w := by kernel_rfl
  unfold Op.equalIn
  simp only [Sem.run_bind, run_underlying ht, Result.andThen_ok, h5, Nat.mul_one]
  have key : ∀ i, i < n → (Op.equalIn (d + 1) 5 (.int .u8 ((gt xs i : Nat) : Int)) (.int .u8 ((gt ys i : Nat) : Int))).run Tryz.prog w = .ok (decide (gt xs i = gt ys i)) w := fun i hi => by
    rw [run_equalIn_int w d 5 .u8 .u8 _ _ Tryz.underlying5]
    simp
    rw [Bool.eq_iff_iff]; simp; omega
  simp only [Std.Legacy.Range.forIn_eq_forIn_range', Std.Legacy.Range.size]
  rw [run_forIn_find (none, ()) (some false, ()) _ (fun i => decide (gt xs i ≠ gt ys i)) w _ (fun i hi => by
    have hi2 : i < n := by simpa using hi
    simp only [Sem.run_bind, part_u8 xs i (by omega), part_u8 ys i (by omega), Result.andThen_ok, key i hi2]
    by_cases he : gt xs i = gt ys i
    · simp [he, Sem.run_pure]
    · simp [he, Sem.run_pure])]
  have ha : ((List.range' 0 ((n - 0 + 1 - 1) / 1)).any fun i => decide (gt xs i ≠ gt ys i)) = !decide (xs = ys) := by
    by_cases he : xs = ys
    · subst he
      simp
    · have : ∃ i, i < n ∧ gt xs i ≠ gt ys i := by
        refine Classical.byContradiction fun hno => he ?_
        apply List.ext_getElem (by omega)
        intro i h1 h2
        have h3 : gt xs i = gt ys i := Classical.byContradiction fun h => hno ⟨i, by omega, h⟩
        rwa [gt_of_lt h1, gt_of_lt h2] at h3
      obtain ⟨i, hi, hne⟩ := this
      simp only [he, decide_false, Bool.not_false]
      rw [List.any_eq_true]
      exact ⟨i, by simp; omega, by simpa using hne⟩
  rw [ha]
  by_cases he : xs = ys <;> simp [he, Result.andThen, Sem.run_pure]
theorem eql_hash (xs ys : List Nat) (hx : xs.length = 32) (hy : ys.length = 32) (w : World) : (binOp .eql 25 (.agg (u8s xs).toArray) (.agg (u8s ys).toArray)).run Tryz.prog w = .ok (.bool (decide (xs = ys))) w := by
  rw [run_eql_struct, eqIn_u8s 9998 25 32 Tryz.underlying25 xs ys hx hy w]
  rfl
theorem str_list (l : List Nat) : (str l).data.toList = l.map UInt8.ofNat := by
  unfold str
  rw [strOfNums_data, List.map_map]
  exact List.map_congr_left fun x _ => by simp
theorem str_beq (xs ys : List Nat) (hx : Bytes xs) (hy : Bytes ys) : ((str xs).toList == (str ys).toList) = decide (xs = ys) := by
  rw [ByteArray.toList_eq, ByteArray.toList_eq, str_list, str_list]
  by_cases h : xs = ys
  · subst h; simp
  · have hne : xs.map UInt8.ofNat ≠ ys.map UInt8.ofNat := fun e => h (by
      have hl : xs.length = ys.length := by simpa using congrArg List.length e
      apply List.ext_getElem hl
      intro i h1 h2
      have h3 : (xs.map UInt8.ofNat)[i]? = (ys.map UInt8.ofNat)[i]? := by rw [e]
      rw [List.getElem?_map, List.getElem?_map, List.getElem?_eq_getElem h1, List.getElem?_eq_getElem h2] at h3
      have h4 := hx i
      have h5 := hy i
      rw [gt_of_lt h1] at h4
      rw [gt_of_lt h2] at h5
      have h6 : (UInt8.ofNat xs[i]).toNat = (UInt8.ofNat ys[i]).toNat := by
        have := Option.some.inj h3
        rw [this]
      rw [UInt8.toNat_ofNat', UInt8.toNat_ofNat'] at h6
      omega)
    rw [beq_eq_false_iff_ne.2 hne, decide_eq_false h]
set_option maxRecDepth 100000 in
theorem same_texts (xs ys : List Nat) (A B : Option Addr) (n m c d : Nat) (w : World) (hn : xs.length = n) (hm : ys.length = m) (ha : Sr w A xs) (hb : Sr w B ys) (hx : Bytes xs) (hy : Bytes ys) :
    Calls Tryz.prog 12 #[.slice A n c, .slice B m d] w fun e w' => e = .returned (.bool (decide (xs = ys))) ∧ w = w' := by
  have e1 := ha.conv hn c
  have e2 := hb.conv hm d
  have e3 := str_beq xs ys hx hy
  obtain ⟨b, hbb⟩ : ∃ b, decide (xs = ys) = b := ⟨_, rfl⟩
  rw [hbb] at e3 ⊢
  obtain ⟨s, hs⟩ : ∃ s, str xs = s := ⟨_, rfl⟩
  obtain ⟨t, ht⟩ : ∃ t, str ys = t := ⟨_, rfl⟩
  rw [hs] at e1 e3
  rw [ht] at e2 e3
  clear ha hb hx hy hbb hs ht hn hm
  go_enter Tryz.func12, Tryz.ntmps12
  go_wp2
  go_ret
  exact ⟨rfl, rfl⟩
end Go.Proofs.YtkcjiidimmefdaaGreatDoor
