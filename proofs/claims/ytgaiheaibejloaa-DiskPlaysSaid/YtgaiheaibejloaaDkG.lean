/-
  PACKAGE disk: Dirty.
-/
import Derived.Test.YtgaiheaibejloaaDkA
import Derived.Test.YtgaiheaibejloaaDkL
import Derived.Lib.SlKeysI
import Derived.OpenShut
namespace Go.Proofs.Ytgaiheaibejloaa
open Go Go.RowKit Go.Maps Go.ChangeMaps Go.MapKept Sh Go.Shelf

/-- The numbers of the dirty sectors, rising. -/
def dlN (M : Nat → Option (List Nat)) (k : Nat) : List Nat := (List.range k).filter fun j => (M j).isSome
def dlI (M : Nat → Option (List Nat)) (k : Nat) : List Int := (dlN M k).map fun (j : Nat) => (j : Int)
theorem dlI_length (M : Nat → Option (List Nat)) (k : Nat) : (dlI M k).length = (dlN M k).length := List.length_map _
theorem dlI_rises (M : Nat → Option (List Nat)) (k : Nat) : (dlI M k).Pairwise (fun a b => a < b) := by
  unfold dlI dlN
  refine List.pairwise_map.2 ?_
  exact (List.Pairwise.filter _ List.pairwise_lt_range).imp (fun h => by omega)
theorem dlI_sorted (M : Nat → Option (List Nat)) (k : Nat) : (dlI M k).mergeSort leI = dlI M k :=
  List.mergeSort_of_pairwise ((dlI_rises M k).imp (fun h => by simp only [leI, decide_eq_true_eq]; omega))
theorem has_wf {w : World} {b n : Nat} {D : DataW Value} (hown : w.ownsMap Try.prog 3 secR b n D) {x : Int} (h : Maps.has D (.int .i64 x) = true) : (Lit.int .i64 x).wf = true := by
  obtain ⟨es, rfl, hko⟩ := hown.keysOf
  rw [has_eq, List.any_eq_true] at h
  obtain ⟨p, hp, hs⟩ := h
  obtain ⟨v, hv⟩ := hko p hp
  obtain ⟨y, _, hy, hl⟩ := Maps.keyOf_i64 Try.underlying3 hv
  rw [hy] at hs
  have : y = x := by simpa [Lit.sameKey] using hs
  rw [← this]; exact hl
section
variable {w : World} {g bs bm k n : Nat} {S : Nat → List Nat} {M : Nat → Option (List Nat)} {D : DataW Value}
theorem dl_perm (hd : DK w g bs bm k n S M) (hown : w.ownsMap Try.prog 3 secR bm n D) (hm : ∀ x, InI x → ∀ z, D.atKey (.int .i64 x) z = (mi M x).elim z (fun l => .held (secV l))) : (dlI M k).Perm (intKeys D) := by
  refine CollectedI.perm (left := fun _ => false) ⟨?_, fun x => ?_⟩ hown law Try.underlying3 (fun _ => rfl)
  · exact (dlI_rises M k).imp (fun h => by omega)
  · have key : ∀ x, InI x → (Maps.has D (.int .i64 x) = true ↔ (mi M x).isSome = true) := fun x hx => by
      have hat := hm x hx
      cases hc : mi M x with
      | none =>
        rw [hc] at hat
        rw [Maps.has_false_of_atKey (fun z => hat z)]
        simp
      | some l =>
        rw [hc] at hat
        rw [Maps.has_true_of_atKey (fun z => hat z)]
        simp
    constructor
    · intro h
      obtain ⟨j, hj, rfl⟩ := List.mem_map.1 h
      obtain ⟨h1, h2⟩ := List.mem_filter.1 hj
      have hjk := List.mem_range.1 h1
      refine ⟨(key (j : Int) ⟨by omega, by have := hd.kk; omega⟩).2 (by rw [mi_nat]; exact h2), rfl⟩
    · rintro ⟨h, _⟩
      have hx : InI x := bounds_i64 (has_wf hown h)
      have h2 := (key x hx).1 h
      have hpos : 0 ≤ x := by
        unfold mi at h2
        split at h2
        · cases h2
        · omega
      obtain ⟨j, rfl⟩ : ∃ j : Nat, x = (j : Int) := ⟨x.toNat, by omega⟩
      rw [mi_nat] at h2
      obtain ⟨l, hl⟩ := Option.isSome_iff_exists.1 h2
      exact List.mem_map.2 ⟨j, List.mem_filter.2 ⟨List.mem_range.2 (hd.mS j l hl).2, h2⟩, rfl⟩
/-- slices.Sort's two contracts, at the fence that asks nothing. -/
theorem sortsA (m : Nat) : AnyZI.SortsIn Try.prog sortedA_ren Fence.wide m :=
  ⟨fun blk off cap ss W hH hblk hsz => callsIn_wide.2 (AnyM.slices_Sort_int sortA blk off cap ss W hH hblk hsz),
   fun p cap W => callsIn_wide.2 (AnyM.slices_Sort_int_none sortA p cap W)⟩
theorem keys_t (mb : Option Nat) (W : World) : Calls Try.prog 24 #[.map mb] W fun e w' => e = .returned (.func (.func 28) #[] #[.pointer (some ⟨W.heap.size, 0, none⟩)]) ∧ w' = W.alloc (.cells #[.map mb] 49) :=
  (callsIn_wide (n := 5)).1 (AnyZI.keys_in keysA Fence.wide 5 trivial rfl mb W)
theorem sorted_t (hown : w.ownsMap Try.prog 3 secR bm n D) (hn : n < 1000) : Calls Try.prog 23 #[.func (.func 28) #[] #[.pointer (some ⟨w.heap.size, 0, none⟩)]] (w.alloc (.cells #[.map (some bm)] 49)) fun e w' => ∃ (v : Value) (ss : List Int), e = .returned v ∧ ss.Perm (intKeys D) ∧
    w'.ownsRow (w.alloc (.cells #[.map (some bm)] 49)).heap.size 3 1 v ss.length ((ss.mergeSort leI).map encZ) ∧ (v = .slice none 0 0 ↔ ss = []) ∧ Below (w.alloc (.cells #[.map (some bm)] 49)).heap.size (w.alloc (.cells #[.map (some bm)] 49)) w' := by
  have hbl := hown.lt
  have hsz := hown.size_le
  have hseq : SeqGives Fence.wide 2 Try.prog 28 #[.pointer (some ⟨w.heap.size, 0, none⟩)] encZ (fun ss => ss.Perm (intKeys D)) (Maps.size D) (w.alloc (.cells #[.map (some bm)] 49)) :=
    AnyZI.keys_gives (ρ := keysA_ren) { keysA with } Fence.wide _ trivial rfl (by omega) w.heap.size bm n D _ (by simp) (by simp) (hown.alloc _)
  exact (callsIn_wide (n := 5)).1 (AnyZI.sorted_in sortedA Fence.wide 5 trivial trivial trivial trivial rfl (by omega) (sortsA _) (enters_of Try.func27 (by kernel_rfl) rfl) 28 #[.pointer (some ⟨w.heap.size, 0, none⟩)] trivial (enters_of Try.func28 (by kernel_rfl) rfl) _ _ (by unfold maxLen; omega) (by omega) _ hseq)
set_option maxRecDepth 100000 in
set_option maxHeartbeats 1000000 in
theorem dDirty_t (hn : n < 1000) (h : DK w g bs bm k n S M) : Calls Try.prog 10 #[.pointer (some ⟨g, 0, none⟩)] w fun e w' => ∃ v, e = .returned v ∧ w'.ownsRow w.heap.size 3 1 v (dlN M k).length ((dlI M k).map encZ) ∧ Below w.heap.size w w' := by
  obtain ⟨D, hown, hm⟩ := h.m
  have HP := Lib.hid (dl_perm h hown hm)
  have KT := Lib.hid (keys_t (some bm) w)
  have ST := Lib.hid (sorted_t hown hn)
  have c1 := h.c1
  clear h hm hown hn
  go_enter Try.func10, Try.ntmps10
  go_wp2_with (first
    | (go_at_call 24; refine KT.out.mono ?_; rintro e w' ⟨rfl, rfl⟩)
    | (go_at_call 23; refine ST.out.mono ?_; rintro e w' ⟨v, ss, rfl, hS, hrow, hnil, hb⟩))
  go_ret
  have hs : ss.mergeSort leI = dlI M k := by rw [← dlI_sorted]; exact mergeSort_of_perm_i (hS.trans HP.out.symm)
  have hl : ss.length = (dlN M k).length := by rw [← dlI_length, ← hs, List.length_mergeSort]
  rw [hs, hl] at hrow
  have b0 := (Below.refl w.heap.size w).alloc (Nat.le_refl _) (.cells #[.map (some bm)] 49)
  exact ⟨v, rfl, Go.Proofs.ownsRow_base_a hrow (by simp), b0.trans (hb.mono (by simp))⟩
theorem dDirty_nil (w : World) : Calls Try.prog 10 #[.pointer none] w fun e w' => e = .returned (.slice none 0 0) ∧ w' = w := by
  go_enter Try.func10, Try.ntmps10
  go_wp2
  go_ret
  exact ⟨rfl, rfl⟩
end
end Go.Proofs.Ytgaiheaibejloaa
