/-
  THE REFERENCE OF CHAPTER 16: Dirty.
-/
import Derived.Test.YtgaiheaibejloaaDkX
import Derived.Maps.AppendAt
namespace Go.Proofs.Ytgaiheaibejloaa
open Go Go.RowKit Go.Maps Go.ChangeMaps Go.MapKept Sh

def dlB (D : Nat → Bool) (i : Nat) : List Nat := (List.range i).filter D
theorem dlB_succ (D : Nat → Bool) (i : Nat) : dlB D (i + 1) = if D i then dlB D i ++ [i] else dlB D i := by
  unfold dlB
  rw [List.range_succ, List.filter_append]
  cases h : D i <;> simp [h]
theorem dlB_le (D : Nat → Bool) (i : Nat) : (dlB D i).length ≤ i := by
  have := List.length_filter_le D (List.range i)
  rwa [List.length_range] at this
def iC (l : List Nat) : List Value := l.map fun (n : Nat) => .int .i64 (n : Int)
theorem int_infoD : (Try.prog.info? 3).map (fun i => (i.zero, i.size, i.bytes)) = some (some (.int .i64 0), 1, 8) := by kernel_rfl
section
variable {w w' : World} {rb rl k : Nat} {I W : Nat → List Nat} {D : Nat → Bool}
set_option maxRecDepth 100000 in
set_option maxHeartbeats 2000000 in
theorem rDirty_t (h : RK w rb rl k I W D) : Calls Try.prog 25 #[.pointer (some ⟨rb, 0, none⟩)] w fun e w' => ∃ v, e = .returned v ∧ w'.ownsRow w.heap.size 3 1 v (dlB D k).length (iC (dlB D k)) ∧ Below w.heap.size w w' := by
  have H0 := Lib.hid h
  have jk := h.kk
  have k1 : (k : Int) ≤ 4096 := by omega
  obtain ⟨i0, hi, hz0, hz1, hz2⟩ := info_parts int_infoD
  clear h
  go_enter Try.func25, Try.ntmps25
  go_wp2_with fail
  go_loopw [3, 4] (fun s3 s4 wr => ∃ (i : Nat) (v : Value), i ≤ k ∧ s3 = v ∧ s4 = .int .i64 (i : Int) ∧ wr.ownsRow w.heap.size 3 1 v (dlB D i).length (iC (dlB D i)) ∧ Below w.heap.size w wr) (fun _ s _ => k - (intOf s).toNat)
  case atStart => exact ⟨0, _, Nat.zero_le _, rfl, rfl, World.ownsRow_nil _ _ _ _, Below.refl _ _⟩
  case round =>
    obtain ⟨i, v, hi2, rfl, rfl, ho, hb⟩ := hrel
    have O1 := Lib.hid ho; have B1 := Lib.hid hb
    have H1 := Lib.hid (H0.out.below hb)
    have c0 := H1.out.c0
    clear ho hb
    by_cases hlt : i < k
    · have i1 : (i : Int) < (k : Int) := by omega
      have cd := H1.out.dirty hlt
      have HD := Lib.hid (dlB_succ D i)
      have LE := dlB_le D i
      obtain ⟨d, hd⟩ : ∃ z, D i = z := ⟨_, rfl⟩
      rw [hd] at cd HD
      clear hd
      cases d with
      | false =>
        have hs := HD.out
        rw [if_neg (by simp)] at hs
        have O2 := Lib.hid O1.out
        rw [← hs] at O2
        clear O1 hs HD
        go_wp2_with fail
        go_roundw
        case rel => exact ⟨i + 1, _, hlt, rfl, by go_num, O2.out, B1.out⟩
        case measure => simp [intOf]; omega
      | true =>
        have hs := Lib.hid HD.out
        go_wp2_with (at_builtin; refine wpList_append_own_at _ rfl _ _ 28 rfl w.heap.size 3 i0 (.int .i64 0) 1 8 Try.underlying28 hi hz0 hz1 hz2 rfl (by decide) _ _ _ rfl (O1.out.alloc _) ⟨wr.heap.size, 0, none⟩ 1 1 [.int .i64 (i : Int)] rfl rfl (cell_one_new _ _ _) (ints_oneCell .i64 [(i : Int)]) (by unfold maxLen; omega) (by omega) (by have := B1.out.size; simp; omega) ?_; intro v2 w2 o2 g2 _ _)
        have hs2 := hs.out
        rw [if_pos rfl] at hs2
        have o3 : w2.ownsRow w.heap.size 3 1 v2 (dlB D (i + 1)).length (iC (dlB D (i + 1))) := by
          rw [hs2, List.length_append]
          unfold iC
          rw [List.map_append]
          exact o2
        have O3 := Lib.hid o3
        have B3 := Lib.hid ((B1.out.alloc (B1.out.size) (.cells #[.int .i64 (i : Int)] 3)).grown g2 (by have := B1.out.size; simp; omega) (own_ge (O1.out.alloc (.cells #[.int .i64 (i : Int)] 3))))
        clear o2 g2 o3 hs hs2 O1 B1 HD
        go_roundw
        case rel => exact ⟨i + 1, _, hlt, rfl, by go_num, O3.out, B3.out⟩
        case measure => simp [intOf]; omega
    · obtain rfl : i = k := by omega
      clear hlt
      go_wp2_with fail
      go_ret
      exact ⟨_, rfl, O1.out, B1.out⟩
end
end Go.Proofs.Ytgaiheaibejloaa
