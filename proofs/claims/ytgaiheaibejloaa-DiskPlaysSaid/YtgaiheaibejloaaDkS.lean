/-
  chirographref1.Same; Sync of nil; what a crash with nothing kept leaves.
-/
import Derived.Test.YtgaiheaibejloaaDkT
namespace Go.Proofs.Ytgaiheaibejloaa
open Go Go.RowKit Go.Maps Go.ChangeMaps Go.MapKept Sh

theorem Sr.conv {w : World} {A : Option Addr} {xs : List Nat} {n : Nat} (h : Sr w A xs) (hn : xs.length = n) (c : Nat) : (convert 26 9 (.slice A n c)).run Try.prog w = .ok (.string (str xs)) w :=
  conv_bytes w 26 5 9 Try.underlying26 Try.underlying5 Try.underlying9 A n c xs hn fun hx => by obtain ⟨b, o, e, _, h2⟩ := h hx; exact ⟨b, o, e, h2⟩
theorem str_listD (l : List Nat) : (str l).data.toList = l.map UInt8.ofNat := by
  unfold str
  rw [strOfNums_data, List.map_map]
  exact List.map_congr_left fun x _ => by simp
theorem str_beqD (xs ys : List Nat) (hx : Bytes xs) (hy : Bytes ys) : ((str xs).toList == (str ys).toList) = decide (xs = ys) := by
  rw [ByteArray.toList_eq, ByteArray.toList_eq, str_listD, str_listD]
  by_cases h : xs = ys
  · subst h; simp
  · have hne : xs.map UInt8.ofNat ≠ ys.map UInt8.ofNat := fun e => h (by
      have hl : xs.length = ys.length := by simpa using congrArg List.length e
      apply List.ext_getElem hl
      intro i h1 h2
      have h3 : (xs.map UInt8.ofNat)[i]? = (ys.map UInt8.ofNat)[i]? := by rw [e]
      rw [List.getElem?_map, List.getElem?_map, List.getElem?_eq_getElem h1, List.getElem?_eq_getElem h2] at h3
      have h4 := hx i
      have h5 := hy i
      rw [gt_of_lt h1] at h4
      rw [gt_of_lt h2] at h5
      have h6 : (UInt8.ofNat xs[i]).toNat = (UInt8.ofNat ys[i]).toNat := by
        have := Option.some.inj h3
        rw [this]
      rw [UInt8.toNat_ofNat', UInt8.toNat_ofNat'] at h6
      omega)
    rw [beq_eq_false_iff_ne.2 hne, decide_eq_false h]
theorem same_textsD (xs ys : List Nat) (A B : Option Addr) (n m c d : Nat) (w : World) (hn : xs.length = n) (hm : ys.length = m) (ha : Sr w A xs) (hb : Sr w B ys) (hx : Bytes xs) (hy : Bytes ys) :
    Calls Try.prog 19 #[.slice A n c, .slice B m d] w fun e w' => e = .returned (.bool (decide (xs = ys))) ∧ w = w' := by
  have e1 := ha.conv hn c
  have e2 := hb.conv hm d
  have e3 := str_beqD xs ys hx hy
  obtain ⟨b, hbb⟩ : ∃ b, decide (xs = ys) = b := ⟨_, rfl⟩
  rw [hbb] at e3 ⊢
  obtain ⟨s, hs⟩ : ∃ s, str xs = s := ⟨_, rfl⟩
  obtain ⟨t, ht⟩ : ∃ t, str ys = t := ⟨_, rfl⟩
  rw [hs] at e1 e3
  rw [ht] at e2 e3
  clear ha hb hx hy hbb hs ht hn hm
  go_enter Try.func19, Try.ntmps19
  go_wp2
  go_ret
  exact ⟨rfl, rfl⟩
theorem dSync_nil (w : World) : Calls Try.prog 9 #[.pointer none] w fun e w' => e = .returned (.tuple #[]) ∧ w' = w := by
  go_enter Try.func9, Try.ntmps9
  go_wp2_with fail
  refine bodyPost_ret (results_none rfl _ _ _) rfl ?_
  exact ⟨rfl, rfl⟩
theorem pad_row {xs : List Nat} {q : Nat} (hx : xs.length = q) : [] ++ (u8s xs ++ u8s (List.replicate (64 - q) 0)) = u8s (pad xs) := by rw [List.nil_append, ← u8s_app]; unfold pad; rw [hx]
theorem zero_row {q : Nat} (hq : q ≤ 64) : u8s zeroL = [] ++ (u8s (List.replicate q 0) ++ u8s (List.replicate (64 - q) 0)) := by
  rw [List.nil_append, ← u8s_app, List.replicate_append_replicate, show q + (64 - q) = 64 by omega]
  rfl
theorem rep_len {xs : List Nat} {q : Nat} (hx : xs.length = q) : (u8s (List.replicate q 0)).length = (u8s xs).length := by rw [u8s_length, u8s_length, hx, List.length_replicate]
theorem min_len {xs : List Nat} {q : Nat} (hx : xs.length = q) (hq : q ≤ 64) : (u8s xs).length = Nat.min q 64 := by rw [u8s_length, hx]; exact (Nat.min_eq_left hq).symm
theorem cp_from {xs : List Nat} {gx : Nat} {A : Option Addr} {W : World} (h : Sr W A xs) : 0 < (u8s xs).length → (some ⟨gx, 0, none⟩ : Option Addr) = some ⟨gx, 0, none⟩ ∧ ∃ ad, A = some ad ∧ ∀ j v, (u8s xs)[j]? = some v → W.cell? (ad.add j) = some v := fun h0 => ⟨rfl, h.cells (by rwa [u8s_length] at h0)⟩
theorem own_ge {w : World} {base : Nat} {e : TypeId} {size : Nat} {v : Value} {n : Nat} {xs : List Value} (h : w.ownsRow base e size v n xs) : ∀ j, v.ownBlock = some j → base ≤ j := by
  rcases h.2 with ⟨rfl, _⟩ | ⟨gb, cap, cur, rfl, hb, _⟩
  · intro j hj; simp [Value.ownBlock] at hj
  · intro j hj
    have : gb = j := by simpa [Value.ownBlock] using hj
    omega
end Go.Proofs.Ytgaiheaibejloaa
