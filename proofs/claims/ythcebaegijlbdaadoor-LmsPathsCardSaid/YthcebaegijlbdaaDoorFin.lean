import Derived.Test.YthcebaegijlbdaaDoorDig
import Derived.Deep.DeepCutAuto
namespace Go.Proofs.YthcebaegijlbdaaDoor
open Go.RowKit Sh
/-- The last block but for its length: what is left, the one bit, zeros. -/
def finA (r : List Nat) (k : Nat) : List Nat := (r.set k 128).take (k + 1) ++ List.replicate (63 - k) 0
def finB (s : S8) (r : List Nat) (k : Nat) : S8 × List Nat := if 56 ≤ k then (cmp s (sched (finA r k) 0), List.replicate 64 0) else (s, finA r k)
def finC (r : List Nat) (n i : Nat) : List Nat := r.take 56 ++ ((len8 (8 * n)).take i ++ r.drop (56 + i))
def finD (s : S8) (r : List Nat) (n : Nat) : S8 × List Nat := finB (if n = 0 then h0 else s) r (n % 64)
def fin (s : S8) (r : List Nat) (n : Nat) : S8 := cmp (finD s r n).1 (sched (finC (finD s r n).2 n 8) 0)
theorem finA_length (r : List Nat) (k : Nat) (hr : r.length = 64) (hk : k < 64) : (finA r k).length = 64 := by simp [finA, hr]; omega
theorem bytes_mem {l : List Nat} : Bytes l ↔ ∀ x ∈ l, x < 256 := by
  constructor
  · intro h x hx
    obtain ⟨i, hi, rfl⟩ := List.mem_iff_getElem.1 hx
    have := h i
    rwa [gt_of_lt hi] at this
  · intro h i
    rcases Nat.lt_or_ge i l.length with hi | hi
    · rw [gt_of_lt hi]; exact h _ (List.getElem_mem hi)
    · rw [gt_out hi]; decide
theorem finA_bytes (r : List Nat) (k : Nat) (hb : Bytes r) : Bytes (finA r k) := by
  rw [bytes_mem] at *
  intro x hx
  rcases List.mem_append.1 hx with h | h
  · rcases List.mem_or_eq_of_mem_set (List.mem_of_mem_take h) with h | h
    · exact hb x h
    · omega
  · rw [List.eq_of_mem_replicate h]; decide
theorem zeros_bytes (n : Nat) : Bytes (List.replicate n 0) := by
  rw [bytes_mem]; intro x hx; rw [List.eq_of_mem_replicate hx]; decide
theorem len8_length (n : Nat) : (len8 n).length = 8 := rfl
theorem finC_bytes (r : List Nat) (n i : Nat) (hb : Bytes r) : Bytes (finC r n i) := by
  rw [bytes_mem] at *
  intro x hx
  rcases List.mem_append.1 hx with h | h
  · exact hb x (List.mem_of_mem_take h)
  · rcases List.mem_append.1 h with h | h
    · obtain ⟨j, _, rfl⟩ := List.mem_map.1 (List.mem_of_mem_take h)
      exact Nat.mod_lt _ (by decide)
    · exact hb x (List.mem_of_mem_drop h)
theorem finC_length (r : List Nat) (n i : Nat) (hr : r.length = 64) (hi : i ≤ 8) : (finC r n i).length = 64 := by
  simp [finC, hr, len8_length]; omega
theorem finC_set (r : List Nat) (n i : Nat) (hr : r.length = 64) (hi : i < 8) : (finC r n i).set (56 + i) (8 * n / 2 ^ (56 - 8 * i) % 256) = finC r n (i + 1) := by
  have e : r.drop (56 + i) = r[56 + i]'(by omega) :: r.drop (56 + (i + 1)) := by rw [List.drop_eq_getElem_cons (by omega)]; rfl
  have e2 : (len8 (8 * n)).take (i + 1) = (len8 (8 * n)).take i ++ [8 * n / 2 ^ (56 - 8 * i) % 256] := by
    rw [List.take_succ_eq_append_getElem (by rw [len8_length]; exact hi)]
    simp [len8]
  unfold finC
  rw [e2, e, List.set_append_right _ _ (by rw [List.length_take, hr]; omega), List.set_append_right _ _ (by rw [List.length_take, List.length_take, hr, len8_length]; omega)]
  have e3 : 56 + i - (r.take 56).length - ((len8 (8 * n)).take i).length = 0 := by
    have h1 : (r.take 56).length = 56 := by rw [List.length_take, hr]; rfl
    have h2 : ((len8 (8 * n)).take i).length = i := by rw [List.length_take, len8_length]; omega
    omega
  rw [e3]
  simp

theorem finB_ok (s : S8) (r : List Nat) (k : Nat) (hs : s.ok) (hr : r.length = 64) (hb : Bytes r) (hk : k < 64) : (finB s r k).2.length = 64 ∧ Bytes (finB s r k).2 ∧ (finB s r k).1.ok := by
  unfold finB
  by_cases h : 56 ≤ k
  · rw [if_pos h]; exact ⟨List.length_replicate, zeros_bytes 64, cmp_ok _ _⟩
  · rw [if_neg h]; exact ⟨finA_length r k hr hk, finA_bytes r k hb, hs⟩
theorem finD_ok (s : S8) (r : List Nat) (n : Nat) (hs : s.ok) (hr : r.length = 64) (hb : Bytes r) : (finD s r n).2.length = 64 ∧ Bytes (finD s r n).2 ∧ (finD s r n).1.ok := by
  refine finB_ok _ r _ ?_ hr hb (Nat.mod_lt _ (by decide))
  by_cases h : n = 0
  · rw [if_pos h]; exact h0_ok
  · rw [if_neg h]; exact hs
theorem D_join (s : S8) (x y : List Nat) (n : Nat) : (u32s s.list ++ u8s x) ++ (u8s y ++ [.int .u64 (n : Int)]) = D s (x ++ y) n := by
  unfold D u8s
  simp
set_option maxRecDepth 100000 in
set_option maxHeartbeats 1000000 in
theorem finish_t (s : S8) (r : List Nat) (n : Nat) (w : World) (hs : s.ok) (hr : r.length = 64) (hb : Bytes r) (hn : n < 2305843009213693952) (hk : KAt w) :
    Calls Tryd.prog 71 #[.agg (D s r n).toArray] w fun e w' => e = .returned (.agg (u8s (out (fin s r n))).toArray) ∧ Below w.heap.size w w' := by
  have HS := Lib.hid hs; have HR := Lib.hid hr; have HB := Lib.hid hb; have HN := Lib.hid hn; have HK := Lib.hid hk
  clear hs hr hb hk
  go_enter Tryd.func71, Tryd.ntmps71
  go_wp2_with fail
  refine (begin_t w.heap.size s r n _ HR.out ((Blk.new w 128 _).alloc _)).mono ?_
  rintro e W1 ⟨rfl, hg, hbut⟩
  have hat : n % 64 < 64 := Nat.mod_lt _ (by decide)
  have c := hg.cell 72
  rw [D_size _ r n HR.out] at c
  have hs0ok : (if n = 0 then h0 else s).ok := by by_cases h : n = 0; (rw [if_pos h]; exact h0_ok); (rw [if_neg h]; exact HS.out)
  have HF : Hid (finD s r n = finB (if n = 0 then h0 else s) r (n % 64)) := rfl
  have HFIN : Hid (fin s r n = cmp (finD s r n).1 (sched (finC (finD s r n).2 n 8) 0)) := rfl
  generalize hs0 : (if n = 0 then h0 else s) = s0 at *
  have HS0 := Lib.hid hs0ok
  have hB2 : Blk W1 (w.heap.size + 1) 24 (u8s (List.replicate 32 0)) := (Blk.new2 w _ 24 _).but hbut (by simp) (by omega)
  have hB3 : Below w.heap.size w W1 := (((Below.refl _ w).alloc (Nat.le_refl _) _).alloc (by simp) _).trans (hbut.below (Nat.le_refl _) (by simp; omega))
  have hB4 : w.heap.size + 2 ≤ W1.heap.size := by have := hbut.size; simp at this; omega
  have hex : ∃ v, W1.cell? ⟨w.heap.size, 8 + n % 64, none⟩ = some v := by
    rw [hg.cell]; exact ⟨_, List.getElem?_eq_getElem (by rw [D_length _ _ _ HR.out]; omega)⟩
  obtain ⟨v, hv⟩ := hex
  have f := hg.frozen (8 + n % 64)
  have hst := hg.store (8 + n % 64) (.int .u8 ((128 : Nat) : Int))
  rw [D_set _ _ _ _ _ (by rw [HR.out]; exact hat), D_split _ _ _ (n % 64 + 1)] at hst
  have hM : 63 - n % 64 = (u8s ((r.set (n % 64) 128).drop (n % 64 + 1))).length := by rw [u8s_length, List.length_drop, List.length_set, HR.out]; omega
  have hA : 8 + (n % 64 + 1) = (u32s s0.list ++ u8s ((r.set (n % 64) 128).take (n % 64 + 1))).length := by
    rw [List.length_append, u8s_length, List.length_take, List.length_set, HR.out]; simp [u32s, S8.list]; omega
  obtain ⟨p, hp, hsl⟩ := sliceAt_low (P := Tryd.prog) (t := 126) (e := 5) (n := 64) Tryd.underlying126 (by kernel_rfl) w.heap.size 8 .i64 ((n : Int) % 64 + 1) (63 - n % 64) (by omega) (by omega) (by omega)
  have hp2 : 0 < 63 - n % 64 → p = some ⟨w.heap.size, 8 + (n % 64 + 1), none⟩ := fun h => by rw [hp h]; congr 2; try omega
  clear hp
  have HG := Lib.hid hg; have HST := Lib.hid hst; have HM := Lib.hid hM; have HA := Lib.hid hA; have HP := Lib.hid hp2; have HB2 := Lib.hid hB2; have HB3 := Lib.hid hB3; have HB4 := Lib.hid hB4
  clear hg hbut hs0 hst hM hA hp2 hs0ok hB2 hB3 hB4
  have i1 : (n : Int) % 64 < 64 := by omega
  have i0 : 0 ≤ (n : Int) % 64 := by omega
  go_upto_if 19 with ((with_reducible refine at_op (.call { callee := .builtin .clear, args := #[.tmp 17], argTypes := #[27] }) rfl ?_); refine clear_part (.tmp 17) 27 5 w.heap.size (8 + (n % 64 + 1)) (63 - n % 64) (63 - n % 64) p 128 _ _ _ rfl rfl HST.out HA.out HM.out Tryd.underlying27 (by kernel_rfl) rfl HP.out ?_; intro w2 a1 a2 a3)
  have hg2 := a1.out
  rw [D_join] at hg2
  have hfa : (r.set (n % 64) 128).take (n % 64 + 1) ++ List.replicate (63 - n % 64) 0 = finA r (n % 64) := rfl
  rw [hfa] at hg2
  have hs3 : (W1.setCell ⟨w.heap.size, 8 + n % 64, none⟩ (.int .u8 128)).heap.size = W1.heap.size := by simp [World.setCell]
  have hb2 : But W1.heap.size w.heap.size W1 w2 := ((But.refl _ _ W1).setCell _ _).trans (a2.out.mono (by rw [hs3]; exact Nat.le_refl _))
  have h2 : Blk w2 (w.heap.size + 1) 24 (u8s (List.replicate 32 0)) := HB2.out.but hb2 (by have := HB4.out; omega) (by omega)
  have h3 : Below w.heap.size w w2 := HB3.out.trans (hb2.below (Nat.le_refl _) (by have := HB4.out; omega))
  have h4 : w.heap.size + 2 ≤ w2.heap.size := by have := hb2.size; have := HB4.out; omega
  clear a1 a2 a3 hfa hb2 hs3 HB2 HB3 HB4 HST HG HM HA HP
  have HG := Lib.hid hg2; have H2 := Lib.hid h2; have H3 := Lib.hid h3; have H4 := Lib.hid h4
  clear hg2 h2 h3 h4
  go_cut [] (fun wx => Blk wx w.heap.size 128 (D (finD s r n).1 (finD s r n).2 n) ∧ Blk wx (w.heap.size + 1) 24 (u8s (List.replicate 32 0)) ∧ Below w.heap.size w wx ∧ w.heap.size + 2 ≤ wx.heap.size)
  case first =>
    by_cases h56 : 56 ≤ n % 64
    · have i56 : (56 : Int) ≤ (n : Int) % 64 := by omega
      have hf : finD s r n = (cmp s0 (sched (finA r (n % 64)) 0), List.replicate 64 0) := by rw [HF.out, finB, if_pos h56]
      have HF2 := Lib.hid hf
      have hla := finA_length r (n % 64) HR.out hat
      have HLA := Lib.hid hla
      clear HF hf h56 hla
      have hg3 : Blk w2 w.heap.size 128 ([] ++ (u32s s0.list ++ (u8s (finA r (n % 64)) ++ [.int .u64 (n : Int)]))) := HG.out
      have HG3 := Lib.hid hg3
      have z1 := z42 s0
      have z2 := z42 (cmp s0 (sched (finA r (n % 64)) 0))
      have Z1 := Lib.hid z1; have Z2 := Lib.hid z2
      clear z1 z2 hg3
      go_wp2_with (first
        | ((with_reducible refine load_part 125 (.tmp 20) w.heap.size 0 128 [] (u32s s0.list) (u8s (finA r (n % 64)) ++ [.int .u64 (n : Int)]) _ rfl rfl ?_ ?_ Tryd.underlying125 ?_ ?_ ?_ ?_); exact HG3.out; exact rfl; exact rfl; exact Z1.out; exact rfl))
      refine (mixed_t s0 HS0.out (finA r (n % 64)) w.heap.size 8 w2 HLA.out (finA_bytes r _ HB.out) (D_bytes HG.out HLA.out) (by have := H4.out; omega) (HK.out.below H3.out HK.out.lt)).mono ?_
      rintro e w3 ⟨rfl, hb3⟩
      generalize cmp s0 (sched (finA r (n % 64)) 0) = s1 at *
      have hg3 : Blk w3 w.heap.size 128 ([] ++ (u32s s0.list ++ (u8s (finA r (n % 64)) ++ [.int .u64 (n : Int)]))) := HG3.out.below hb3 HG.out.lt
      have h2 := H2.out.below hb3 H2.out.lt
      have h3 := H3.out.trans (hb3.mono (by have := H4.out; omega))
      have h4 : w.heap.size + 2 ≤ w3.heap.size := by have := hb3.size; have := H4.out; omega
      clear HG HG3 H2 H3 H4 hb3
      have HG := Lib.hid hg3; have H2 := Lib.hid h2; have H3 := Lib.hid h3; have H4 := Lib.hid h4
      clear hg3 h2 h3 h4
      have hA : 8 = (u32s s1.list).length := (len8s s1).symm
      have hM : 64 = (u8s (finA r (n % 64))).length := by rw [u8s_length, HLA.out]
      have hll : (u32s s0.list).length = (u32s s1.list).length := (len8s s0).trans (len8s s1).symm
      have HLL := Lib.hid hll
      clear hll
      have HA := Lib.hid hA; have HM := Lib.hid hM
      have hsa := sliceAt_all (P := Tryd.prog) (t := 126) (e := 5) (n := 64) Tryd.underlying126 (by kernel_rfl) w.heap.size 8
      clear hA hM
      go_wp2_with (first
        | ((with_reducible refine store_part 125 (.tmp 24) (.tmp 23) w.heap.size 0 128 [] (u32s s0.list) (u8s (finA r (n % 64)) ++ [.int .u64 (n : Int)]) (u32s s1.list) rfl rfl ?_ ?_ ?_ ?_ ?_ ?_ ?_ ?_); exact HG.out; exact rfl; exact HLL.out; exact Z2.out; exact u32s_one _; exact rfl; exact rfl; intro w4 a1 a2 a3)
        | ((with_reducible refine at_op (.call { callee := .builtin .clear, args := #[.tmp 26], argTypes := #[27] }) rfl ?_); refine clear_part (.tmp 26) 27 5 w.heap.size 8 64 64 (some ⟨w.heap.size, 8, none⟩) 128 (u32s s1.list) (u8s (finA r (n % 64))) [.int .u64 (n : Int)] rfl rfl a1.out HA.out HM.out Tryd.underlying27 (by kernel_rfl) rfl (fun _ => rfl) ?_; intro w5 b1 b2 b3))
      go_meet
      rw [HF2.out]
      have hb : But w3.heap.size w.heap.size w3 w5 := a2.out.trans (b2.out.mono (by rw [a3.out]; exact Nat.le_refl _))
      exact ⟨b1.out, H2.out.but hb H2.out.lt (by omega), H3.out.trans (hb.below (Nat.le_refl _) (by have := H4.out; omega)), Nat.le_trans H4.out hb.size⟩
    · have i56 : (n : Int) % 64 < 56 := by omega
      have hf : finD s r n = (s0, finA r (n % 64)) := by rw [HF.out, finB, if_neg h56]
      have HF2 := Lib.hid hf
      clear HF hf h56
      go_wp2_with fail
      go_meet
      rw [HF2.out]
      exact ⟨HG.out, H2.out, H3.out, H4.out⟩
  case rest =>
    clear HG H2 H3 H4 HF HS0 c hv f hsl
    obtain ⟨hg, h2, h3, h4⟩ := hcut
    have hr1 := finD_ok s r n HS.out HR.out HB.out
    generalize finD s r n = fd at *
    obtain ⟨s1, r1⟩ := fd
    simp only [] at hg HFIN hr1
    obtain ⟨hr1, hb1, hs1⟩ := hr1
    have hfc : finC r1 n 0 = r1 := by simp [finC]
    rw [← hfc] at hg
    have c := hg.cell 72
    rw [D_size _ _ n (finC_length r1 n 0 hr1 (by omega))] at c
    have hn2 : (n : Int) * 8 < 18446744073709551616 := by omega
    have HG := Lib.hid hg; have H2 := Lib.hid h2; have H3 := Lib.hid h3; have H4 := Lib.hid h4; have HR1 := Lib.hid hr1; have HB1 := Lib.hid hb1; have HS1 := Lib.hid hs1
    clear hg h2 h3 h4 hr1 hb1 hs1 hfc
    go_wp2_with fail
    go_loopw [30] (fun i wr => ∃ k : Nat, k ≤ 8 ∧ i = .int .i64 k ∧ Blk wr w.heap.size 128 (D s1 (finC r1 n k) n) ∧ Blk wr (w.heap.size + 1) 24 (u8s (List.replicate 32 0)) ∧ Below w.heap.size w wr ∧ w.heap.size + 2 ≤ wr.heap.size) (fun i _ => 8 - (intOf i).toNat)
    case atStart => exact ⟨0, by omega, rfl, HG.out, H2.out, H3.out, H4.out⟩
    case round =>
      clear HG H2 H3 H4 c hn2 hn
      obtain ⟨k, hk, rfl, h1, h2, h3, h4⟩ := hrel
      by_cases hlt : k < 8
      · have hl := finC_length r1 n k HR1.out hk
        have hv : wr.cell? ⟨w.heap.size, 8 + (56 + k), none⟩ = some (.int .u8 ((gt (finC r1 n k) (56 + k) : Nat) : Int)) := by
          rw [h1.cell, D_rest _ _ _ hl _ (by omega)]
        have f := h1.frozen (8 + (56 + k))
        have H1 := Lib.hid h1; have H2 := Lib.hid h2; have H3 := Lib.hid h3; have H4 := Lib.hid h4; have HL := Lib.hid hl
        clear h1 h2 h3 h4 hl
        go_wp2
        go_roundw
        case rel =>
          refine ⟨k + 1, by omega, by go_num, ?_, ?_, ?_, ?_⟩
          · have b := H1.out.store (8 + (56 + k)) (.int .u8 ((8 * n / 2 ^ (56 - 8 * k) % 256 : Nat) : Int))
            rw [D_set _ _ _ _ _ (by rw [HL.out]; omega), finC_set r1 n k HR1.out hlt] at b
            have e : ((n : Int) * 8 / 2 ^ (56 - 8 * k) % 256) = ((8 * n / 2 ^ (56 - 8 * k) % 256 : Nat) : Int) := by
              rw [Int.natCast_emod, Int.natCast_ediv, Int.natCast_mul, Int.natCast_pow, Int.mul_comm]; rfl
            rw [e]
            exact b
          · exact H2.out.far (by simp) _
          · exact H3.out.setCell (by simp) _
          · simpa using H4.out
        case measure => simp [intOf]; omega
      · obtain rfl : k = 8 := by omega
        have H1 := Lib.hid h1; have H2 := Lib.hid h2; have H3 := Lib.hid h3; have H4 := Lib.hid h4
        clear h1 h2 h3 h4 hk hlt
        have hg3 : Blk wr w.heap.size 128 ([] ++ (u32s s1.list ++ (u8s (finC r1 n 8) ++ [.int .u64 (n : Int)]))) := H1.out
        have HG3 := Lib.hid hg3
        have z1 := z42 s1
        have Z1 := Lib.hid z1
        have hl := finC_length r1 n 8 HR1.out (by omega)
        have HL := Lib.hid hl
        clear z1 hg3 hl
        go_wp2_with ((with_reducible refine load_part 125 (.tmp 44) w.heap.size 0 128 [] (u32s s1.list) (u8s (finC r1 n 8) ++ [.int .u64 (n : Int)]) _ rfl rfl ?_ ?_ Tryd.underlying125 ?_ ?_ ?_ ?_); exact HG3.out; exact rfl; exact rfl; exact Z1.out; exact rfl)
        refine (mixed_t s1 HS1.out (finC r1 n 8) w.heap.size 8 wr HL.out (finC_bytes r1 n 8 HB1.out) (D_bytes H1.out HL.out) (by have := H4.out; omega) (HK.out.below H3.out HK.out.lt)).mono ?_
        rintro e w3 ⟨rfl, hb3⟩
        have hok := cmp_ok s1 (sched (finC r1 n 8) 0)
        have z2 := z42 (cmp s1 (sched (finC r1 n 8) 0))
        rw [← HFIN.out] at hok z2 ⊢
        have hg3 : Blk w3 w.heap.size 128 ([] ++ (u32s s1.list ++ (u8s (finC r1 n 8) ++ [.int .u64 (n : Int)]))) := HG3.out.below hb3 H1.out.lt
        have h2 := H2.out.below hb3 H2.out.lt
        have h3 := H3.out.trans (hb3.mono (by have := H4.out; omega))
        have h4 : w.heap.size + 2 ≤ w3.heap.size := by have := hb3.size; have := H4.out; omega
        clear HG3 H1 H2 H3 H4 hb3
        have HG := Lib.hid hg3; have H2 := Lib.hid h2; have H3 := Lib.hid h3; have H4 := Lib.hid h4; have Z2 := Lib.hid z2; have HOK := Lib.hid hok
        clear hg3 h2 h3 h4 z2 hok
        have hll : (u32s s1.list).length = (u32s (fin s r n).list).length := (len8s s1).trans (len8s _).symm
        have HLL := Lib.hid hll
        have ol : (u8s (List.replicate 32 0)).length = (u8s (out (fin s r n))).length := (out_len _).symm
        have oz := z25 (fin s r n)
        have OL := Lib.hid ol; have Z25 := Lib.hid oz
        clear hll ol oz
        go_wp2_with (first
          | ((with_reducible refine store_part 125 (.tmp 48) (.tmp 47) w.heap.size 0 128 [] (u32s s1.list) (u8s (finC r1 n 8) ++ [.int .u64 (n : Int)]) (u32s (fin s r n).list) rfl rfl ?_ ?_ ?_ ?_ ?_ ?_ ?_ ?_); exact HG.out; exact rfl; exact HLL.out; exact Z2.out; exact u32s_one _; exact rfl; exact rfl; intro w4 a1 a2 a3)
          | (go_at_call 84; refine (hash_t w.heap.size (fin s r n) (finC r1 n 8) n w4 HOK.out a1.out).mono ?_; rintro e w5 ⟨rfl, hb5⟩; have B5 := Lib.hid hb5; have h25 := Lib.hid ((H2.out.but a2.out H2.out.lt (by omega)).below hb5 (by have := a3.out; have := H4.out; omega)); clear hb5)
          | ((with_reducible refine store_blk 24 (.tmp 2) (.tmp 49) (w.heap.size + 1) 24 (u8s (List.replicate 32 0)) (u8s (out (fin s r n))) rfl rfl ?_ ?_ ?_ ?_ ?_ ?_ ?_); exact h25.out; exact OL.out; exact Z25.out; exact u8s_one _; exact rfl; exact rfl))
        exact ret_blk (p := 2) (ty := 24) rfl rfl (w.heap.size + 1) 24 _ _ rfl (h25.out.setRow _) Tryd.underlying24 rfl Z25.out ⟨rfl, below_setRow ((H3.out.trans (a2.out.below (Nat.le_refl _) (by have := H4.out; omega))).trans (B5.out.mono (by have := a3.out; have := H4.out; omega))) (by omega) _⟩
end Go.Proofs.YthcebaegijlbdaaDoor
