import Derived.Test.YtahmfbhiaoacgaaDoorTold
import Derived.Deep.RegionHeld3
import Derived.Laws.IdiomStrings
namespace Go.Proofs.YtahmfbhiaoacgaaDoor
open Go.RowKit Sh

def txt : Nat → List Nat
  | 0 => []
  | 1 => [97, 98, 99]
  | _ => [97, 98, 99, 100, 98, 99, 100, 101, 99, 100, 101, 102, 100, 101, 102, 103, 101, 102, 103, 104, 102, 103, 104, 105, 103, 104, 105, 106, 104, 105, 106, 107, 105, 106, 107, 108, 106, 107, 108, 109, 107, 108, 109, 110, 108, 109, 110, 111, 109, 110, 111, 112, 110, 111, 112, 113]
def cst : Nat → List Nat
  | 0 => [101, 51, 98, 48, 99, 52, 52, 50, 57, 56, 102, 99, 49, 99, 49, 52, 57, 97, 102, 98, 102, 52, 99, 56, 57, 57, 54, 102, 98, 57, 50, 52, 50, 55, 97, 101, 52, 49, 101, 52, 54, 52, 57, 98, 57, 51, 52, 99, 97, 52, 57, 53, 57, 57, 49, 98, 55, 56, 53, 50, 98, 56, 53, 53]
  | 1 => [98, 97, 55, 56, 49, 54, 98, 102, 56, 102, 48, 49, 99, 102, 101, 97, 52, 49, 52, 49, 52, 48, 100, 101, 53, 100, 97, 101, 50, 50, 50, 51, 98, 48, 48, 51, 54, 49, 97, 51, 57, 54, 49, 55, 55, 97, 57, 99, 98, 52, 49, 48, 102, 102, 54, 49, 102, 50, 48, 48, 49, 53, 97, 100]
  | _ => [50, 52, 56, 100, 54, 97, 54, 49, 100, 50, 48, 54, 51, 56, 98, 56, 101, 53, 99, 48, 50, 54, 57, 51, 48, 99, 51, 101, 54, 48, 51, 57, 97, 51, 51, 99, 101, 52, 53, 57, 54, 52, 102, 102, 50, 49, 54, 55, 102, 54, 101, 99, 101, 100, 100, 52, 49, 57, 100, 98, 48, 54, 99, 49]
set_option maxRecDepth 100000 in
theorem hex_cst : ∀ k : Nat, k < 3 → Sh.hex (sum (txt k)) = cst k := by decide +kernel
theorem txt_bytes : ∀ k : Nat, k < 3 → ∀ x ∈ txt k, x < 256 := by decide
theorem txt_small : ∀ k : Nat, k < 3 → (txt k).length < 100 := by decide

/-- The bytes of a string that was made into a slice lie in the new block. -/
theorem row_bytes (l : List Nat) (hl : Bytes l) (c : Nat) (w : World) (e : TypeId) (fr : Nat × Nat) : BytesAt (w.alloc (.cells (bytesRow (str l) c) e fr)) w.heap.size 0 l := fun j hj => by
  rw [Nat.zero_add, cell_of_row _ _ j _ e fr (heap_alloc_new w _)]
  have h2 : j < (str l).size := by rw [str_size']; exact hj
  have h3 : j < (str l).data.size := h2
  unfold bytesRow
  rw [Array.getElem?_append_left (by simpa using h3), Array.getElem?_map, Array.getElem?_eq_getElem h3]
  have hb := hl j
  simp [str, strOfNums, gt_of_lt hj] at hb ⊢
  omega

theorem index_of (n : Int) (_ : -9223372036854775808 ≤ n ∧ n ≤ 9223372036854775807) : ∃ k : Nat, k < 3 ∧ wrap64 ((IntKind.u64.wrap n).tmod 3) = (k : Int) := by
  have h0 : 0 ≤ IntKind.u64.wrap n := by simp [IntKind.wrap, IntKind.bits, IntKind.signed]; omega
  rw [Int.tmod_eq_emod_of_nonneg h0]
  generalize IntKind.u64.wrap n = m at *
  refine ⟨(m % 3).toNat, by omega, ?_⟩
  unfold wrap64
  omega

set_option maxRecDepth 100000 in
set_option maxHeartbeats 400000 in
theorem known_t (n : Int) (w : World) (hn : -9223372036854775808 ≤ n ∧ n ≤ 9223372036854775807) (hk : KAt w) :
    Calls Tryd.prog 8 #[.int .i64 n] w fun e w' => e = .returned (.bool true) ∧ Below w.heap.size w w' := by
  obtain ⟨k, hk3, hkn⟩ := index_of n hn
  have HKN := Lib.hid hkn; have HKW := Lib.hid hk
  clear hkn hn hk
  go_enter Tryd.func8, Tryd.ntmps8
  go_wp2_with fail
  rw [HKN.out]
  obtain ⟨Wa, hWa⟩ : ∃ W : World, W = (w.alloc (.cells #[.string (str (txt 0)), .string (str (txt 1)), .string (str (txt 2))] 9)).alloc (.cells #[.string (str (cst 0)), .string (str (cst 1)), .string (str (cst 2))] 9) := ⟨_, rfl⟩
  change Code.wp _ _ _ _ ((w.alloc (.cells #[.string (str (txt 0)), .string (str (txt 1)), .string (str (txt 2))] 9)).alloc (.cells #[.string (str (cst 0)), .string (str (cst 1)), .string (str (cst 2))] 9))
  rw [← hWa]
  have hb0 : Below w.heap.size w Wa := by rw [hWa]; exact ((Below.refl _ _).alloc (Nat.le_refl _) _).alloc (by simp) _
  have hsz : Wa.heap.size = w.heap.size + 2 := by rw [hWa]; simp
  have c1 : Wa.cell? ⟨w.heap.size, k, none⟩ = some (.string (str (txt k))) := by
    rw [hWa, cell_of_row _ _ k _ 9 (0, 0) (heap_alloc2_old w _ _)]
    have : k = 0 ∨ k = 1 ∨ k = 2 := by omega
    rcases this with rfl | rfl | rfl <;> rfl
  have c2 : Wa.cell? ⟨w.heap.size + 1, k, none⟩ = some (.string (str (cst k))) := by
    rw [hWa, cell_of_row _ _ k _ 9 (0, 0) (heap_alloc2_new w _ _)]
    have : k = 0 ∨ k = 1 ∨ k = 2 := by omega
    rcases this with rfl | rfl | rfl <;> rfl
  have hka : KAt Wa := HKW.out.below hb0 HKW.out.lt
  have K1 := Lib.hid hka; have B1 := Lib.hid hb0; have S1 := Lib.hid hsz
  clear hWa hka hb0 hsz
  have hconv := fun W : World => run_bytes_of_string (P := Tryd.prog) W 9 22 5 (str (txt k)) Tryd.underlying9 Tryd.underlying22 Tryd.underlying5
  have n1 : w.heap.size < Wa.heap.size := by have := S1.out; omega
  have n2 : w.heap.size + 1 < Wa.heap.size := by have := S1.out; omega
  have q1 : (k : Int) < 3 := by omega
  have hex := hex_cst k hk3
  have htb := bytes_of (txt_bytes k hk3)
  have hts := txt_small k hk3
  have hcl : ((str (cst k)).toList == (str (cst k)).toList) = true := beq_self_eq_true _
  have hsl := str_size' (txt k)
  have HEX := Lib.hid hex; have HTB := Lib.hid htb; have HTS := Lib.hid hts; have HSL := Lib.hid hsl
  clear hex htb hts hsl
  refine wp_region_held (S := fun W => W.cell? ⟨w.heap.size, k, none⟩ = some (.string (str (txt k))) ∧ W.cell? ⟨w.heap.size + 1, k, none⟩ = some (.string (str (cst k)))) (by kernel_rfl) ?_
  change wpAnyH _ _ _ _ _ _ _ _ Wa.drew
  refine wpAnyH_ready (rs := [0]) (by kernel_rfl) (by simp) ?_
  refine AllReadyH.cons rfl (fun K hK => ?_) AllReadyH.nil
  go_simp
  refine (told_t Wa.drew ⟨K1.out.lt, K1.out.cell⟩).mono ?_
  rintro e w1 ⟨rfl, hb⟩
  have d1 := (hb.cell (p := ⟨w.heap.size, k, none⟩) n1).trans c1
  have d2 := (hb.cell (p := ⟨w.heap.size + 1, k, none⟩) n2).trans c2
  have B2 := Lib.hid (B1.out.drew.trans (hb.mono B1.out.size))
  have m1 : w.heap.size < w1.heap.size := Nat.lt_of_lt_of_le n1 hb.size
  have m2 : w.heap.size + 1 < w1.heap.size := Nat.lt_of_lt_of_le n2 hb.size
  clear hb
  refine hK.out _ _ ⟨d1, d2⟩ (fun _ => ?_)
  clear hK K
  refine wpAnyH_take (i := 1) (v := ?_) rfl (by kernel_rfl) (by kernel_rfl) (by kernel_rfl) (fun _ _ _ h => h) (Or.inl ⟨by kernel_rfl, ?_⟩) ⟨d1, d2⟩ ?_
  rotate_left 1
  · (intro w hS; obtain ⟨s1, s2⟩ := hS; go_simp; try (with_reducible rfl))
  refine wpAnyH_take (i := 2) (v := ?_) rfl (by kernel_rfl) (by kernel_rfl) (by kernel_rfl) (fun _ _ _ h => h) (Or.inl ⟨by kernel_rfl, ?_⟩) ⟨d1, d2⟩ ?_
  rotate_left 1
  · (intro w hS; obtain ⟨s1, s2⟩ := hS; go_simp; try (with_reducible rfl))
  refine wpAnyH_take (i := 3) (v := ?_) rfl (by kernel_rfl) (by kernel_rfl) (by kernel_rfl) (fun _ _ _ h => h) (Or.inl ⟨by kernel_rfl, ?_⟩) ⟨d1, d2⟩ ?_
  rotate_left 1
  · (intro w hS; obtain ⟨s1, s2⟩ := hS; go_simp; try (with_reducible rfl))
  refine wpAnyH_take (i := 4) (v := ?_) rfl (by kernel_rfl) (by kernel_rfl) (by kernel_rfl) (fun _ _ _ h => h) (Or.inl ⟨by kernel_rfl, ?_⟩) ⟨d1, d2⟩ ?_
  rotate_left 1
  · (intro w hS; obtain ⟨s1, s2⟩ := hS; go_simp; try (with_reducible rfl))
  refine wpAnyH_take (i := 9) (v := ?_) rfl (by kernel_rfl) (by kernel_rfl) (by kernel_rfl) (fun _ _ _ h => h) (Or.inl ⟨by kernel_rfl, ?_⟩) ⟨d1, d2⟩ ?_
  rotate_left 1
  · (intro w hS; obtain ⟨s1, s2⟩ := hS; go_simp; try (with_reducible rfl))
  refine wpAnyH_take (i := 10) (v := ?_) rfl (by kernel_rfl) (by kernel_rfl) (by kernel_rfl) (fun _ _ _ h => h) (Or.inl ⟨by kernel_rfl, ?_⟩) ⟨d1, d2⟩ ?_
  rotate_left 1
  · (intro w hS; obtain ⟨s1, s2⟩ := hS; go_simp; try (with_reducible rfl))
  refine wpAnyH_take (i := 11) (v := ?_) rfl (by kernel_rfl) (by kernel_rfl) (by kernel_rfl) (fun _ _ _ h => h) (Or.inl ⟨by kernel_rfl, ?_⟩) ⟨d1, d2⟩ ?_
  rotate_left 1
  · (intro w hS; obtain ⟨s1, s2⟩ := hS; go_simp; try (with_reducible rfl))
  refine wpAnyH_take (i := 5) (v := ?_) rfl (by kernel_rfl) (by kernel_rfl) (by kernel_rfl) (fun _ _ _ h => h) (Or.inl ⟨by kernel_rfl, ?_⟩) ⟨d1, d2⟩ ?_
  rotate_left 1
  · (intro w hS; obtain ⟨s1, s2⟩ := hS; go_simp; try (with_reducible rfl))
  refine wpAnyH_take (i := 12) (v := ?_) rfl (by kernel_rfl) (by kernel_rfl) (by kernel_rfl) (fun _ _ _ h => h) (Or.inl ⟨by kernel_rfl, ?_⟩) ⟨d1, d2⟩ ?_
  rotate_left 1
  · (intro w hS; obtain ⟨s1, s2⟩ := hS; go_simp; try (with_reducible rfl))
  refine wpAnyH_ready (rs := [6]) (by kernel_rfl) (by simp) ?_
  refine AllReadyH.cons rfl (fun K hK => ?_) AllReadyH.nil
  go_simp
  rw [HSL.out]
  generalize hcap : grownCap w1 (txt k).length 0 5 = cp
  have hcp : (txt k).length ≤ cp := by rw [← hcap]; exact grownCap_ge _ _ _ _
  clear hcap
  have HCP := Lib.hid hcp
  clear hcp
  obtain ⟨Wb, hWb⟩ : ∃ W : World, W = (w1.alloc (.cells (bytesRow (str (txt k)) cp) 5 ((bytesRow (str (txt k)) cp).size, (bytesRow (str (txt k)) cp).size + 1))).drew := ⟨_, rfl⟩
  rw [← hWb]
  have g1 : Wb.cell? ⟨w.heap.size, k, none⟩ = some (.string (str (txt k))) := by rw [hWb]; exact (World.cell?_alloc_lt _ _ _ m1).trans d1
  have g2 : Wb.cell? ⟨w.heap.size + 1, k, none⟩ = some (.string (str (cst k))) := by rw [hWb]; exact (World.cell?_alloc_lt _ _ _ m2).trans d2
  have hby : BytesAt Wb w1.heap.size 0 (txt k) := by rw [hWb]; exact row_bytes _ HTB.out _ _ _ _
  have hbb : Below w.heap.size w Wb := by rw [hWb]; exact (B2.out.alloc B2.out.size _).drew
  have hbs : Wb.heap.size = w1.heap.size + 1 := by rw [hWb]; simp
  have BY := Lib.hid hby; have BB := Lib.hid hbb; have BS := Lib.hid hbs
  clear hby hbb hbs hWb
  refine hK.out _ _ ⟨g1, g2⟩ (fun _ => ?_)
  clear hK K
  refine wpAnyH_ready (rs := [7]) (by kernel_rfl) (by simp) ?_
  refine AllReadyH.cons rfl (fun K hK => ?_) AllReadyH.nil
  go_simp
  refine (sum_t (txt k) (some ⟨w1.heap.size, 0, none⟩) cp Wb HTB.out (fun g hg _ => ⟨_, _, rfl, by have := BS.out; omega, by have := BS.out; omega, BY.out⟩) HCP.out (by have := HTS.out; omega) (HKW.out.below BB.out HKW.out.lt)).mono ?_
  rintro e w2 ⟨rfl, hb⟩
  have l1 : w.heap.size < Wb.heap.size := by have := BS.out; omega
  have l2 : w.heap.size + 1 < Wb.heap.size := by have := BS.out; omega
  have u1 := (hb.cell (p := ⟨w.heap.size, k, none⟩) l1).trans g1
  have u2 := (hb.cell (p := ⟨w.heap.size + 1, k, none⟩) l2).trans g2
  have B3 := Lib.hid (BB.out.trans (hb.mono BB.out.size))
  have r1 : w.heap.size < w2.heap.size := Nat.lt_of_lt_of_le l1 hb.size
  have r2 : w.heap.size + 1 < w2.heap.size := Nat.lt_of_lt_of_le l2 hb.size
  clear hb
  refine hK.out _ _ ⟨u1, u2⟩ (fun _ => ?_)
  clear hK K
  refine wpAnyH_ready (rs := [8]) (by kernel_rfl) (by simp) ?_
  refine AllReadyH.cons rfl (fun K hK => ?_) AllReadyH.nil
  go_simp
  refine (hex_t (sum (txt k)) w2 (sum_length _) (sum_bytes _ HTB.out)).mono ?_
  rintro e w3 ⟨rfl, hb⟩
  have x1 := (hb.cell (p := ⟨w.heap.size, k, none⟩) r1).trans u1
  have x2 := (hb.cell (p := ⟨w.heap.size + 1, k, none⟩) r2).trans u2
  have B4 := Lib.hid (B3.out.trans (hb.mono B3.out.size))
  clear hb
  rw [HEX.out]
  refine hK.out _ _ ⟨x1, x2⟩ (fun _ => ?_)
  clear hK K
  refine wpAnyH_take (i := 13) (v := ?_) rfl (by kernel_rfl) (by kernel_rfl) (by kernel_rfl) (fun _ _ _ h => h) (Or.inl ⟨by kernel_rfl, ?_⟩) ⟨x1, x2⟩ ?_
  rotate_left 1
  · (intro w hS; obtain ⟨s1, s2⟩ := hS; go_simp; try (with_reducible rfl))
  refine wpAnyH_take (i := 14) (v := ?_) rfl (by kernel_rfl) (by kernel_rfl) (by kernel_rfl) (fun _ _ _ h => h) (Or.inl ⟨by kernel_rfl, ?_⟩) ⟨x1, x2⟩ ?_
  rotate_left 1
  · (intro w hS; obtain ⟨s1, s2⟩ := hS; go_simp; try (with_reducible rfl))
  refine wpAnyH_take (i := 15) (v := ?_) rfl (by kernel_rfl) (by kernel_rfl) (by kernel_rfl) (fun _ _ _ h => h) (Or.inl ⟨by kernel_rfl, ?_⟩) ⟨x1, x2⟩ ?_
  rotate_left 1
  · (intro w hS; obtain ⟨s1, s2⟩ := hS; go_simp; try (with_reducible rfl))
  refine wpAnyH_done (by kernel_rfl) ?_ _
  go_simp
  go_wp2_with fail
  go_ret
  exact ⟨rfl, B4.out⟩
end Go.Proofs.YtahmfbhiaoacgaaDoor
