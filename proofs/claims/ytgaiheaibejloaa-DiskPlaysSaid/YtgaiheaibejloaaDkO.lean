/-
  A disk and the reference's, alike: Same.
-/
import Derived.Test.YtgaiheaibejloaaDkQ
import Derived.Test.YtgaiheaibejloaaDkZ
namespace Go.Proofs.Ytgaiheaibejloaa
open Go Go.RowKit Go.Maps Go.ChangeMaps Go.MapKept Sh

/-- A disk and the reference's that are alike. -/
structure BR (w0 w : World) (g bs bm rb rl k n : Nat) (S : Nat → List Nat) (M : Nat → Option (List Nat)) (I W : Nat → List Nat) (D : Nat → Bool) : Prop where
  d : DW w0 w g bs bm k n S M
  r : RK w rb rl k I W D
  r0 : w0.heap.size ≤ rb
  r1 : w0.heap.size ≤ rl
  eI : ∀ j, j < k → I j = isS S M j
  eW : ∀ j, j < k → W j = S j
  eD : ∀ j, j < k → D j = (M j).isSome
theorem BR.below {w0 w w' : World} {g bs bm rb rl k n : Nat} {S : Nat → List Nat} {M : Nat → Option (List Nat)} {I W : Nat → List Nat} {D : Nat → Bool} (h : BR w0 w g bs bm rb rl k n S M I W D) (hb : Below w.heap.size w w') : BR w0 w' g bs bm rb rl k n S M I W D :=
  ⟨h.d.below hb, h.r.below hb, h.r0, h.r1, h.eI, h.eW, h.eD⟩
theorem own_cell {w : World} {base : Nat} {A : Option Addr} {q c : Nat} {l : List Nat} (h : w.ownsRow base 3 1 (.slice A q c) q (iC l)) (hl : l.length = q) {i : Nat} (hi : i < q) : ∃ gg, A = some ⟨gg, 0, none⟩ ∧ w.cell? ⟨gg, i, none⟩ = some (.int .i64 ((l.getD i 0 : Nat) : Int)) := by
  obtain ⟨gg, c', e, _⟩ := own_formD h (by omega)
  cases e
  refine ⟨gg, rfl, ?_⟩
  rw [h.cellAt i (by omega)]
  unfold iC
  rw [List.getElem?_map, List.getElem?_eq_getElem (by omega)]
  simp [List.getD_eq_getElem?_getD, List.getElem?_eq_getElem (show i < l.length by omega)]
theorem dl_same {M : Nat → Option (List Nat)} {D : Nat → Bool} {k : Nat} (h : ∀ j, j < k → D j = (M j).isSome) : dlN M k = dlB D k := by
  unfold dlN dlB
  exact List.filter_congr (fun j hj => (h j (List.mem_range.1 hj)).symm)
theorem dl_cells (M : Nat → Option (List Nat)) (k : Nat) : (dlI M k).map encZ = iC (dlN M k) := by
  unfold dlI iC
  rw [List.map_map]
  rfl
theorem belowN (w : World) (q : Nat) : Below w.heap.size w (w.drewN q) := ⟨(Below.refl w.heap.size w).os, (Below.refl w.heap.size w).tape, (Below.refl w.heap.size w).output, (Below.refl w.heap.size w).size, (Below.refl w.heap.size w).block⟩
theorem RK.srI {w : World} {rb rl k : Nat} {I W : Nat → List Nat} {D : Nat → Bool} (h : RK w rb rl k I W D) {j : Nat} (hj : j < k) : Sr w (some ⟨rl, j * 129, none⟩) (I j) := fun _ =>
  ⟨rl, j * 129, rfl, h.r.lt, fun i hi => h.rangeI hj i _ (u8s_get _ _ hi)⟩
set_option maxRecDepth 100000 in
set_option maxHeartbeats 4000000 in
theorem dSame_t {w0 w : World} {g bs bm rb rl k n : Nat} {S : Nat → List Nat} {M : Nat → Option (List Nat)} {I W : Nat → List Nat} {D : Nat → Bool} (hn : n < 1000) (h : BR w0 w g bs bm rb rl k n S M I W D) :
    Calls Try.prog 18 #[.pointer (some ⟨g, 0, none⟩), .pointer (some ⟨rb, 0, none⟩)] w fun e w' => e = .returned (.bool true) ∧ Below w.heap.size w w' := by
  have H0 := Lib.hid h
  have jk := h.d.dk.kk
  have k1 : (k : Int) ≤ 4096 := by omega
  have DI := Lib.hid (dDirty_t hn h.d.dk)
  rw [dl_cells, dl_same h.eD] at DI
  obtain ⟨l, hl⟩ : ∃ z, dlB D k = z := ⟨_, rfl⟩
  have HL := Lib.hid hl
  rw [hl] at DI
  have LE : l.length ≤ 4096 := by rw [← hl]; have := dlB_le D k; omega
  clear h hn hl
  go_enter Try.func18, Try.ntmps18
  go_upto_region 2 with (first
    | (go_at_call 10; refine DI.out.mono ?_; rintro e w1 ⟨v1, rfl, o1, b1⟩; have H1 := Lib.hid (H0.out.below b1); have O1 := Lib.hid o1; have RI := Lib.hid (rDirty_t H1.out.r); have B1 := Lib.hid b1; clear o1 b1)
    | (go_at_call 25; refine RI.out.mono ?_; rintro e w2 ⟨v2, rfl, o2, b2⟩; have H2 := Lib.hid (H1.out.below b2); have O2 := Lib.hid o2; have P1 := Lib.hid (own_below O1.out b2); have B2 := Lib.hid (B1.out.trans (b2.mono B1.out.size)); clear o2 b2))
  have p1 := P1.out
  have p2 := O2.out
  rw [HL.out] at p2
  obtain ⟨A1, c1, rfl, hc1⟩ := own_form p1
  obtain ⟨A2, c2, rfl, hc2⟩ := own_form p2
  have Q1 := Lib.hid p1; have Q2 := Lib.hid p2
  obtain ⟨N, hN⟩ : ∃ z, l.length = z := ⟨_, rfl⟩
  rw [hN] at Q1 Q2 LE ⊢
  have HN := Lib.hid hN
  have n1 : (N : Int) ≤ 4096 := by omega
  clear p1 p2 hN P1 O2 DI RI H1 B1 O1 hc1 hc2
  obtain ⟨V, hV⟩ : ∃ V, w2.drew = V := ⟨_, rfl⟩
  have HV := Lib.hid (show BR w0 V g bs bm rb rl k n S M I W D by rw [← hV]; exact H2.out.below (Below.refl _ _).drew)
  have BV := Lib.hid (show Below w.heap.size w V by rw [← hV]; exact B2.out.drew)
  have Q3 := Lib.hid (show V.ownsRow w.heap.size 3 1 (.slice A1 N c1) N (iC l) by rw [← hV]; exact own_below Q1.out (Below.refl _ _).drew)
  have Q4 := Lib.hid (show V.ownsRow w1.heap.size 3 1 (.slice A2 N c2) N (iC l) by rw [← hV]; exact own_below Q2.out (Below.refl _ _).drew)
  have s0 : V.cell? ⟨rb, 0, none⟩ = some (.slice (some ⟨rl, 0, none⟩) k k) := HV.out.r.c0
  have LN := Lib.hid (dLen_t HV.out.d.dk)
  refine wp_region_held (S := fun Y => Y.cell? ⟨rb, 0, none⟩ = some (.slice (some ⟨rl, 0, none⟩) k k)) (by kernel_rfl) ?_
  change wpAnyH _ _ _ _ _ _ _ _ w2.drew
  rw [hV]
  clear hV H2 B2 Q1 Q2
  refine wpAnyH_take (i := 0) (v := ?_) rfl (by kernel_rfl) (by kernel_rfl) (by kernel_rfl) (fun _ _ _ h => h) (Or.inl ⟨by kernel_rfl, ?_⟩) s0 ?_
  rotate_left 1
  · (intro w hS; clear hS; go_simp; try (with_reducible rfl))
  refine wpAnyH_take (i := 2) (v := ?_) rfl (by kernel_rfl) (by kernel_rfl) (by kernel_rfl) (fun _ _ _ h => h) (Or.inl ⟨by kernel_rfl, ?_⟩) s0 ?_
  rotate_left 1
  · (intro w hS; clear hS; go_simp; try (with_reducible rfl))
  refine wpAnyH_take (i := 3) (v := ?_) rfl (by kernel_rfl) (by kernel_rfl) (by kernel_rfl) (fun _ _ _ h => h) (Or.inl ⟨by kernel_rfl, ?_⟩) s0 ?_
  rotate_left 1
  · (intro w hS; clear hS; go_simp; try (with_reducible rfl))
  refine wpAnyH_take (i := 4) (v := ?_) rfl (by kernel_rfl) (by kernel_rfl) (by kernel_rfl) (fun _ _ _ h => h) (Or.inl ⟨by kernel_rfl, ?_⟩) s0 ?_
  rotate_left 1
  · (intro w hS; clear hS; go_simp; try (with_reducible rfl))
  refine wpAnyH_take (i := 5) (v := ?_) rfl (by kernel_rfl) (by kernel_rfl) (by kernel_rfl) (fun _ _ _ h => h) (Or.inl ⟨by kernel_rfl, ?_⟩) s0 ?_
  rotate_left 1
  · (intro w hS; have hs := hS; clear hS; go_simp; try (with_reducible rfl))
  refine wpAnyH_take (i := 6) (v := ?_) rfl (by kernel_rfl) (by kernel_rfl) (by kernel_rfl) (fun _ _ _ h => h) (Or.inl ⟨by kernel_rfl, ?_⟩) s0 ?_
  rotate_left 1
  · (intro w hS; clear hS; go_simp; try (with_reducible rfl))
  go_simp
  refine wpAnyH_ready (rs := [1]) (by kernel_rfl) (by simp) ?_
  refine AllReadyH.cons rfl (fun K hK => ?_) AllReadyH.nil
  go_simp
  refine LN.out.mono ?_
  rintro e w3 ⟨rfl, rfl⟩
  refine hK.out _ _ s0 (fun _ => ?_)
  clear hK K LN
  refine wpAnyH_take (i := 7) (v := ?_) rfl (by kernel_rfl) (by kernel_rfl) (by kernel_rfl) (fun _ _ _ h => h) (Or.inl ⟨by kernel_rfl, ?_⟩) s0 ?_
  rotate_left 1
  · (intro w hS; clear hS; go_simp; try (with_reducible rfl))
  refine wpAnyH_take (i := 8) (v := ?_) rfl (by kernel_rfl) (by kernel_rfl) (by kernel_rfl) (fun _ _ _ h => h) (Or.inl ⟨by kernel_rfl, ?_⟩) s0 ?_
  rotate_left 1
  · (intro w hS; clear hS; go_simp; try (with_reducible rfl))
  refine wpAnyH_take (i := 9) (v := ?_) rfl (by kernel_rfl) (by kernel_rfl) (by kernel_rfl) (fun _ _ _ h => h) (Or.inl ⟨by kernel_rfl, ?_⟩) s0 ?_
  rotate_left 1
  · (intro w hS; clear hS; go_simp; try (with_reducible rfl))
  refine wpAnyH_take (i := 10) (v := ?_) rfl (by kernel_rfl) (by kernel_rfl) (by kernel_rfl) (fun _ _ _ h => h) (Or.inl ⟨by kernel_rfl, ?_⟩) s0 ?_
  rotate_left 1
  · (intro w hS; clear hS; go_simp; try (with_reducible rfl))
  refine wpAnyH_take (i := 11) (v := ?_) rfl (by kernel_rfl) (by kernel_rfl) (by kernel_rfl) (fun _ _ _ h => h) (Or.inl ⟨by kernel_rfl, ?_⟩) s0 ?_
  rotate_left 1
  · (intro w hS; clear hS; go_simp; try (with_reducible rfl))
  refine wpAnyH_take (i := 12) (v := ?_) rfl (by kernel_rfl) (by kernel_rfl) (by kernel_rfl) (fun _ _ _ h => h) (Or.inl ⟨by kernel_rfl, ?_⟩) s0 ?_
  rotate_left 1
  · (intro w hS; clear hS; go_simp; try (with_reducible rfl))
  refine wpAnyH_take (i := 13) (v := ?_) rfl (by kernel_rfl) (by kernel_rfl) (by kernel_rfl) (fun _ _ _ h => h) (Or.inl ⟨by kernel_rfl, ?_⟩) s0 ?_
  rotate_left 1
  · (intro w hS; clear hS; go_simp; try (with_reducible rfl))
  refine wpAnyH_take (i := 14) (v := ?_) rfl (by kernel_rfl) (by kernel_rfl) (by kernel_rfl) (fun _ _ _ h => h) (Or.inl ⟨by kernel_rfl, ?_⟩) s0 ?_
  rotate_left 1
  · (intro w hS; clear hS; go_simp; try (with_reducible rfl))
  refine wpAnyH_done (by kernel_rfl) ?_ _
  go_simp
  go_wp2_with fail
  clear s0
  go_loopw [7] (fun s7 wr => ∃ i : Nat, i ≤ N ∧ s7 = .int .i64 (i : Int) ∧ BR w0 wr g bs bm rb rl k n S M I W D ∧ Below w.heap.size w wr ∧ wr.ownsRow w.heap.size 3 1 (.slice A1 N c1) N (iC l) ∧ wr.ownsRow w1.heap.size 3 1 (.slice A2 N c2) N (iC l)) (fun s _ => N - (intOf s).toNat)
  case atStart => exact ⟨0, Nat.zero_le _, rfl, HV.out, BV.out, Q3.out, Q4.out⟩
  case round =>
    obtain ⟨i, hi, rfl, hv1, bv1, q31, q41⟩ := hrel
    clear HV BV Q3 Q4
    have HV := Lib.hid hv1; have BV := Lib.hid bv1; have Q3 := Lib.hid q31; have Q4 := Lib.hid q41
    clear hv1 bv1 q31 q41
    by_cases hlt : i < N
    · have i1 : (i : Int) < (N : Int) := by omega
      obtain ⟨ga, rfl, ca⟩ := own_cell Q3.out HN.out hlt
      obtain ⟨gb, rfl, cb⟩ := own_cell Q4.out HN.out hlt
      obtain ⟨x, hx⟩ : ∃ z, l.getD i 0 = z := ⟨_, rfl⟩
      rw [hx] at ca cb
      clear hx
      go_upto_region 7 with (fail)
      go_quiet (fail)
      go_wp2_with fail
      go_roundw
      case rel => exact ⟨i + 1, hlt, by go_num, HV.out.below (belowN _ _), BV.out.trans ((belowN _ _).mono BV.out.size), own_below Q3.out (belowN _ _), own_below Q4.out (belowN _ _)⟩
      case measure => simp [intOf]; omega
    · obtain rfl : i = N := by omega
      clear hlt Q3 Q4
      go_wp2_with fail
      go_loopw [8] (fun s8 wr2 => ∃ j : Nat, j ≤ k ∧ s8 = .int .i64 (j : Int) ∧ BR w0 wr2 g bs bm rb rl k n S M I W D ∧ Below w.heap.size w wr2) (fun s _ => k - (intOf s).toNat)
      case atStart => exact ⟨0, Nat.zero_le _, rfl, HV.out, BV.out⟩
      case round =>
        obtain ⟨j, hj, rfl, h4, b4⟩ := hrel
        have H4 := Lib.hid h4; have B4 := Lib.hid b4
        clear h4 b4 HV BV
        have c0 := H4.out.r.c0
        by_cases hjk : j < k
        · have j1 : (j : Int) < (k : Int) := by omega
          have RD := Lib.hid (dRead_t j hjk H4.out.d.dk)
          rw [← H4.out.eI j hjk] at RD
          have LS := Lib.hid (H4.out.r.iS j)
          go_upto_region 13 with (go_at_call 12; refine RD.out.mono ?_; rintro e w5 ⟨rfl, bk5, hb5⟩)
          have H5 := Lib.hid (H4.out.below hb5); have B5 := Lib.hid (B4.out.trans (hb5.mono B4.out.size))
          have c5 := H5.out.r.c0
          have SA := sliceAt_all (P := Try.prog) Try.underlying53 byte_size rl (j * 129)
          have SM := Lib.hid (same_textsD (I j) (I j) (some ⟨wr.heap.size, 0, none⟩) (some ⟨rl, j * 129, none⟩) 64 64 64 64 w5 LS.out.1 LS.out.1 bk5.sr (H5.out.r.srI hjk) LS.out.2 LS.out.2)
          rw [decide_eq_true (rfl : I j = I j)] at SM
          clear bk5 hb5 RD H4 B4
          go_wp2_with (go_at_call 19; refine SM.out.mono ?_; rintro e w6 ⟨rfl, rfl⟩)
          go_roundw
          case rel => exact ⟨j + 1, hjk, by go_num, H5.out, B5.out⟩
          case measure => simp [intOf]; omega
        · obtain rfl : j = k := by omega
          have R1 := Lib.hid (dRead_no (j : Int) (by omega) H4.out.d.dk)
          have R2 := Lib.hid (dRead_no (-1) (by omega) H4.out.d.dk)
          clear hjk
          go_wp2_with (first
            | (go_at_call 12; with_reducible refine R1.out.mono ?_; rintro e w5 ⟨rfl, rfl⟩)
            | (go_at_call 12; with_reducible refine R2.out.mono ?_; rintro e w5 ⟨rfl, rfl⟩))
          go_ret
          exact ⟨rfl, B4.out⟩
end Go.Proofs.Ytgaiheaibejloaa
