/-
  DiskPlays walked.
-/
import Derived.Test.YtgaiheaibejloaaDkO
import Derived.Test.YtgaiheaibejloaaRowE
namespace Go.Proofs.Ytgaiheaibejloaa
open Go Go.RowKit Go.Maps Go.ChangeMaps Go.MapKept Sh

theorem mod_41 (n : Int) : ∃ k : Nat, k < 41 ∧ wrap64 ((IntKind.u64.wrap n).tmod 41) = (k : Int) := by
  have h0 : 0 ≤ IntKind.u64.wrap n := by simp [IntKind.wrap, IntKind.bits, IntKind.signed]; omega
  rw [Int.tmod_eq_emod_of_nonneg h0]
  generalize IntKind.u64.wrap n = x at *
  refine ⟨(x % 41).toNat, by omega, ?_⟩
  unfold wrap64
  omega
section
variable {w0 w w' : World} {g bs bm rb rl k n : Nat} {S : Nat → List Nat} {M : Nat → Option (List Nat)} {I W : Nat → List Nat} {D : Nat → Bool}
theorem BR.far (h : BR w0 w g bs bm rb rl k n S M I W D) : g ≠ rl ∧ bs ≠ rl ∧ bm ≠ rl ∧ rb ≠ bs ∧ rb ≠ bm ∧ rl ≠ bs ∧ rl ≠ bm :=
  ⟨h.d.dk.b.apart h.r.r (by decide), h.d.dk.s.apart h.r.r (by decide), h.d.dk.m.apart h.r.r, h.r.b.apart h.d.dk.s (by decide), fun e => h.d.dk.m.apart h.r.b e.symm, h.r.r.apart h.d.dk.s (by decide), fun e => h.d.dk.m.apart h.r.r e.symm⟩
/-- The disk has moved, the reference's not yet. -/
theorem BR.rk1 (h : BR w0 w g bs bm rb rl k n S M I W D) (hk : Kept (fun b => b = bs ∨ b = bm) w w') : RK w' rb rl k I W D := by
  obtain ⟨_, _, _, f4, f5, f6, f7⟩ := h.far
  exact h.r.kept hk (fun e => e.elim f4 f5) (fun e => e.elim f6 f7)
theorem DW.keptR (h : DW w0 w g bs bm k n S M) (hk : Kept (fun b => b = rl) w w') (h1 : g ≠ rl) (h2 : bs ≠ rl) (h3 : bm ≠ rl) (h0 : w0.heap.size ≤ rl) : DW w0 w' g bs bm k n S M :=
  ⟨h.dk.kept hk h1 h2 h3, h.g0, h.s0, h.m0, h.bel.trans ⟨hk.os, hk.tape, hk.output, hk.size, fun i hi => hk.block i (Nat.lt_of_lt_of_le hi h.bel.size) (by omega)⟩⟩
theorem BR.write (h : BR w0 w g bs bm rb rl k n S M I W D) {j : Nat} {P : List Nat} (d : DW w0 w' g bs bm k (n + 1) S (upd M j (some P))) (r : RK w' rb rl k (upd I j P) W (upd D j true)) : BR w0 w' g bs bm rb rl k (n + 1) S (upd M j (some P)) (upd I j P) W (upd D j true) :=
  ⟨d, r, h.r0, h.r1, fun i hi => by
    by_cases e : i = j
    · subst e; rw [upd_same]; unfold isS; rw [upd_same]; rfl
    · rw [upd_other _ _ e, h.eI i hi]; unfold isS; rw [upd_other _ _ e], h.eW, fun i hi => by
    by_cases e : i = j
    · subst e; rw [upd_same, upd_same]; rfl
    · rw [upd_other _ _ e, upd_other _ _ e, h.eD i hi]⟩
theorem BR.sync (h : BR w0 w g bs bm rb rl k n S M I W D) (d : DW w0 w' g bs bm k 0 (isS S M) (fun _ => none)) (r : RK w' rb rl k I I (fun _ => false)) : BR w0 w' g bs bm rb rl k 0 (isS S M) (fun _ => none) I I (fun _ => false) :=
  ⟨d, r, h.r0, h.r1, fun i hi => h.eI i hi, fun i hi => h.eI i hi, fun _ _ => rfl⟩
theorem cr_same {K : Nat → Bool} {t : Int} {q j : Nat} (eI : I j = isS S M j) (eW : W j = S j) (eD : D j = (M j).isSome) : crI I W D K t q j = crS S M K t q j := by
  unfold crI crS svS kpS
  rw [eD, eI, eW]
  unfold isS
  cases hM : M j with
  | none => cases K j <;> simp
  | some X =>
    have hm : mix q X X = X := by unfold mix; exact List.take_append_drop q X
    cases K j with
    | true => simp [hm]
    | false => simp
theorem BR.crash (h : BR w0 w g bs bm rb rl k n S M I W D) {K : Nat → Bool} {t : Int} {q : Nat} (d : DW w0 w' g bs bm k 0 (crS S M K t q) (fun _ => none)) (r : RK w' rb rl k (crI I W D K t q) (crI I W D K t q) (fun _ => false)) : BR w0 w' g bs bm rb rl k 0 (crS S M K t q) (fun _ => none) (crI I W D K t q) (crI I W D K t q) (fun _ => false) :=
  ⟨d, r, h.r0, h.r1, fun i hi => cr_same (h.eI i hi) (h.eW i hi) (h.eD i hi), fun i hi => cr_same (h.eI i hi) (h.eW i hi) (h.eD i hi), fun _ _ => rfl⟩
end
set_option maxRecDepth 100000 in
set_option maxHeartbeats 4000000 in
theorem plays_t (x : Int) (A : Option Addr) (c : Nat) (l : List Ov) (w : World) (hA : RowLD w A 5 ov l) (hO : ∀ y ∈ l, OvW w y) (hl : l.length ≤ maxLen) :
    Calls Try.prog 4 #[.int .i64 x, .slice A l.length c] w fun e w' => e = .returned (.bool true) ∧ Below w.heap.size w w' := by
  obtain ⟨k, hk, hke⟩ := mod_41 x
  have NW := Lib.hid (wNew k (by omega) (Below.refl w.heap.size w))
  have HA := Lib.hid hA; have HO := Lib.hid hO
  have k1 : (k : Int) ≤ 40 := by omega
  have z1 : (l.length : Int) ≤ 9223372036854775807 := by unfold maxLen at hl; omega
  obtain ⟨N, hN⟩ : ∃ z, l.length = z := ⟨_, rfl⟩
  rw [hN] at z1 ⊢
  have HN := Lib.hid hN
  clear hA hO hl hN
  go_enter Try.func4, Try.ntmps4
  go_upto_region 2 with (fail)
  rw [hke]
  clear hke
  go_upto_region 5 with (go_at_call 7; refine NW.out.mono ?_; rintro e w1 ⟨g, bs, bm, rfl, d1, _, _, _, _⟩)
  have D1 := Lib.hid d1
  have RN := Lib.hid (rNew_t k (by omega) w1)
  clear d1 NW hk
  go_upto_region 6 with (go_at_call 14; refine RN.out.mono ?_; rintro e w2 ⟨rb, rl, rfl, r2, hr1, hr2, b2⟩)
  have H2 := Lib.hid (show BR w w2 g bs bm rb rl k 0 (fun _ => zeroL) (fun _ => none) (fun _ => zeroL) (fun _ => zeroL) (fun _ => false) from
    ⟨D1.out.below b2, r2, by have := D1.out.bel.size; omega, by have := D1.out.bel.size; omega, fun _ _ => rfl, fun _ _ => rfl, fun _ _ => rfl⟩)
  clear r2 hr1 hr2 b2 RN D1
  go_wp2_with fail
  go_loopw [9] (fun s9 wr => ∃ (i n : Nat) (S : Nat → List Nat) (M : Nat → Option (List Nat)) (I W : Nat → List Nat) (D : Nat → Bool), i ≤ 60 ∧ n ≤ i ∧ s9 = .int .i64 (i : Int) ∧ BR w wr g bs bm rb rl k n S M I W D) (fun s _ => 60 - (intOf s).toNat)
  case atStart => exact ⟨0, 0, _, _, _, _, _, by omega, Nat.le_refl _, rfl, H2.out⟩
  case round =>
    obtain ⟨i, n, S, M, I, W, D, hi, hn, rfl, h3⟩ := hrel
    have H3 := Lib.hid h3
    clear h3 H2
    by_cases hall : i < N ∧ i < 60
    · obtain ⟨h1, h2⟩ := hall
      have i1 : (i : Int) < (N : Int) := by omega
      have i2 : (i : Int) < 60 := by omega
      obtain ⟨y, hy⟩ : ∃ y, l[i]? = some y := ⟨_, List.getElem?_eq_getElem (by rw [HN.out]; exact h1)⟩
      obtain ⟨b, o, rfl, hb1, hrg⟩ := (HA.out.below H3.out.d.bel) i y hy
      have HYW := Lib.hid (HO.out y (List.mem_of_getElem? hy))
      have RG := Lib.hid hrg
      have F1 := Lib.hid (show (ov y).toArray.all (·.oneCell') = true by simp [ov, Value.oneCell'])
      have sz := Lib.hid (show (Try.prog.info? 39).map (·.size) = some (ov y).length by show _ = some 5; kernel_rfl)
      clear hy hb1 hrg
      go_upto_region 10 with (first
        | ((with_reducible refine at_op (.load 39 (.tmp 40)) rfl ?_); refine wpList_load_mid rfl 39 (.tmp 40) rfl b (o + i * 5) rfl (ov y) _ RG.out Try.underlying39 rfl sz.out ?_)
        | ((with_reducible refine at_op (.store 39 (.tmp 10) (.tmp 41)) rfl ?_); refine store_blk 39 (.tmp 10) (.tmp 41) _ 39 _ (ov y) rfl rfl (Blk.new _ _ _) rfl sz.out F1.out rfl rfl ?_; rw [World.setRow_alloc_new]))
      obtain ⟨W1, hW1⟩ : ∃ z, wr.alloc (.cells (ov y).toArray 39) = z := ⟨_, rfl⟩
      have b1 : Below wr.heap.size wr W1 := by rw [← hW1]; exact (Below.refl _ _).alloc (Nat.le_refl _) _
      have H4 := Lib.hid (H3.out.below b1)
      have OB := Lib.hid (show Blk W1 wr.heap.size 39 (ov y) by rw [← hW1]; exact Blk.new wr _ _)
      rw [hW1]
      obtain ⟨ob, hob⟩ : ∃ z, wr.heap.size = z := ⟨_, rfl⟩
      rw [hob] at OB ⊢
      clear hW1 b1 hob H3 RG F1 sz
      have TD := Lib.hid (dtold_t W1)
      have f3 : W1.cell? ⟨ob, 3, none⟩ = some (.slice y.A y.xs.length y.c) := OB.out.cell 3
      have f4 : W1.cell? ⟨ob, 4, none⟩ = some (.slice y.B y.m y.d) := OB.out.cell 4
      have f0 : W1.cell? ⟨ob, 0, none⟩ = some (.int .i64 y.kd) := OB.out.cell 0
      have y1 : (y.xs.length : Int) ≤ 9223372036854775807 := by have := HYW.out.l; unfold maxLen at this; omega
      have y2 : (y.m : Int) ≤ 9223372036854775807 := by have := HYW.out.ml; unfold maxLen at this; omega
      by_cases hb1 : 100 < y.xs.length
      · have j1 : (100 : Int) < (y.xs.length : Int) := by omega
        go_wp2_with (go_at_call 13; refine TD.out.mono ?_; rintro e w4 ⟨rfl, b4⟩; have BE := Lib.hid (H4.out.d.bel.trans (b4.mono H4.out.d.bel.size)); clear b4)
        go_ret
        exact ⟨rfl, BE.out⟩
      have j1 : ¬ (100 : Int) < (y.xs.length : Int) := by omega
      by_cases hb2 : 50 < y.m
      · have j2 : (50 : Int) < (y.m : Int) := by omega
        go_wp2_with (go_at_call 13; refine TD.out.mono ?_; rintro e w4 ⟨rfl, b4⟩; have BE := Lib.hid (H4.out.d.bel.trans (b4.mono H4.out.d.bel.size)); clear b4)
        go_ret
        exact ⟨rfl, BE.out⟩
      have j2 : ¬ (50 : Int) < (y.m : Int) := by omega
      clear TD
      by_cases hk0 : y.kd = 0
      · rw [hk0] at f0
        clear hk0
        go_upto_region 16 with (fail)
        obtain ⟨V, hV⟩ : ∃ V, W1.drew = V := ⟨_, rfl⟩
        have HV := Lib.hid (show BR w V g bs bm rb rl k n S M I W D by rw [← hV]; exact H4.out.below (Below.refl _ _).drew)
        have OV := Lib.hid (show Blk V ob 39 (ov y) by rw [← hV]; exact OB.out.drew)
        have s0 : V.cell? ⟨ob, 1, none⟩ = some (.int .i64 y.at_) ∧ V.cell? ⟨ob, 3, none⟩ = some (.slice y.A y.xs.length y.c) := ⟨OV.out.cell 1, OV.out.cell 3⟩
        by_cases hin : 0 ≤ y.at_ ∧ y.at_ < (k : Int)
        · by_cases hlong : 64 < y.xs.length
          · skip
            have WR := Lib.hid (dWrite_long y.at_ y.A y.xs.length y.c hin hlong HYW.out.l HV.out.d.dk)
            have RR := Lib.hid (rWrite_long y.at_ y.A y.xs.length y.c hin hlong HYW.out.l HV.out.r)
            clear H4 HYW OB hb1 hb2 y1 y2 f0 f3 f4
            refine wp_region_held (S := fun Y => Y.cell? ⟨ob, 1, none⟩ = some (.int .i64 y.at_) ∧ Y.cell? ⟨ob, 3, none⟩ = some (.slice y.A y.xs.length y.c)) (by kernel_rfl) ?_
            change wpAnyH _ _ _ _ _ _ _ _ W1.drew
            rw [hV]
            refine wpAnyH_take (i := 0) (v := ?_) rfl (by kernel_rfl) (by kernel_rfl) (by kernel_rfl) (fun _ _ _ h => h) (Or.inl ⟨by kernel_rfl, ?_⟩) s0 ?_
            rotate_left 1
            · (intro w hS; clear hS; go_simp; try (with_reducible rfl))
            refine wpAnyH_take (i := 1) (v := ?_) rfl (by kernel_rfl) (by kernel_rfl) (by kernel_rfl) (fun _ _ _ h => h) (Or.inl ⟨by kernel_rfl, ?_⟩) s0 ?_
            rotate_left 1
            · (intro w hS; clear hS; go_simp; try (with_reducible rfl))
            refine wpAnyH_take (i := 2) (v := ?_) rfl (by kernel_rfl) (by kernel_rfl) (by kernel_rfl) (fun _ _ _ h => h) (Or.inl ⟨by kernel_rfl, ?_⟩) s0 ?_
            rotate_left 1
            · (intro w hS; have hs := hS.1; clear hS; go_simp; try (with_reducible rfl))
            refine wpAnyH_take (i := 3) (v := ?_) rfl (by kernel_rfl) (by kernel_rfl) (by kernel_rfl) (fun _ _ _ h => h) (Or.inl ⟨by kernel_rfl, ?_⟩) s0 ?_
            rotate_left 1
            · (intro w hS; clear hS; go_simp; try (with_reducible rfl))
            refine wpAnyH_take (i := 4) (v := ?_) rfl (by kernel_rfl) (by kernel_rfl) (by kernel_rfl) (fun _ _ _ h => h) (Or.inl ⟨by kernel_rfl, ?_⟩) s0 ?_
            rotate_left 1
            · (intro w hS; have hs := hS.2; clear hS; go_simp; try (with_reducible rfl))
            refine wpAnyH_take (i := 6) (v := ?_) rfl (by kernel_rfl) (by kernel_rfl) (by kernel_rfl) (fun _ _ _ h => h) (Or.inl ⟨by kernel_rfl, ?_⟩) s0 ?_
            rotate_left 1
            · (intro w hS; clear hS; go_simp; try (with_reducible rfl))
            refine wpAnyH_take (i := 7) (v := ?_) rfl (by kernel_rfl) (by kernel_rfl) (by kernel_rfl) (fun _ _ _ h => h) (Or.inl ⟨by kernel_rfl, ?_⟩) s0 ?_
            rotate_left 1
            · (intro w hS; clear hS; go_simp; try (with_reducible rfl))
            refine wpAnyH_take (i := 8) (v := ?_) rfl (by kernel_rfl) (by kernel_rfl) (by kernel_rfl) (fun _ _ _ h => h) (Or.inl ⟨by kernel_rfl, ?_⟩) s0 ?_
            rotate_left 1
            · (intro w hS; have hs := hS.1; clear hS; go_simp; try (with_reducible rfl))
            refine wpAnyH_take (i := 9) (v := ?_) rfl (by kernel_rfl) (by kernel_rfl) (by kernel_rfl) (fun _ _ _ h => h) (Or.inl ⟨by kernel_rfl, ?_⟩) s0 ?_
            rotate_left 1
            · (intro w hS; clear hS; go_simp; try (with_reducible rfl))
            refine wpAnyH_take (i := 10) (v := ?_) rfl (by kernel_rfl) (by kernel_rfl) (by kernel_rfl) (fun _ _ _ h => h) (Or.inl ⟨by kernel_rfl, ?_⟩) s0 ?_
            rotate_left 1
            · (intro w hS; have hs := hS.2; clear hS; go_simp; try (with_reducible rfl))
            go_simp
            refine wpAnyH_ready (rs := [5]) (by kernel_rfl) (by simp) ?_
            refine AllReadyH.cons rfl (fun K hK => ?_) AllReadyH.nil
            go_simp
            refine WR.out.mono ?_
            rintro e w5 ⟨rfl, rfl⟩
            refine hK.out _ _ s0 (fun _ => ?_)
            clear hK K
            refine wpAnyH_ready (rs := [11]) (by kernel_rfl) (by simp) ?_
            refine AllReadyH.cons rfl (fun K hK => ?_) AllReadyH.nil
            go_simp
            refine RR.out.mono ?_
            rintro e w6 ⟨rfl, rfl⟩
            refine hK.out _ _ s0 (fun _ => ?_)
            clear hK K WR RR
            refine wpAnyH_take (i := 12) (v := ?_) rfl (by kernel_rfl) (by kernel_rfl) (by kernel_rfl) (fun _ _ _ h => h) (Or.inl ⟨by kernel_rfl, ?_⟩) s0 ?_
            rotate_left 1
            · (intro w hS; clear hS; go_simp; try (with_reducible rfl))
            refine wpAnyH_done (by kernel_rfl) ?_ _
            clear s0
            go_simp
            have H5 := HV
            have SM := Lib.hid (dSame_t (by omega) H5.out)
            go_wp2_with (go_at_call 18; refine SM.out.mono ?_; rintro e w9 ⟨rfl, b9⟩; have H9 := Lib.hid (H5.out.below b9); clear b9)
            go_roundw
            case rel => exact ⟨i + 1, _, _, _, _, _, _, by omega, (Nat.le_succ_of_le hn), by go_num, H9.out⟩
            case measure => simp [intOf]; omega
          · obtain ⟨j, hj⟩ : ∃ j : Nat, y.at_ = (j : Int) := ⟨y.at_.toNat, by omega⟩
            rw [hj] at s0 hin
            have hjk : j < k := by omega
            have LX := Lib.hid (pad_length (l := y.xs) (by omega))
            have WR := Lib.hid (wWrite j y.A y.xs.length y.c y.xs hjk (by omega) rfl (HYW.out.s.below HV.out.d.bel) HYW.out.b (by omega) HV.out.d)
            have obs : ob ≠ bs := OV.out.apart HV.out.d.dk.s (by decide)
            have obm : ob ≠ bm := fun e => HV.out.d.dk.m.apart OV.out e.symm
            have obl : ob ≠ rl := OV.out.apart HV.out.r.r (by decide)
            have hle : y.xs.length ≤ 64 := by omega
            clear H4 OB hb1 hb2 y1 y2 f0 f3 f4 hin hlong
            refine wp_region_held (S := fun Y => Y.cell? ⟨ob, 1, none⟩ = some (.int .i64 (j : Int)) ∧ Y.cell? ⟨ob, 3, none⟩ = some (.slice y.A y.xs.length y.c)) (by kernel_rfl) ?_
            change wpAnyH _ _ _ _ _ _ _ _ W1.drew
            rw [hV]
            refine wpAnyH_take (i := 0) (v := ?_) rfl (by kernel_rfl) (by kernel_rfl) (by kernel_rfl) (fun _ _ _ h => h) (Or.inl ⟨by kernel_rfl, ?_⟩) s0 ?_
            rotate_left 1
            · (intro w hS; clear hS; go_simp; try (with_reducible rfl))
            refine wpAnyH_take (i := 1) (v := ?_) rfl (by kernel_rfl) (by kernel_rfl) (by kernel_rfl) (fun _ _ _ h => h) (Or.inl ⟨by kernel_rfl, ?_⟩) s0 ?_
            rotate_left 1
            · (intro w hS; clear hS; go_simp; try (with_reducible rfl))
            refine wpAnyH_take (i := 2) (v := ?_) rfl (by kernel_rfl) (by kernel_rfl) (by kernel_rfl) (fun _ _ _ h => h) (Or.inl ⟨by kernel_rfl, ?_⟩) s0 ?_
            rotate_left 1
            · (intro w hS; have hs := hS.1; clear hS; go_simp; try (with_reducible rfl))
            refine wpAnyH_take (i := 3) (v := ?_) rfl (by kernel_rfl) (by kernel_rfl) (by kernel_rfl) (fun _ _ _ h => h) (Or.inl ⟨by kernel_rfl, ?_⟩) s0 ?_
            rotate_left 1
            · (intro w hS; clear hS; go_simp; try (with_reducible rfl))
            refine wpAnyH_take (i := 4) (v := ?_) rfl (by kernel_rfl) (by kernel_rfl) (by kernel_rfl) (fun _ _ _ h => h) (Or.inl ⟨by kernel_rfl, ?_⟩) s0 ?_
            rotate_left 1
            · (intro w hS; have hs := hS.2; clear hS; go_simp; try (with_reducible rfl))
            refine wpAnyH_take (i := 6) (v := ?_) rfl (by kernel_rfl) (by kernel_rfl) (by kernel_rfl) (fun _ _ _ h => h) (Or.inl ⟨by kernel_rfl, ?_⟩) s0 ?_
            rotate_left 1
            · (intro w hS; clear hS; go_simp; try (with_reducible rfl))
            refine wpAnyH_take (i := 7) (v := ?_) rfl (by kernel_rfl) (by kernel_rfl) (by kernel_rfl) (fun _ _ _ h => h) (Or.inl ⟨by kernel_rfl, ?_⟩) s0 ?_
            rotate_left 1
            · (intro w hS; clear hS; go_simp; try (with_reducible rfl))
            refine wpAnyH_take (i := 8) (v := ?_) rfl (by kernel_rfl) (by kernel_rfl) (by kernel_rfl) (fun _ _ _ h => h) (Or.inl ⟨by kernel_rfl, ?_⟩) s0 ?_
            rotate_left 1
            · (intro w hS; have hs := hS.1; clear hS; go_simp; try (with_reducible rfl))
            refine wpAnyH_take (i := 9) (v := ?_) rfl (by kernel_rfl) (by kernel_rfl) (by kernel_rfl) (fun _ _ _ h => h) (Or.inl ⟨by kernel_rfl, ?_⟩) s0 ?_
            rotate_left 1
            · (intro w hS; clear hS; go_simp; try (with_reducible rfl))
            refine wpAnyH_take (i := 10) (v := ?_) rfl (by kernel_rfl) (by kernel_rfl) (by kernel_rfl) (fun _ _ _ h => h) (Or.inl ⟨by kernel_rfl, ?_⟩) s0 ?_
            rotate_left 1
            · (intro w hS; have hs := hS.2; clear hS; go_simp; try (with_reducible rfl))
            go_simp
            refine wpAnyH_ready (rs := [5]) (by kernel_rfl) (by simp) ?_
            refine AllReadyH.cons rfl (fun K hK => ?_) AllReadyH.nil
            go_simp
            refine WR.out.mono ?_
            rintro e w5 ⟨rfl, d5, k5⟩
            have R5 := Lib.hid (HV.out.rk1 k5); have D5 := Lib.hid d5
            have OV5 := Lib.hid (OV.out.kept k5 (fun e => e.elim obs obm))
            have s1 : w5.cell? ⟨ob, 1, none⟩ = some (.int .i64 (j : Int)) ∧ w5.cell? ⟨ob, 3, none⟩ = some (.slice y.A y.xs.length y.c) := ⟨by rw [← hj]; exact OV5.out.cell 1, OV5.out.cell 3⟩
            have RR := Lib.hid (rWrite_ok j y.A y.xs.length y.c y.xs hjk hle rfl (HYW.out.s.below D5.out.bel) HYW.out.b R5.out)
            clear d5 k5 WR
            refine hK.out _ _ s1 (fun _ => ?_)
            clear hK K
            refine wpAnyH_ready (rs := [11]) (by kernel_rfl) (by simp) ?_
            refine AllReadyH.cons rfl (fun K hK => ?_) AllReadyH.nil
            go_simp
            refine RR.out.mono ?_
            rintro e w6 ⟨rfl, r6, k6⟩
            have H5 := Lib.hid (HV.out.write (D5.out.keptR k6 HV.out.far.1 HV.out.far.2.1 HV.out.far.2.2.1 HV.out.r1) r6)
            have OV6 := Lib.hid (OV5.out.kept k6 obl)
            have s2 : w6.cell? ⟨ob, 1, none⟩ = some (.int .i64 (j : Int)) ∧ w6.cell? ⟨ob, 3, none⟩ = some (.slice y.A y.xs.length y.c) := ⟨by rw [← hj]; exact OV6.out.cell 1, OV6.out.cell 3⟩
            clear r6 k6 RR R5 D5 OV5 s1
            refine hK.out _ _ s2 (fun _ => ?_)
            clear hK K
            refine wpAnyH_take (i := 12) (v := ?_) rfl (by kernel_rfl) (by kernel_rfl) (by kernel_rfl) (fun _ _ _ h => h) (Or.inl ⟨by kernel_rfl, ?_⟩) s2 ?_
            rotate_left 1
            · (intro w hS; clear hS; go_simp; try (with_reducible rfl))
            refine wpAnyH_done (by kernel_rfl) ?_ _
            clear s2 s0
            go_simp
            have SM := Lib.hid (dSame_t (by omega) H5.out)
            go_wp2_with (go_at_call 18; refine SM.out.mono ?_; rintro e w9 ⟨rfl, b9⟩; have H9 := Lib.hid (H5.out.below b9); clear b9)
            go_roundw
            case rel => exact ⟨i + 1, _, _, _, _, _, _, by omega, (Nat.succ_le_succ hn), by go_num, H9.out⟩
            case measure => simp [intOf]; omega
        · skip
          have WR := Lib.hid (dWrite_none y.at_ (.slice y.A y.xs.length y.c) hin HV.out.d.dk)
          have RR := Lib.hid (rWrite_none y.at_ (.slice y.A y.xs.length y.c) hin HV.out.r)
          clear H4 HYW OB hb1 hb2 y1 y2 f0 f3 f4
          refine wp_region_held (S := fun Y => Y.cell? ⟨ob, 1, none⟩ = some (.int .i64 y.at_) ∧ Y.cell? ⟨ob, 3, none⟩ = some (.slice y.A y.xs.length y.c)) (by kernel_rfl) ?_
          change wpAnyH _ _ _ _ _ _ _ _ W1.drew
          rw [hV]
          refine wpAnyH_take (i := 0) (v := ?_) rfl (by kernel_rfl) (by kernel_rfl) (by kernel_rfl) (fun _ _ _ h => h) (Or.inl ⟨by kernel_rfl, ?_⟩) s0 ?_
          rotate_left 1
          · (intro w hS; clear hS; go_simp; try (with_reducible rfl))
          refine wpAnyH_take (i := 1) (v := ?_) rfl (by kernel_rfl) (by kernel_rfl) (by kernel_rfl) (fun _ _ _ h => h) (Or.inl ⟨by kernel_rfl, ?_⟩) s0 ?_
          rotate_left 1
          · (intro w hS; clear hS; go_simp; try (with_reducible rfl))
          refine wpAnyH_take (i := 2) (v := ?_) rfl (by kernel_rfl) (by kernel_rfl) (by kernel_rfl) (fun _ _ _ h => h) (Or.inl ⟨by kernel_rfl, ?_⟩) s0 ?_
          rotate_left 1
          · (intro w hS; have hs := hS.1; clear hS; go_simp; try (with_reducible rfl))
          refine wpAnyH_take (i := 3) (v := ?_) rfl (by kernel_rfl) (by kernel_rfl) (by kernel_rfl) (fun _ _ _ h => h) (Or.inl ⟨by kernel_rfl, ?_⟩) s0 ?_
          rotate_left 1
          · (intro w hS; clear hS; go_simp; try (with_reducible rfl))
          refine wpAnyH_take (i := 4) (v := ?_) rfl (by kernel_rfl) (by kernel_rfl) (by kernel_rfl) (fun _ _ _ h => h) (Or.inl ⟨by kernel_rfl, ?_⟩) s0 ?_
          rotate_left 1
          · (intro w hS; have hs := hS.2; clear hS; go_simp; try (with_reducible rfl))
          refine wpAnyH_take (i := 6) (v := ?_) rfl (by kernel_rfl) (by kernel_rfl) (by kernel_rfl) (fun _ _ _ h => h) (Or.inl ⟨by kernel_rfl, ?_⟩) s0 ?_
          rotate_left 1
          · (intro w hS; clear hS; go_simp; try (with_reducible rfl))
          refine wpAnyH_take (i := 7) (v := ?_) rfl (by kernel_rfl) (by kernel_rfl) (by kernel_rfl) (fun _ _ _ h => h) (Or.inl ⟨by kernel_rfl, ?_⟩) s0 ?_
          rotate_left 1
          · (intro w hS; clear hS; go_simp; try (with_reducible rfl))
          refine wpAnyH_take (i := 8) (v := ?_) rfl (by kernel_rfl) (by kernel_rfl) (by kernel_rfl) (fun _ _ _ h => h) (Or.inl ⟨by kernel_rfl, ?_⟩) s0 ?_
          rotate_left 1
          · (intro w hS; have hs := hS.1; clear hS; go_simp; try (with_reducible rfl))
          refine wpAnyH_take (i := 9) (v := ?_) rfl (by kernel_rfl) (by kernel_rfl) (by kernel_rfl) (fun _ _ _ h => h) (Or.inl ⟨by kernel_rfl, ?_⟩) s0 ?_
          rotate_left 1
          · (intro w hS; clear hS; go_simp; try (with_reducible rfl))
          refine wpAnyH_take (i := 10) (v := ?_) rfl (by kernel_rfl) (by kernel_rfl) (by kernel_rfl) (fun _ _ _ h => h) (Or.inl ⟨by kernel_rfl, ?_⟩) s0 ?_
          rotate_left 1
          · (intro w hS; have hs := hS.2; clear hS; go_simp; try (with_reducible rfl))
          go_simp
          refine wpAnyH_ready (rs := [5]) (by kernel_rfl) (by simp) ?_
          refine AllReadyH.cons rfl (fun K hK => ?_) AllReadyH.nil
          go_simp
          refine WR.out.mono ?_
          rintro e w5 ⟨rfl, rfl⟩
          refine hK.out _ _ s0 (fun _ => ?_)
          clear hK K
          refine wpAnyH_ready (rs := [11]) (by kernel_rfl) (by simp) ?_
          refine AllReadyH.cons rfl (fun K hK => ?_) AllReadyH.nil
          go_simp
          refine RR.out.mono ?_
          rintro e w6 ⟨rfl, rfl⟩
          refine hK.out _ _ s0 (fun _ => ?_)
          clear hK K WR RR
          refine wpAnyH_take (i := 12) (v := ?_) rfl (by kernel_rfl) (by kernel_rfl) (by kernel_rfl) (fun _ _ _ h => h) (Or.inl ⟨by kernel_rfl, ?_⟩) s0 ?_
          rotate_left 1
          · (intro w hS; clear hS; go_simp; try (with_reducible rfl))
          refine wpAnyH_done (by kernel_rfl) ?_ _
          clear s0
          go_simp
          have H5 := HV
          have SM := Lib.hid (dSame_t (by omega) H5.out)
          go_wp2_with (go_at_call 18; refine SM.out.mono ?_; rintro e w9 ⟨rfl, b9⟩; have H9 := Lib.hid (H5.out.below b9); clear b9)
          go_roundw
          case rel => exact ⟨i + 1, _, _, _, _, _, _, by omega, (Nat.le_succ_of_le hn), by go_num, H9.out⟩
          case measure => simp [intOf]; omega
      have e0 : (y.kd == 0) = false := by rw [beq_eq_false_iff_ne]; exact hk0
      by_cases hk1 : y.kd = 1
      · have e1 : (y.kd == 1) = true := by rw [beq_iff_eq]; exact hk1
        have SY := Lib.hid (wSync H4.out.d)
        clear hk0 hk1 hb1 hb2
        go_wp2_with (first
          | (go_at_call 9; refine SY.out.mono ?_; rintro e w5 ⟨rfl, d5, k5⟩; have R5 := Lib.hid (H4.out.rk1 k5); have D5 := Lib.hid d5; have RS := Lib.hid (rSync_t R5.out); clear d5 k5)
          | (go_at_call 16; refine RS.out.mono ?_; rintro e w6 ⟨rfl, r6, k6⟩; have H5 := Lib.hid (H4.out.sync (D5.out.keptR k6 H4.out.far.1 H4.out.far.2.1 H4.out.far.2.2.1 H4.out.r1) r6); have SM := Lib.hid (dSame_t (by decide) H5.out); clear r6 k6)
          | (go_at_call 18; refine SM.out.mono ?_; rintro e w9 ⟨rfl, b9⟩; have H9 := Lib.hid (H5.out.below b9); clear b9))
        go_roundw
        case rel => exact ⟨i + 1, _, _, _, _, _, _, by omega, Nat.zero_le _, by go_num, H9.out⟩
        case measure => simp [intOf]; omega
      · have e1 : (y.kd == 1) = false := by rw [beq_eq_false_iff_ne]; exact hk1
        have f1 : W1.cell? ⟨ob, 1, none⟩ = some (.int .i64 y.at_) := OB.out.cell 1
        have f2 : W1.cell? ⟨ob, 2, none⟩ = some (.int .i64 y.n) := OB.out.cell 2
        have CR := Lib.hid (wCrash y.B y.m y.d y.L y.at_ y.n (fun j hj => by
          obtain ⟨b, o, g1, g2, g3, g4⟩ := HYW.out.i j hj
          have := H4.out.d.s0; have := H4.out.d.bel.size
          exact ⟨b, o, g1, by omega, by omega, (H4.out.d.bel.cell (p := ⟨b, o + j, none⟩) g2).trans g3, g4⟩) (by omega) HYW.out.a H4.out.d)
        have obs : ob ≠ bs := OB.out.apart H4.out.d.dk.s (by decide)
        have obm : ob ≠ bm := fun e => H4.out.d.dk.m.apart OB.out e.symm
        have hb2' : y.m ≤ 50 := by omega
        clear hk0 hk1 hb1 hb2
        go_wp2_with (first
          | (go_at_call 11; refine CR.out.mono ?_; rintro e w5 ⟨rfl, d5, k5⟩; have R5 := Lib.hid (H4.out.rk1 k5); have D5 := Lib.hid d5; have OB5 := Lib.hid (OB.out.kept k5 (fun e => e.elim obs obm)); have p1 : w5.cell? ⟨ob, 1, none⟩ = some (.int .i64 y.at_) := OB5.out.cell 1; have p2 : w5.cell? ⟨ob, 2, none⟩ = some (.int .i64 y.n) := OB5.out.cell 2; have p4 : w5.cell? ⟨ob, 4, none⟩ = some (.slice y.B y.m y.d) := OB5.out.cell 4; have RS := Lib.hid (rCrash_t y.B y.m y.d y.L y.at_ y.n (fun j hj => by
              obtain ⟨b, o, g1, g2, g3, g4⟩ := HYW.out.i j hj
              have := H4.out.r1; have := D5.out.bel.size
              exact ⟨b, o, g1, by omega, by omega, (D5.out.bel.cell (p := ⟨b, o + j, none⟩) g2).trans g3, g4⟩) hb2' R5.out); clear d5 k5)
          | (go_at_call 17; refine RS.out.mono ?_; rintro e w6 ⟨rfl, r6, k6⟩; have H5 := Lib.hid (H4.out.crash (D5.out.keptR k6 H4.out.far.1 H4.out.far.2.1 H4.out.far.2.2.1 H4.out.r1) r6); have SM := Lib.hid (dSame_t (by decide) H5.out); clear r6 k6)
          | (go_at_call 18; refine SM.out.mono ?_; rintro e w9 ⟨rfl, b9⟩; have H9 := Lib.hid (H5.out.below b9); clear b9))
        go_roundw
        case rel => exact ⟨i + 1, _, _, _, _, _, _, by omega, Nat.zero_le _, by go_num, H9.out⟩
        case measure => simp [intOf]; omega
    · go_upto_region 7 with (fail)
      go_cut [35] (fun s35 wx => s35 = .bool false ∧ wx = wr)
      case first =>
        by_cases h1 : i < N
        · have i1 : (i : Int) < (N : Int) := by omega
          obtain rfl : i = 60 := by omega
          clear hall
          go_wp2_with fail
          go_meet
          exact ⟨rfl, rfl⟩
        · have i1 : ¬ (i : Int) < (N : Int) := by omega
          clear hall
          go_wp2_with fail
          go_meet
          exact ⟨rfl, rfl⟩
      case rest =>
        obtain ⟨rfl, rfl⟩ := hcut
        have TD := Lib.hid (dtold_t wc)
        clear hall
        go_wp2_with (go_at_call 13; refine TD.out.mono ?_; rintro e w4 ⟨rfl, b4⟩; have BE := Lib.hid (H3.out.d.bel.trans (b4.mono H3.out.d.bel.size)); clear b4)
        go_ret
        exact ⟨rfl, BE.out⟩
end Go.Proofs.Ytgaiheaibejloaa
