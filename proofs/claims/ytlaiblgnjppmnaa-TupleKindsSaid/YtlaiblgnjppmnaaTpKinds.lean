/-
  TupleKinds walked.
-/
import Derived.Test.YtlaiblgnjppmnaaTpBack
import Derived.Test.YtlaiblgnjppmnaaTpW
namespace Go.Proofs.Ytlaiblgnjppmnaa
open Go Go.RowKit Sh


theorem built_two_fld (k n : Int) : Try.prog.built 38 [(0, .int .i64 k), (1, .int .i64 n)] = some (fv ⟨k, n, eS⟩).toArray := by kernel_rfl
def xS (l : Nat) : ByteArray := ⟨(List.replicate l 120).toArray⟩
theorem xS_size (l : Nat) : (xS l).size = l := by
  show (List.replicate l (120 : UInt8)).toArray.size = l
  simp
theorem xS_snoc (l : Nat) : xS l ++ { data := #[120] } = xS (l + 1) := by
  apply ByteArray.ext
  simp [xS, List.replicate_succ']
  exact Array.toList_inj.1 (by simp)
theorem xS_empty (l : Nat) : (xS l).toList.isEmpty = (l == 0) := by
  rw [ByteArray.toList_eq]
  cases l <;> simp [xS, List.replicate_succ]
theorem allN_const (b : Bool) : ∀ n, 1 ≤ n → allN (fun _ => b) n = b := fun n hn => by
  cases b with
  | true => exact (allN_iff _ n).2 (fun _ _ => rfl)
  | false => exact allN_no (j := 0) hn rfl
theorem mayV_const (f : Fld) (n : Nat) : mayV n (fun _ => f) = (fewN n && okV f) := by
  unfold mayV
  cases h : fewN n with
  | false => rfl
  | true => rw [allN_const (okV f) n (fewN_le h).1]
theorem mayP_const (f : Fld) (n : Nat) : mayP n (fun _ => f) = (fewN n && okP f) := by
  unfold mayP
  cases h : fewN n with
  | false => rfl
  | true => rw [allN_const (okP f) n (fewN_le h).1]
set_option maxRecDepth 100000 in
set_option maxHeartbeats 4000000 in
theorem kinds_t (kn nn sn mn : Int) (w : World) :
    Calls Try.prog 7 #[.int .i64 kn, .int .i64 nn, .int .i64 sn, .int .i64 mn] w fun e w' => e = .returned (.bool true) ∧ Below w.heap.size w w' := by
  obtain ⟨k8, hk8, hke⟩ := mod_bigT 8 (by decide) (by decide) kn
  obtain ⟨l, hl60, hle⟩ := mod_bigT 60 (by decide) (by decide) sn
  obtain ⟨m, hm9, hme⟩ := mod_bigT 9 (by decide) (by decide) mn
  rw [show ((8 : Nat) : Int) = 8 from rfl] at hke
  rw [show ((60 : Nat) : Int) = 60 from rfl] at hle
  rw [show ((9 : Nat) : Int) = 9 from rfl] at hme
  obtain ⟨n, hn⟩ : ∃ n : Int, nn.tmod 3 = n := ⟨_, rfl⟩
  have hn3 : -3 < n ∧ n < 3 := by
    have h1 := Int.tmod_lt_of_pos nn (show (0 : Int) < 3 by decide)
    have h2 : -3 < nn.tmod 3 := by
      have := Int.neg_tmod nn 3
      have h3 := Int.tmod_lt_of_pos (-nn) (show (0 : Int) < 3 by decide)
      omega
    omega
  have kw : IntKind.i64.wrap ((k8 : Int) - 1) = (k8 : Int) - 1 := IntWalk.i64_in _ (by omega)
  have nw : IntKind.i64.wrap n = n := IntWalk.i64_in _ (by omega)
  have BF := built_two_fld ((k8 : Int) - 1) n
  go_enter Try.func7, Try.ntmps7
  go_upto_region 4 with (fail)
  rw [hle]
  obtain ⟨k, hk⟩ : ∃ k : Int, (k8 : Int) - 1 = k := ⟨_, rfl⟩
  rw [hk] at kw BF ⊢
  have F0 := Lib.hid (show Blk (w.alloc (.cells (fv ⟨k, n, xS 0⟩).toArray 38)) w.heap.size 38 (fv ⟨k, n, xS 0⟩) from Blk.new w _ _)
  have B0 := Lib.hid ((Below.refl w.heap.size w).alloc (Nat.le_refl _) (.cells (fv ⟨k, n, xS 0⟩).toArray 38))
  have l60 : (l : Int) < 60 := by omega
  have HK := Lib.hid hk
  clear kw nw BF hke hle hk hn
  go_loopw [12] (fun x wr => ∃ j : Nat, j ≤ l ∧ x = .int .i64 (j : Int) ∧ Blk wr w.heap.size 38 (fv ⟨k, n, xS j⟩) ∧ Below w.heap.size w wr) (fun x _ => l - (intOf x).toNat)
  case atStart => exact ⟨0, by omega, rfl, F0.out, B0.out⟩
  case round =>
    clear F0 B0
    obtain ⟨j, hj, rfl, f0, b0⟩ := hrel
    obtain ⟨c0, c1, c2⟩ := fv_cells f0
    have z2 := f0.frozen 2
    have F1 := Lib.hid f0; have B1 := Lib.hid b0
    have XS := xS_size j
    have XN := xS_snoc j
    obtain ⟨z, hz⟩ : ∃ z, xS j = z := ⟨_, rfl⟩
    rw [hz] at XS XN c2
    clear f0 b0
    by_cases hlt : j < l
    · have j1 : (j : Int) < (l : Int) := by omega
      have zs : ((z.size : Int)) = (j : Int) := by omega
      go_wp2_with fail
      exact ⟨⟨j + 1, hlt, by go_num, fv_set2 F1.out _, B1.out.setCell (p := ⟨w.heap.size, 2, none⟩) (Nat.le_refl _) _⟩, by simp [intOf]; omega⟩
    · obtain rfl : j = l := by omega
      clear hlt
      go_upto_region 10 with (fail)
      rw [hme]
      clear c0 c1 c2 z2 hz XN XS z hme hj l60
      have FV := Lib.hid (fv_size ⟨k, n, xS j⟩)
      have FL := F1.out.lt
      have m9 : (m : Int) < 9 := by omega
      obtain ⟨f, hf⟩ : ∃ f : Fld, ⟨k, n, xS j⟩ = f := ⟨_, rfl⟩
      rw [hf] at F1 FV
      have HF := Lib.hid hf
      clear hf
      go_loopw [14, 15] (fun t x wr => ∃ i : Nat, i ≤ m ∧ x = .int .i64 (i : Int) ∧ wr.ownsRow (w.heap.size + 1) 38 3 t i (rowC (fun _ => f) i) ∧ Blk wr w.heap.size 38 (fv f) ∧ Below w.heap.size w wr) (fun _ x _ => m - (intOf x).toNat)
      case atStart => exact ⟨0, by omega, rfl, World.ownsRow_nil _ _ _ _, F1.out, B1.out⟩
      case round =>
        clear F1 B1 FL
        obtain ⟨i, hi, rfl, ow, f1, b1⟩ := hrel
        have OW := Lib.hid ow; have F1 := Lib.hid f1; have B1 := Lib.hid b1
        clear ow f1 b1
        by_cases hlt : i < m
        · have i1 : (i : Int) < (m : Int) := by omega
          have BN := Lib.hid ((Below.refl wr.heap.size wr).alloc (Nat.le_refl _) (.cells (rowC (fun _ => f) 1).toArray 38))
          have RW := Lib.hid (rw_of_blk (n := 1) (rest := []) (fun _ => f) (by rw [List.append_nil]; exact Blk.new wr 38 (rowC (fun _ => f) 1)))
          have OA := Lib.hid (own_below OW.out BN.out)
          have hl0 := F1.out.lt
          have L3 : (fv f).length = 3 := rfl
          have HB := Lib.hid (show w.heap.size + 1 ≤ (wr.alloc (.cells (rowC (fun _ => f) 1).toArray 38)).heap.size by simp; omega)
          go_wp2_with (first
            | ((with_reducible refine load_blk 38 (.tmp 11) w.heap.size 38 (fv f) _ rfl rfl ?_ Try.underlying38 ?_ ?_ ?_ ?_); exact F1.out; exact rfl; exact FV.out; exact rfl)
            | ((with_reducible refine at_op (.call { callee := .builtin .append, args := #[.tmp 52, .tmp 54], argTypes := #[22, 22] }) rfl ?_); go_must (refine append_flds (.tmp 52) (.tmp 54) rfl rfl (w.heap.size + 1) _ i (rowC (fun _ => f) i) rfl OA.out (some ⟨wr.heap.size, 0, none⟩) 1 1 rfl (fun _ => f) (by decide) RW.out (by omega) HB.out ?_); intro v1 w5 a1 a2 a3))
          have a1' : w5.ownsRow (w.heap.size + 1) 38 3 v1 (i + 1) (rowC (fun _ => f) (i + 1)) := a1.out
          have a2' : (wr.alloc (.cells (rowC (fun _ => f) 1).toArray 38)).grownBy w5 u14.ownBlock := a2.out
          have f5 : Blk w5 w.heap.size 38 (fv f) := (a2'.block w.heap.size (by simp; omega) (fun e => by have := (OW.out.lt _ e.symm).1; omega)).trans (F1.out.alloc _)
          have b5 := (B1.out.alloc B1.out.size (.cells (rowC (fun _ => f) 1).toArray 38)).grown a2' (by simp; omega) (fun k e => by have := (OW.out.lt k e).1; omega)
          clear a1 a2 a3 a2' BN RW OA HB hl0
          exact ⟨⟨i + 1, hlt, by go_num, a1', f5, b5⟩, by simp [intOf]; omega⟩
        · obtain rfl : i = m := by omega
          clear hlt hi
          obtain ⟨A, c, rfl, _⟩ := own_form OW.out
          have RT := Lib.hid (rw_of_own (G := fun _ => f) OW.out)
          obtain ⟨c0, c1, c2⟩ := (show wr.cell? ⟨w.heap.size, 0, none⟩ = some (.int .i64 f.k) ∧ wr.cell? ⟨w.heap.size, 1, none⟩ = some (.int .i64 f.n) ∧ wr.cell? ⟨w.heap.size, 2, none⟩ = some (.string f.s) from ⟨F1.out.cell 0, F1.out.cell 1, F1.out.cell 2⟩)
          have PV := Lib.hid (mayV_const f i); have PP := Lib.hid (mayP_const f i)
          rw [← HF.out] at PV PP c0 c1 c2 RT
          clear c2 F1 OW HF FV
          have hk8 : k = -1 ∨ k = 0 ∨ k = 1 ∨ k = 2 ∨ k = 3 ∨ k = 4 ∨ k = 5 ∨ k = 6 := by have := HK.out; omega
          clear HK
          by_cases h6 : 6 < i
          · have i6 : (6 : Int) < (i : Int) := by omega
            have i1 : (1 : Int) ≤ (i : Int) := by omega
            have HV := Lib.hid (PV.out.trans (by simp [fewN]; omega) : mayV i (fun _ => ⟨k, n, xS j⟩) = false)
            have HP := Lib.hid (PP.out.trans (by simp [fewN]; omega) : mayP i (fun _ => ⟨k, n, xS j⟩) = false)
            clear PV PP h6 hk8 hn3
            go_wp2_with fail
            refine (Put_no _ c A _ wr (by omega) RT.out HP.out).mono ?_
            rintro e w1 ⟨rfl, b1⟩
            have R1 := Lib.hid (RT.out.below b1); have D1 := Lib.hid (B1.out.trans (b1.mono B1.out.size))
            clear b1 RT B1 c0 c1
            go_wp2_with fail
            refine (ttold_t _).mono ?_
            rintro e w2 ⟨rfl, b2⟩
            have R2 := Lib.hid (R1.out.below b2); have D2 := Lib.hid (D1.out.trans (b2.mono D1.out.size))
            clear b2 R1 D1
            go_wp2_with fail
            refine (May_t _ c A _ w2 (by omega) R2.out).mono ?_
            rintro e w3 ⟨rfl, b3⟩
            rw [HV.out]
            have R3 := Lib.hid (R2.out.below b3); have D3 := Lib.hid (D2.out.trans (b3.mono D2.out.size))
            clear b3 R2 D2 HV
            go_wp2_with fail
            refine (MayTemplate_t _ c A _ w3 (by omega) R3.out).mono ?_
            rintro e w4 ⟨rfl, b4⟩
            rw [HP.out]
            have D4 := Lib.hid (D3.out.trans (b4.mono D3.out.size))
            clear b4 R3 D3 HP
            go_wp2_with fail
            go_ret
            exact ⟨by first | rfl | (simp; omega), D4.out⟩
          · by_cases h0 : i = 0
            · subst h0
              have HV := Lib.hid (PV.out.trans (by simp [fewN]) : mayV 0 (fun _ => ⟨k, n, xS j⟩) = false)
              have HP := Lib.hid (PP.out.trans (by simp [fewN]) : mayP 0 (fun _ => ⟨k, n, xS j⟩) = false)
              clear PV PP h6 hk8 hn3
              go_wp2_with fail
              refine (Put_no _ c A _ wr (by omega) RT.out HP.out).mono ?_
              rintro e w1 ⟨rfl, b1⟩
              have R1 := Lib.hid (RT.out.below b1); have D1 := Lib.hid (B1.out.trans (b1.mono B1.out.size))
              clear b1 RT B1 c0 c1
              go_wp2_with fail
              refine (ttold_t _).mono ?_
              rintro e w2 ⟨rfl, b2⟩
              have R2 := Lib.hid (R1.out.below b2); have D2 := Lib.hid (D1.out.trans (b2.mono D1.out.size))
              clear b2 R1 D1
              go_wp2_with fail
              refine (May_t _ c A _ w2 (by omega) R2.out).mono ?_
              rintro e w3 ⟨rfl, b3⟩
              rw [HV.out]
              have R3 := Lib.hid (R2.out.below b3); have D3 := Lib.hid (D2.out.trans (b3.mono D2.out.size))
              clear b3 R2 D2 HV
              go_wp2_with fail
              refine (MayTemplate_t _ c A _ w3 (by omega) R3.out).mono ?_
              rintro e w4 ⟨rfl, b4⟩
              rw [HP.out]
              have D4 := Lib.hid (D3.out.trans (b4.mono D3.out.size))
              clear b4 R3 D3 HP
              go_wp2_with fail
              go_ret
              exact ⟨by first | rfl | (simp; omega), D4.out⟩
            · have i6 : (i : Int) ≤ 6 := by omega
              have i1 : (1 : Int) ≤ (i : Int) := by omega
              have hfew : fewN i = true := by simp [fewN]; omega
              rw [hfew, Bool.true_and] at PV PP
              clear hfew
              have hj0 : (xS j).toList.isEmpty = (j == 0) := xS_empty j
              have hjs : (xS j).size = j := xS_size j
              rcases hk8 with rfl | rfl | rfl | rfl | rfl | rfl | rfl | rfl
              · have HV := Lib.hid (PV.out.trans (by simp [okV]) : mayV i (fun _ => ⟨-1, n, xS j⟩) = false)
                have HP := Lib.hid (PP.out.trans (by simp [okP, okV]) : mayP i (fun _ => ⟨-1, n, xS j⟩) = false)
                clear PV PP h6 h0 hj0 hjs hn3
                go_wp2_with fail
                refine (Put_no _ c A _ wr (by omega) RT.out HP.out).mono ?_
                rintro e w1 ⟨rfl, b1⟩
                have R1 := Lib.hid (RT.out.below b1); have D1 := Lib.hid (B1.out.trans (b1.mono B1.out.size))
                clear b1 RT B1 c0 c1
                go_wp2_with fail
                refine (ttold_t _).mono ?_
                rintro e w2 ⟨rfl, b2⟩
                have R2 := Lib.hid (R1.out.below b2); have D2 := Lib.hid (D1.out.trans (b2.mono D1.out.size))
                clear b2 R1 D1
                go_wp2_with fail
                refine (May_t _ c A _ w2 (by omega) R2.out).mono ?_
                rintro e w3 ⟨rfl, b3⟩
                rw [HV.out]
                have R3 := Lib.hid (R2.out.below b3); have D3 := Lib.hid (D2.out.trans (b3.mono D2.out.size))
                clear b3 R2 D2 HV
                go_wp2_with fail
                refine (MayTemplate_t _ c A _ w3 (by omega) R3.out).mono ?_
                rintro e w4 ⟨rfl, b4⟩
                rw [HP.out]
                have D4 := Lib.hid (D3.out.trans (b4.mono D3.out.size))
                clear b4 R3 D3 HP
                go_wp2_with fail
                go_ret
                exact ⟨by first | rfl | (simp; omega), D4.out⟩
              · have HV := Lib.hid (PV.out.trans (by simp [okV]) : mayV i (fun _ => ⟨0, n, xS j⟩) = false)
                have HP := Lib.hid (PP.out.trans (by simp [okP, okV]) : mayP i (fun _ => ⟨0, n, xS j⟩) = false)
                clear PV PP h6 h0 hj0 hjs hn3
                go_wp2_with fail
                refine (Put_no _ c A _ wr (by omega) RT.out HP.out).mono ?_
                rintro e w1 ⟨rfl, b1⟩
                have R1 := Lib.hid (RT.out.below b1); have D1 := Lib.hid (B1.out.trans (b1.mono B1.out.size))
                clear b1 RT B1 c0 c1
                go_wp2_with fail
                refine (ttold_t _).mono ?_
                rintro e w2 ⟨rfl, b2⟩
                have R2 := Lib.hid (R1.out.below b2); have D2 := Lib.hid (D1.out.trans (b2.mono D1.out.size))
                clear b2 R1 D1
                go_wp2_with fail
                refine (May_t _ c A _ w2 (by omega) R2.out).mono ?_
                rintro e w3 ⟨rfl, b3⟩
                rw [HV.out]
                have R3 := Lib.hid (R2.out.below b3); have D3 := Lib.hid (D2.out.trans (b3.mono D2.out.size))
                clear b3 R2 D2 HV
                go_wp2_with fail
                refine (MayTemplate_t _ c A _ w3 (by omega) R3.out).mono ?_
                rintro e w4 ⟨rfl, b4⟩
                rw [HP.out]
                have D4 := Lib.hid (D3.out.trans (b4.mono D3.out.size))
                clear b4 R3 D3 HP
                go_wp2_with fail
                go_ret
                exact ⟨by first | rfl | (simp; omega), D4.out⟩
              · by_cases hj : j = 0
                · subst hj
                  have HV := Lib.hid (PV.out.trans (by simp [okV, hj0]) : mayV i (fun _ => ⟨1, n, xS 0⟩) = true)
                  have HP := Lib.hid (PP.out.trans (by simp [okP, okV, hj0]) : mayP i (fun _ => ⟨1, n, xS 0⟩) = true)
                  clear PV PP h6 h0 hj0 hjs hn3
                  go_wp2_with fail
                  refine (Put_yes _ c A _ wr RT.out HP.out).mono ?_
                  rintro e w1 ⟨u, rfl, o1, b1⟩
                  obtain ⟨L, hL⟩ : ∃ L, (putN i (fun _ => ⟨1, n, xS 0⟩)).length = L := ⟨_, rfl⟩
                  have hLp := (putN_length HP.out).2
                  rw [hL] at o1 hLp
                  obtain ⟨Au, cu, rfl, _⟩ := own_form o1
                  have lp : (0 : Int) < (L : Int) := by omega
                  clear o1 hL hLp
                  have R1 := Lib.hid (RT.out.below b1); have D1 := Lib.hid (B1.out.trans (b1.mono B1.out.size))
                  clear b1 RT B1 c0 c1
                  go_wp2_with fail
                  refine (ttold_t _).mono ?_
                  rintro e w2 ⟨rfl, b2⟩
                  have R2 := Lib.hid (R1.out.below b2); have D2 := Lib.hid (D1.out.trans (b2.mono D1.out.size))
                  clear b2 R1 D1
                  go_wp2_with fail
                  refine (May_t _ c A _ w2 (by omega) R2.out).mono ?_
                  rintro e w3 ⟨rfl, b3⟩
                  rw [HV.out]
                  have R3 := Lib.hid (R2.out.below b3); have D3 := Lib.hid (D2.out.trans (b3.mono D2.out.size))
                  clear b3 R2 D2 HV
                  go_wp2_with fail
                  refine (MayTemplate_t _ c A _ w3 (by omega) R3.out).mono ?_
                  rintro e w4 ⟨rfl, b4⟩
                  rw [HP.out]
                  have D4 := Lib.hid (D3.out.trans (b4.mono D3.out.size))
                  clear b4 R3 D3 HP
                  go_wp2_with fail
                  go_ret
                  exact ⟨by first | rfl | (simp; omega), D4.out⟩
                · have ej : ((j : Int) == 0) = false := by rw [beq_eq_false_iff_ne]; omega
                  have HV := Lib.hid (PV.out.trans (by simp [okV, hj0, hj]) : mayV i (fun _ => ⟨1, n, xS j⟩) = false)
                  have HP := Lib.hid (PP.out.trans (by simp [okP, okV, hj0, hj]) : mayP i (fun _ => ⟨1, n, xS j⟩) = false)
                  clear PV PP h6 h0 hj0 hjs hn3 hj
                  go_wp2_with fail
                  refine (Put_no _ c A _ wr (by omega) RT.out HP.out).mono ?_
                  rintro e w1 ⟨rfl, b1⟩
                  have R1 := Lib.hid (RT.out.below b1); have D1 := Lib.hid (B1.out.trans (b1.mono B1.out.size))
                  clear b1 RT B1 c0 c1
                  go_wp2_with fail
                  refine (ttold_t _).mono ?_
                  rintro e w2 ⟨rfl, b2⟩
                  have R2 := Lib.hid (R1.out.below b2); have D2 := Lib.hid (D1.out.trans (b2.mono D1.out.size))
                  clear b2 R1 D1
                  go_wp2_with fail
                  refine (May_t _ c A _ w2 (by omega) R2.out).mono ?_
                  rintro e w3 ⟨rfl, b3⟩
                  rw [HV.out]
                  have R3 := Lib.hid (R2.out.below b3); have D3 := Lib.hid (D2.out.trans (b3.mono D2.out.size))
                  clear b3 R2 D2 HV
                  go_wp2_with fail
                  refine (MayTemplate_t _ c A _ w3 (by omega) R3.out).mono ?_
                  rintro e w4 ⟨rfl, b4⟩
                  rw [HP.out]
                  have D4 := Lib.hid (D3.out.trans (b4.mono D3.out.size))
                  clear b4 R3 D3 HP
                  go_wp2_with fail
                  go_ret
                  exact ⟨by first | rfl | (simp; omega), D4.out⟩
              · by_cases hn0 : n = 0
                · subst hn0
                  by_cases hj : j ≤ 40
                  · have ej : (j : Int) ≤ 40 := by omega
                    have HV := Lib.hid (PV.out.trans (by simp [okV, hjs]; omega) : mayV i (fun _ => ⟨2, 0, xS j⟩) = true)
                    have HP := Lib.hid (PP.out.trans (by simp [okP, okV, hjs]; omega) : mayP i (fun _ => ⟨2, 0, xS j⟩) = true)
                    clear PV PP h6 h0 hj0 hjs hn3 hj
                    go_wp2_with fail
                    refine (Put_yes _ c A _ wr RT.out HP.out).mono ?_
                    rintro e w1 ⟨u, rfl, o1, b1⟩
                    obtain ⟨L, hL⟩ : ∃ L, (putN i (fun _ => ⟨2, 0, xS j⟩)).length = L := ⟨_, rfl⟩
                    have hLp := (putN_length HP.out).2
                    rw [hL] at o1 hLp
                    obtain ⟨Au, cu, rfl, _⟩ := own_form o1
                    have lp : (0 : Int) < (L : Int) := by omega
                    clear o1 hL hLp
                    have R1 := Lib.hid (RT.out.below b1); have D1 := Lib.hid (B1.out.trans (b1.mono B1.out.size))
                    clear b1 RT B1 c0 c1
                    go_wp2_with fail
                    refine (ttold_t _).mono ?_
                    rintro e w2 ⟨rfl, b2⟩
                    have R2 := Lib.hid (R1.out.below b2); have D2 := Lib.hid (D1.out.trans (b2.mono D1.out.size))
                    clear b2 R1 D1
                    go_wp2_with fail
                    refine (May_t _ c A _ w2 (by omega) R2.out).mono ?_
                    rintro e w3 ⟨rfl, b3⟩
                    rw [HV.out]
                    have R3 := Lib.hid (R2.out.below b3); have D3 := Lib.hid (D2.out.trans (b3.mono D2.out.size))
                    clear b3 R2 D2 HV
                    go_wp2_with fail
                    refine (MayTemplate_t _ c A _ w3 (by omega) R3.out).mono ?_
                    rintro e w4 ⟨rfl, b4⟩
                    rw [HP.out]
                    have D4 := Lib.hid (D3.out.trans (b4.mono D3.out.size))
                    clear b4 R3 D3 HP
                    go_wp2_with fail
                    go_ret
                    exact ⟨by first | rfl | (simp; omega), D4.out⟩
                  · have ej : (40 : Int) < (j : Int) := by omega
                    have HV := Lib.hid (PV.out.trans (by simp [okV, hjs]; omega) : mayV i (fun _ => ⟨2, 0, xS j⟩) = false)
                    have HP := Lib.hid (PP.out.trans (by simp [okP, okV, hjs]; omega) : mayP i (fun _ => ⟨2, 0, xS j⟩) = false)
                    clear PV PP h6 h0 hj0 hjs hn3 hj
                    go_wp2_with fail
                    refine (Put_no _ c A _ wr (by omega) RT.out HP.out).mono ?_
                    rintro e w1 ⟨rfl, b1⟩
                    have R1 := Lib.hid (RT.out.below b1); have D1 := Lib.hid (B1.out.trans (b1.mono B1.out.size))
                    clear b1 RT B1 c0 c1
                    go_wp2_with fail
                    refine (ttold_t _).mono ?_
                    rintro e w2 ⟨rfl, b2⟩
                    have R2 := Lib.hid (R1.out.below b2); have D2 := Lib.hid (D1.out.trans (b2.mono D1.out.size))
                    clear b2 R1 D1
                    go_wp2_with fail
                    refine (May_t _ c A _ w2 (by omega) R2.out).mono ?_
                    rintro e w3 ⟨rfl, b3⟩
                    rw [HV.out]
                    have R3 := Lib.hid (R2.out.below b3); have D3 := Lib.hid (D2.out.trans (b3.mono D2.out.size))
                    clear b3 R2 D2 HV
                    go_wp2_with fail
                    refine (MayTemplate_t _ c A _ w3 (by omega) R3.out).mono ?_
                    rintro e w4 ⟨rfl, b4⟩
                    rw [HP.out]
                    have D4 := Lib.hid (D3.out.trans (b4.mono D3.out.size))
                    clear b4 R3 D3 HP
                    go_wp2_with fail
                    go_ret
                    exact ⟨by first | rfl | (simp; omega), D4.out⟩
                · have en : (n == 0) = false := by rw [beq_eq_false_iff_ne]; exact hn0
                  have HV := Lib.hid (PV.out.trans (by simp [okV, hn0]) : mayV i (fun _ => ⟨2, n, xS j⟩) = false)
                  have HP := Lib.hid (PP.out.trans (by simp [okP, okV, hn0]) : mayP i (fun _ => ⟨2, n, xS j⟩) = false)
                  clear PV PP h6 h0 hj0 hjs hn3 hn0
                  go_wp2_with fail
                  refine (Put_no _ c A _ wr (by omega) RT.out HP.out).mono ?_
                  rintro e w1 ⟨rfl, b1⟩
                  have R1 := Lib.hid (RT.out.below b1); have D1 := Lib.hid (B1.out.trans (b1.mono B1.out.size))
                  clear b1 RT B1 c0 c1
                  go_wp2_with fail
                  refine (ttold_t _).mono ?_
                  rintro e w2 ⟨rfl, b2⟩
                  have R2 := Lib.hid (R1.out.below b2); have D2 := Lib.hid (D1.out.trans (b2.mono D1.out.size))
                  clear b2 R1 D1
                  go_wp2_with fail
                  refine (May_t _ c A _ w2 (by omega) R2.out).mono ?_
                  rintro e w3 ⟨rfl, b3⟩
                  rw [HV.out]
                  have R3 := Lib.hid (R2.out.below b3); have D3 := Lib.hid (D2.out.trans (b3.mono D2.out.size))
                  clear b3 R2 D2 HV
                  go_wp2_with fail
                  refine (MayTemplate_t _ c A _ w3 (by omega) R3.out).mono ?_
                  rintro e w4 ⟨rfl, b4⟩
                  rw [HP.out]
                  have D4 := Lib.hid (D3.out.trans (b4.mono D3.out.size))
                  clear b4 R3 D3 HP
                  go_wp2_with fail
                  go_ret
                  exact ⟨by first | rfl | (simp; omega), D4.out⟩
              · by_cases hn0 : n = 0
                · subst hn0
                  by_cases hj : j = 0
                  · subst hj
                    have HV := Lib.hid (PV.out.trans (by simp [okV]) : mayV i (fun _ => ⟨3, 0, xS 0⟩) = false)
                    have HP := Lib.hid (PP.out.trans (by simp [okP, hj0]) : mayP i (fun _ => ⟨3, 0, xS 0⟩) = true)
                    clear PV PP h6 h0 hj0 hjs hn3
                    go_wp2_with fail
                    refine (Put_yes _ c A _ wr RT.out HP.out).mono ?_
                    rintro e w1 ⟨u, rfl, o1, b1⟩
                    obtain ⟨L, hL⟩ : ∃ L, (putN i (fun _ => ⟨3, 0, xS 0⟩)).length = L := ⟨_, rfl⟩
                    have hLp := (putN_length HP.out).2
                    rw [hL] at o1 hLp
                    obtain ⟨Au, cu, rfl, _⟩ := own_form o1
                    have lp : (0 : Int) < (L : Int) := by omega
                    clear o1 hL hLp
                    have R1 := Lib.hid (RT.out.below b1); have D1 := Lib.hid (B1.out.trans (b1.mono B1.out.size))
                    clear b1 RT B1 c0 c1
                    go_wp2_with fail
                    refine (ttold_t _).mono ?_
                    rintro e w2 ⟨rfl, b2⟩
                    have R2 := Lib.hid (R1.out.below b2); have D2 := Lib.hid (D1.out.trans (b2.mono D1.out.size))
                    clear b2 R1 D1
                    go_wp2_with fail
                    refine (May_t _ c A _ w2 (by omega) R2.out).mono ?_
                    rintro e w3 ⟨rfl, b3⟩
                    rw [HV.out]
                    have R3 := Lib.hid (R2.out.below b3); have D3 := Lib.hid (D2.out.trans (b3.mono D2.out.size))
                    clear b3 R2 D2 HV
                    go_wp2_with fail
                    refine (MayTemplate_t _ c A _ w3 (by omega) R3.out).mono ?_
                    rintro e w4 ⟨rfl, b4⟩
                    rw [HP.out]
                    have D4 := Lib.hid (D3.out.trans (b4.mono D3.out.size))
                    clear b4 R3 D3 HP
                    go_wp2_with fail
                    go_ret
                    exact ⟨by first | rfl | (simp; omega), D4.out⟩
                  · have ej : ((j : Int) == 0) = false := by rw [beq_eq_false_iff_ne]; omega
                    have HV := Lib.hid (PV.out.trans (by simp [okV]) : mayV i (fun _ => ⟨3, 0, xS j⟩) = false)
                    have HP := Lib.hid (PP.out.trans (by simp [okP, hj0, hj]) : mayP i (fun _ => ⟨3, 0, xS j⟩) = false)
                    clear PV PP h6 h0 hj0 hjs hn3 hj
                    go_wp2_with fail
                    refine (Put_no _ c A _ wr (by omega) RT.out HP.out).mono ?_
                    rintro e w1 ⟨rfl, b1⟩
                    have R1 := Lib.hid (RT.out.below b1); have D1 := Lib.hid (B1.out.trans (b1.mono B1.out.size))
                    clear b1 RT B1 c0 c1
                    go_wp2_with fail
                    refine (ttold_t _).mono ?_
                    rintro e w2 ⟨rfl, b2⟩
                    have R2 := Lib.hid (R1.out.below b2); have D2 := Lib.hid (D1.out.trans (b2.mono D1.out.size))
                    clear b2 R1 D1
                    go_wp2_with fail
                    refine (May_t _ c A _ w2 (by omega) R2.out).mono ?_
                    rintro e w3 ⟨rfl, b3⟩
                    rw [HV.out]
                    have R3 := Lib.hid (R2.out.below b3); have D3 := Lib.hid (D2.out.trans (b3.mono D2.out.size))
                    clear b3 R2 D2 HV
                    go_wp2_with fail
                    refine (MayTemplate_t _ c A _ w3 (by omega) R3.out).mono ?_
                    rintro e w4 ⟨rfl, b4⟩
                    rw [HP.out]
                    have D4 := Lib.hid (D3.out.trans (b4.mono D3.out.size))
                    clear b4 R3 D3 HP
                    go_wp2_with fail
                    go_ret
                    exact ⟨by first | rfl | (simp; omega), D4.out⟩
                · have en : (n == 0) = false := by rw [beq_eq_false_iff_ne]; exact hn0
                  have HV := Lib.hid (PV.out.trans (by simp [okV]) : mayV i (fun _ => ⟨3, n, xS j⟩) = false)
                  have HP := Lib.hid (PP.out.trans (by simp [okP, hn0]) : mayP i (fun _ => ⟨3, n, xS j⟩) = false)
                  clear PV PP h6 h0 hj0 hjs hn3 hn0
                  go_wp2_with fail
                  refine (Put_no _ c A _ wr (by omega) RT.out HP.out).mono ?_
                  rintro e w1 ⟨rfl, b1⟩
                  have R1 := Lib.hid (RT.out.below b1); have D1 := Lib.hid (B1.out.trans (b1.mono B1.out.size))
                  clear b1 RT B1 c0 c1
                  go_wp2_with fail
                  refine (ttold_t _).mono ?_
                  rintro e w2 ⟨rfl, b2⟩
                  have R2 := Lib.hid (R1.out.below b2); have D2 := Lib.hid (D1.out.trans (b2.mono D1.out.size))
                  clear b2 R1 D1
                  go_wp2_with fail
                  refine (May_t _ c A _ w2 (by omega) R2.out).mono ?_
                  rintro e w3 ⟨rfl, b3⟩
                  rw [HV.out]
                  have R3 := Lib.hid (R2.out.below b3); have D3 := Lib.hid (D2.out.trans (b3.mono D2.out.size))
                  clear b3 R2 D2 HV
                  go_wp2_with fail
                  refine (MayTemplate_t _ c A _ w3 (by omega) R3.out).mono ?_
                  rintro e w4 ⟨rfl, b4⟩
                  rw [HP.out]
                  have D4 := Lib.hid (D3.out.trans (b4.mono D3.out.size))
                  clear b4 R3 D3 HP
                  go_wp2_with fail
                  go_ret
                  exact ⟨by first | rfl | (simp; omega), D4.out⟩
              · by_cases hn0 : n = 0
                · subst hn0
                  by_cases hj : j = 0
                  · subst hj
                    have HV := Lib.hid (PV.out.trans (by simp [okV]) : mayV i (fun _ => ⟨4, 0, xS 0⟩) = false)
                    have HP := Lib.hid (PP.out.trans (by simp [okP, hj0]) : mayP i (fun _ => ⟨4, 0, xS 0⟩) = true)
                    clear PV PP h6 h0 hj0 hjs hn3
                    go_wp2_with fail
                    refine (Put_yes _ c A _ wr RT.out HP.out).mono ?_
                    rintro e w1 ⟨u, rfl, o1, b1⟩
                    obtain ⟨L, hL⟩ : ∃ L, (putN i (fun _ => ⟨4, 0, xS 0⟩)).length = L := ⟨_, rfl⟩
                    have hLp := (putN_length HP.out).2
                    rw [hL] at o1 hLp
                    obtain ⟨Au, cu, rfl, _⟩ := own_form o1
                    have lp : (0 : Int) < (L : Int) := by omega
                    clear o1 hL hLp
                    have R1 := Lib.hid (RT.out.below b1); have D1 := Lib.hid (B1.out.trans (b1.mono B1.out.size))
                    clear b1 RT B1 c0 c1
                    go_wp2_with fail
                    refine (ttold_t _).mono ?_
                    rintro e w2 ⟨rfl, b2⟩
                    have R2 := Lib.hid (R1.out.below b2); have D2 := Lib.hid (D1.out.trans (b2.mono D1.out.size))
                    clear b2 R1 D1
                    go_wp2_with fail
                    refine (May_t _ c A _ w2 (by omega) R2.out).mono ?_
                    rintro e w3 ⟨rfl, b3⟩
                    rw [HV.out]
                    have R3 := Lib.hid (R2.out.below b3); have D3 := Lib.hid (D2.out.trans (b3.mono D2.out.size))
                    clear b3 R2 D2 HV
                    go_wp2_with fail
                    refine (MayTemplate_t _ c A _ w3 (by omega) R3.out).mono ?_
                    rintro e w4 ⟨rfl, b4⟩
                    rw [HP.out]
                    have D4 := Lib.hid (D3.out.trans (b4.mono D3.out.size))
                    clear b4 R3 D3 HP
                    go_wp2_with fail
                    go_ret
                    exact ⟨by first | rfl | (simp; omega), D4.out⟩
                  · have ej : ((j : Int) == 0) = false := by rw [beq_eq_false_iff_ne]; omega
                    have HV := Lib.hid (PV.out.trans (by simp [okV]) : mayV i (fun _ => ⟨4, 0, xS j⟩) = false)
                    have HP := Lib.hid (PP.out.trans (by simp [okP, hj0, hj]) : mayP i (fun _ => ⟨4, 0, xS j⟩) = false)
                    clear PV PP h6 h0 hj0 hjs hn3 hj
                    go_wp2_with fail
                    refine (Put_no _ c A _ wr (by omega) RT.out HP.out).mono ?_
                    rintro e w1 ⟨rfl, b1⟩
                    have R1 := Lib.hid (RT.out.below b1); have D1 := Lib.hid (B1.out.trans (b1.mono B1.out.size))
                    clear b1 RT B1 c0 c1
                    go_wp2_with fail
                    refine (ttold_t _).mono ?_
                    rintro e w2 ⟨rfl, b2⟩
                    have R2 := Lib.hid (R1.out.below b2); have D2 := Lib.hid (D1.out.trans (b2.mono D1.out.size))
                    clear b2 R1 D1
                    go_wp2_with fail
                    refine (May_t _ c A _ w2 (by omega) R2.out).mono ?_
                    rintro e w3 ⟨rfl, b3⟩
                    rw [HV.out]
                    have R3 := Lib.hid (R2.out.below b3); have D3 := Lib.hid (D2.out.trans (b3.mono D2.out.size))
                    clear b3 R2 D2 HV
                    go_wp2_with fail
                    refine (MayTemplate_t _ c A _ w3 (by omega) R3.out).mono ?_
                    rintro e w4 ⟨rfl, b4⟩
                    rw [HP.out]
                    have D4 := Lib.hid (D3.out.trans (b4.mono D3.out.size))
                    clear b4 R3 D3 HP
                    go_wp2_with fail
                    go_ret
                    exact ⟨by first | rfl | (simp; omega), D4.out⟩
                · have en : (n == 0) = false := by rw [beq_eq_false_iff_ne]; exact hn0
                  have HV := Lib.hid (PV.out.trans (by simp [okV]) : mayV i (fun _ => ⟨4, n, xS j⟩) = false)
                  have HP := Lib.hid (PP.out.trans (by simp [okP, hn0]) : mayP i (fun _ => ⟨4, n, xS j⟩) = false)
                  clear PV PP h6 h0 hj0 hjs hn3 hn0
                  go_wp2_with fail
                  refine (Put_no _ c A _ wr (by omega) RT.out HP.out).mono ?_
                  rintro e w1 ⟨rfl, b1⟩
                  have R1 := Lib.hid (RT.out.below b1); have D1 := Lib.hid (B1.out.trans (b1.mono B1.out.size))
                  clear b1 RT B1 c0 c1
                  go_wp2_with fail
                  refine (ttold_t _).mono ?_
                  rintro e w2 ⟨rfl, b2⟩
                  have R2 := Lib.hid (R1.out.below b2); have D2 := Lib.hid (D1.out.trans (b2.mono D1.out.size))
                  clear b2 R1 D1
                  go_wp2_with fail
                  refine (May_t _ c A _ w2 (by omega) R2.out).mono ?_
                  rintro e w3 ⟨rfl, b3⟩
                  rw [HV.out]
                  have R3 := Lib.hid (R2.out.below b3); have D3 := Lib.hid (D2.out.trans (b3.mono D2.out.size))
                  clear b3 R2 D2 HV
                  go_wp2_with fail
                  refine (MayTemplate_t _ c A _ w3 (by omega) R3.out).mono ?_
                  rintro e w4 ⟨rfl, b4⟩
                  rw [HP.out]
                  have D4 := Lib.hid (D3.out.trans (b4.mono D3.out.size))
                  clear b4 R3 D3 HP
                  go_wp2_with fail
                  go_ret
                  exact ⟨by first | rfl | (simp; omega), D4.out⟩
              · by_cases hn0 : n = 0
                · subst hn0
                  by_cases hj : j = 0
                  · subst hj
                    have HV := Lib.hid (PV.out.trans (by simp [okV]) : mayV i (fun _ => ⟨5, 0, xS 0⟩) = false)
                    have HP := Lib.hid (PP.out.trans (by simp [okP, hj0]) : mayP i (fun _ => ⟨5, 0, xS 0⟩) = true)
                    clear PV PP h6 h0 hj0 hjs hn3
                    go_wp2_with fail
                    refine (Put_yes _ c A _ wr RT.out HP.out).mono ?_
                    rintro e w1 ⟨u, rfl, o1, b1⟩
                    obtain ⟨L, hL⟩ : ∃ L, (putN i (fun _ => ⟨5, 0, xS 0⟩)).length = L := ⟨_, rfl⟩
                    have hLp := (putN_length HP.out).2
                    rw [hL] at o1 hLp
                    obtain ⟨Au, cu, rfl, _⟩ := own_form o1
                    have lp : (0 : Int) < (L : Int) := by omega
                    clear o1 hL hLp
                    have R1 := Lib.hid (RT.out.below b1); have D1 := Lib.hid (B1.out.trans (b1.mono B1.out.size))
                    clear b1 RT B1 c0 c1
                    go_wp2_with fail
                    refine (ttold_t _).mono ?_
                    rintro e w2 ⟨rfl, b2⟩
                    have R2 := Lib.hid (R1.out.below b2); have D2 := Lib.hid (D1.out.trans (b2.mono D1.out.size))
                    clear b2 R1 D1
                    go_wp2_with fail
                    refine (May_t _ c A _ w2 (by omega) R2.out).mono ?_
                    rintro e w3 ⟨rfl, b3⟩
                    rw [HV.out]
                    have R3 := Lib.hid (R2.out.below b3); have D3 := Lib.hid (D2.out.trans (b3.mono D2.out.size))
                    clear b3 R2 D2 HV
                    go_wp2_with fail
                    refine (MayTemplate_t _ c A _ w3 (by omega) R3.out).mono ?_
                    rintro e w4 ⟨rfl, b4⟩
                    rw [HP.out]
                    have D4 := Lib.hid (D3.out.trans (b4.mono D3.out.size))
                    clear b4 R3 D3 HP
                    go_wp2_with fail
                    go_ret
                    exact ⟨by first | rfl | (simp; omega), D4.out⟩
                  · have ej : ((j : Int) == 0) = false := by rw [beq_eq_false_iff_ne]; omega
                    have HV := Lib.hid (PV.out.trans (by simp [okV]) : mayV i (fun _ => ⟨5, 0, xS j⟩) = false)
                    have HP := Lib.hid (PP.out.trans (by simp [okP, hj0, hj]) : mayP i (fun _ => ⟨5, 0, xS j⟩) = false)
                    clear PV PP h6 h0 hj0 hjs hn3 hj
                    go_wp2_with fail
                    refine (Put_no _ c A _ wr (by omega) RT.out HP.out).mono ?_
                    rintro e w1 ⟨rfl, b1⟩
                    have R1 := Lib.hid (RT.out.below b1); have D1 := Lib.hid (B1.out.trans (b1.mono B1.out.size))
                    clear b1 RT B1 c0 c1
                    go_wp2_with fail
                    refine (ttold_t _).mono ?_
                    rintro e w2 ⟨rfl, b2⟩
                    have R2 := Lib.hid (R1.out.below b2); have D2 := Lib.hid (D1.out.trans (b2.mono D1.out.size))
                    clear b2 R1 D1
                    go_wp2_with fail
                    refine (May_t _ c A _ w2 (by omega) R2.out).mono ?_
                    rintro e w3 ⟨rfl, b3⟩
                    rw [HV.out]
                    have R3 := Lib.hid (R2.out.below b3); have D3 := Lib.hid (D2.out.trans (b3.mono D2.out.size))
                    clear b3 R2 D2 HV
                    go_wp2_with fail
                    refine (MayTemplate_t _ c A _ w3 (by omega) R3.out).mono ?_
                    rintro e w4 ⟨rfl, b4⟩
                    rw [HP.out]
                    have D4 := Lib.hid (D3.out.trans (b4.mono D3.out.size))
                    clear b4 R3 D3 HP
                    go_wp2_with fail
                    go_ret
                    exact ⟨by first | rfl | (simp; omega), D4.out⟩
                · have en : (n == 0) = false := by rw [beq_eq_false_iff_ne]; exact hn0
                  have HV := Lib.hid (PV.out.trans (by simp [okV]) : mayV i (fun _ => ⟨5, n, xS j⟩) = false)
                  have HP := Lib.hid (PP.out.trans (by simp [okP, hn0]) : mayP i (fun _ => ⟨5, n, xS j⟩) = false)
                  clear PV PP h6 h0 hj0 hjs hn3 hn0
                  go_wp2_with fail
                  refine (Put_no _ c A _ wr (by omega) RT.out HP.out).mono ?_
                  rintro e w1 ⟨rfl, b1⟩
                  have R1 := Lib.hid (RT.out.below b1); have D1 := Lib.hid (B1.out.trans (b1.mono B1.out.size))
                  clear b1 RT B1 c0 c1
                  go_wp2_with fail
                  refine (ttold_t _).mono ?_
                  rintro e w2 ⟨rfl, b2⟩
                  have R2 := Lib.hid (R1.out.below b2); have D2 := Lib.hid (D1.out.trans (b2.mono D1.out.size))
                  clear b2 R1 D1
                  go_wp2_with fail
                  refine (May_t _ c A _ w2 (by omega) R2.out).mono ?_
                  rintro e w3 ⟨rfl, b3⟩
                  rw [HV.out]
                  have R3 := Lib.hid (R2.out.below b3); have D3 := Lib.hid (D2.out.trans (b3.mono D2.out.size))
                  clear b3 R2 D2 HV
                  go_wp2_with fail
                  refine (MayTemplate_t _ c A _ w3 (by omega) R3.out).mono ?_
                  rintro e w4 ⟨rfl, b4⟩
                  rw [HP.out]
                  have D4 := Lib.hid (D3.out.trans (b4.mono D3.out.size))
                  clear b4 R3 D3 HP
                  go_wp2_with fail
                  go_ret
                  exact ⟨by first | rfl | (simp; omega), D4.out⟩
              · have HV := Lib.hid (PV.out.trans (by simp [okV]) : mayV i (fun _ => ⟨6, n, xS j⟩) = false)
                have HP := Lib.hid (PP.out.trans (by simp [okP, okV]) : mayP i (fun _ => ⟨6, n, xS j⟩) = false)
                clear PV PP h6 h0 hj0 hjs hn3
                go_wp2_with fail
                refine (Put_no _ c A _ wr (by omega) RT.out HP.out).mono ?_
                rintro e w1 ⟨rfl, b1⟩
                have R1 := Lib.hid (RT.out.below b1); have D1 := Lib.hid (B1.out.trans (b1.mono B1.out.size))
                clear b1 RT B1 c0 c1
                go_wp2_with fail
                refine (ttold_t _).mono ?_
                rintro e w2 ⟨rfl, b2⟩
                have R2 := Lib.hid (R1.out.below b2); have D2 := Lib.hid (D1.out.trans (b2.mono D1.out.size))
                clear b2 R1 D1
                go_wp2_with fail
                refine (May_t _ c A _ w2 (by omega) R2.out).mono ?_
                rintro e w3 ⟨rfl, b3⟩
                rw [HV.out]
                have R3 := Lib.hid (R2.out.below b3); have D3 := Lib.hid (D2.out.trans (b3.mono D2.out.size))
                clear b3 R2 D2 HV
                go_wp2_with fail
                refine (MayTemplate_t _ c A _ w3 (by omega) R3.out).mono ?_
                rintro e w4 ⟨rfl, b4⟩
                rw [HP.out]
                have D4 := Lib.hid (D3.out.trans (b4.mono D3.out.size))
                clear b4 R3 D3 HP
                go_wp2_with fail
                go_ret
                exact ⟨by first | rfl | (simp; omega), D4.out⟩
end Go.Proofs.Ytlaiblgnjppmnaa
