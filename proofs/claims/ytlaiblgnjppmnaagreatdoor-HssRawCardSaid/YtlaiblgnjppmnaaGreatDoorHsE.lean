/-
  THE REFERENCE OF CHAPTER 5: VerifyKey, of short bytes.
-/
import Derived.Test.YtlaiblgnjppmnaaGreatDoorHsD
import Derived.Test.YtlaiblgnjppmnaaGreatDoorRgC
namespace Go.Proofs.YtlaiblgnjppmnaaGreatDoor
open Go Go.RowKit Sh

theorem hverN_no {xs : List Nat} (h : hform xs = false) : hverN xs = 2 := by rw [hverN, h]; rfl
theorem hform_len {xs : List Nat} (h : xs.length ≠ 60) : hform xs = false := decide_eq_false (fun q => h q.1)
theorem refkey_len (xs : List Nat) (A B C : Option Addr) (m c m1 c1 m2 c2 : Nat) (w : World) (hx : xs.length = m) (hm : m ≠ 60) :
    Calls Tryz.prog 32 #[.slice A m c, .slice B m1 c1, .slice C m2 c2] w fun e w' => e = .returned (.int .i64 (hverN xs : Nat)) ∧ Below w.heap.size w w' := by
  rw [hverN_no (hform_len (by rw [hx]; exact hm))]
  have t0 : ((m : Int) != 60) = true := by rw [bne_iff_ne]; omega
  clear hx hm
  go_enter Tryz.func32, Tryz.ntmps32
  go_wp2_with fail
  go_ret
  exact ⟨rfl, Below.refl _ _⟩
set_option maxRecDepth 100000 in
set_option maxHeartbeats 1000000 in
theorem refkey_no (xs : List Nat) (A B C : Option Addr) (c m1 c1 m2 c2 : Nat) (w : World) (hx : xs.length = 60) (hp : Sr w A xs) (hb : Bytes xs) (hno : val (xs.take 4) < 1 ∨ 2 < val (xs.take 4)) :
    Calls Tryz.prog 32 #[.slice A 60 c, .slice B m1 c1, .slice C m2 c2] w fun e w' => e = .returned (.int .i64 2) ∧ Below w.heap.size w w' := by
  obtain ⟨b, o, rfl, hlt, _⟩ := hp (by rw [hx]; decide)
  obtain ⟨d0, d1, d2, d3⟩ := four_at hp (by rw [hx]; decide)
  have hq := four_val xs (by rw [hx]; decide)
  have u0 := hb 0; have u1 := hb 1; have u2 := hb 2; have u3 := hb 3
  obtain ⟨s0, hs0⟩ : ∃ x, gt xs 0 = x := ⟨_, rfl⟩
  obtain ⟨s1, hs1⟩ : ∃ x, gt xs 1 = x := ⟨_, rfl⟩
  obtain ⟨s2, hs2⟩ : ∃ x, gt xs 2 = x := ⟨_, rfl⟩
  obtain ⟨s3, hs3⟩ : ∃ x, gt xs 3 = x := ⟨_, rfl⟩
  rw [hs0] at d0 u0 hq
  rw [hs1] at d1 u1 hq
  rw [hs2] at d2 u2 hq
  rw [hs3] at d3 u3 hq
  clear hs0 hs1 hs2 hs3
  clear hx hp hb hlt
  by_cases h0 : s0 = 0
  · subst h0
    by_cases h1 : s1 = 0
    · subst h1
      by_cases h2 : s2 = 0
      · subst h2
        by_cases h3 : s3 = 0
        · subst h3
          clear hq hno u0 u1 u2 u3
          go_enter Tryz.func32, Tryz.ntmps32
          go_wp2_with fail
          go_ret
          exact ⟨rfl, Below.refl _ _⟩
        · have h4 : 2 < s3 := by omega
          have t3 : ((s3 : Int) < 1) = False := by simp; omega
          have t4 : (2 : Int) < (s3 : Int) := by omega
          have t5 : (1 : Int) ≤ (s3 : Int) := by omega
          clear hq hno u0 u1 u2 u3 h3 h4 t3
          go_enter Tryz.func32, Tryz.ntmps32
          go_wp2_with fail
          go_ret
          exact ⟨rfl, Below.refl _ _⟩
      · have t : ((s2 : Int) != 0) = true := by rw [bne_iff_ne]; omega
        clear hq hno u0 u1 u2 u3 h2
        go_enter Tryz.func32, Tryz.ntmps32
        go_wp2_with fail
        go_ret
        exact ⟨rfl, Below.refl _ _⟩
    · have t : ((s1 : Int) != 0) = true := by rw [bne_iff_ne]; omega
      clear hq hno u0 u1 u2 u3 h1
      go_enter Tryz.func32, Tryz.ntmps32
      go_wp2_with fail
      go_ret
      exact ⟨rfl, Below.refl _ _⟩
  · have t : ((s0 : Int) != 0) = true := by rw [bne_iff_ne]; omega
    clear hq hno u0 u1 u2 u3 h0
    go_enter Tryz.func32, Tryz.ntmps32
    go_wp2_with fail
    go_ret
    exact ⟨rfl, Below.refl _ _⟩
set_option maxRecDepth 100000 in
set_option maxHeartbeats 1000000 in
theorem refkey_bad (xs : List Nat) (A B C : Option Addr) (c m1 c1 m2 c2 : Nat) (w : World) (hx : xs.length = 60) (hp : Sr w A xs) (hb : Bytes xs) (hc : 60 ≤ c) (hv : val (xs.take 4) = 1 ∨ val (xs.take 4) = 2) (hf : formN (xs.drop 4) = false) :
    Calls Tryz.prog 32 #[.slice A 60 c, .slice B m1 c1, .slice C m2 c2] w fun e w' => e = .returned (.int .i64 2) ∧ Below w.heap.size w w' := by
  obtain ⟨b, o, rfl, hlt, _⟩ := hp (by rw [hx]; decide)
  obtain ⟨d0, d1, d2, d3⟩ := four_at hp (by rw [hx]; decide)
  have hq := four_val xs (by rw [hx]; decide)
  have u0 := hb 0; have u1 := hb 1; have u2 := hb 2; have u3 := hb 3
  obtain ⟨s0, hs0⟩ : ∃ x, gt xs 0 = x := ⟨_, rfl⟩
  obtain ⟨s1, hs1⟩ : ∃ x, gt xs 1 = x := ⟨_, rfl⟩
  obtain ⟨s2, hs2⟩ : ∃ x, gt xs 2 = x := ⟨_, rfl⟩
  obtain ⟨s3, hs3⟩ : ∃ x, gt xs 3 = x := ⟨_, rfl⟩
  rw [hs0] at d0 u0 hq
  rw [hs1] at d1 u1 hq
  rw [hs2] at d2 u2 hq
  rw [hs3] at d3 u3 hq
  clear hs0 hs1 hs2 hs3
  obtain ⟨p2, hp2, he2⟩ := slice_low (P := Tryz.prog) (t := 27) (e := 5) Tryz.underlying27 byte_size (some ⟨b, o, none⟩) 60 c .i64 4 (by omega) hc
  rw [show ((4 : Nat) : Int) = 4 from rfl, show 60 - 4 = 56 from rfl] at he2
  have SP := Lib.hid (fun W (h : Sr W (some ⟨b, o, none⟩) xs) => show Sr W p2 (xs.drop 4) from h.drop (p2 := p2) (n := 4) (fun _ => hp2 (by omega)))
  have HP := Lib.hid hp; have HX := Lib.hid hx; have HB := Lib.hid hb
  have D3 := Lib.hid (fun X (h : Below w.heap.size w X) => (h.cell (p := ⟨b, o + 3, none⟩) hlt).trans d3)
  obtain ⟨ys, hys⟩ : ∃ ys, xs.drop 4 = ys := ⟨_, rfl⟩
  have HYL := Lib.hid (show ys.length = 56 by rw [← hys, List.length_drop, hx])
  have HYB := Lib.hid (show Bytes ys by rw [← hys]; exact bytes_drop hb 4)
  rw [hys] at hf SP
  have FM := Lib.hid (refform_t ys p2 56 (c - 4) w HYL.out (SP.out w hp) HYB.out (by decide) (by omega))
  rw [hf] at FM
  have HC4 := Lib.hid (show 56 ≤ c - 4 by omega)
  have z0 : s0 = 0 := by omega
  have z1 : s1 = 0 := by omega
  have z2 : s2 = 0 := by omega
  subst z0; subst z1; subst z2
  rcases hv with hv | hv
  · skip
    obtain rfl : s3 = 1 := by omega
    clear hx hp hb hlt hq hv u0 u1 u2 u3 hp2 hys
    go_enter Tryz.func32, Tryz.ntmps32
    go_wp2_with fail
    refine FM.out.mono ?_
    rintro e w1 ⟨rfl, b1⟩
    have B1 := Lib.hid b1
    clear b1 FM
    go_wp2_with fail
    go_ret
    exact ⟨rfl, B1.out⟩
  · skip
    obtain rfl : s3 = 2 := by omega
    clear hx hp hb hlt hq hv u0 u1 u2 u3 hp2 hys
    go_enter Tryz.func32, Tryz.ntmps32
    go_wp2_with fail
    refine FM.out.mono ?_
    rintro e w1 ⟨rfl, b1⟩
    have B1 := Lib.hid b1
    clear b1 FM
    go_wp2_with fail
    go_ret
    exact ⟨rfl, B1.out⟩
set_option maxRecDepth 100000 in
set_option maxHeartbeats 1000000 in
theorem refkey_short1 (xs : List Nat) (A B C : Option Addr) (c m1 c1 m2 c2 : Nat) (w : World) (hx : xs.length = 60) (hp : Sr w A xs) (hb : Bytes xs) (hc : 60 ≤ c) (hv : val (xs.take 4) = 1 ∨ val (xs.take 4) = 2) (hf : formN (xs.drop 4) = true) (hm2 : m2 < 4) :
    Calls Tryz.prog 32 #[.slice A 60 c, .slice B m1 c1, .slice C m2 c2] w fun e w' => e = .returned (.int .i64 3) ∧ Below w.heap.size w w' := by
  obtain ⟨b, o, rfl, hlt, _⟩ := hp (by rw [hx]; decide)
  obtain ⟨d0, d1, d2, d3⟩ := four_at hp (by rw [hx]; decide)
  have hq := four_val xs (by rw [hx]; decide)
  have u0 := hb 0; have u1 := hb 1; have u2 := hb 2; have u3 := hb 3
  obtain ⟨s0, hs0⟩ : ∃ x, gt xs 0 = x := ⟨_, rfl⟩
  obtain ⟨s1, hs1⟩ : ∃ x, gt xs 1 = x := ⟨_, rfl⟩
  obtain ⟨s2, hs2⟩ : ∃ x, gt xs 2 = x := ⟨_, rfl⟩
  obtain ⟨s3, hs3⟩ : ∃ x, gt xs 3 = x := ⟨_, rfl⟩
  rw [hs0] at d0 u0 hq
  rw [hs1] at d1 u1 hq
  rw [hs2] at d2 u2 hq
  rw [hs3] at d3 u3 hq
  clear hs0 hs1 hs2 hs3
  obtain ⟨p2, hp2, he2⟩ := slice_low (P := Tryz.prog) (t := 27) (e := 5) Tryz.underlying27 byte_size (some ⟨b, o, none⟩) 60 c .i64 4 (by omega) hc
  rw [show ((4 : Nat) : Int) = 4 from rfl, show 60 - 4 = 56 from rfl] at he2
  have SP := Lib.hid (fun W (h : Sr W (some ⟨b, o, none⟩) xs) => show Sr W p2 (xs.drop 4) from h.drop (p2 := p2) (n := 4) (fun _ => hp2 (by omega)))
  have HP := Lib.hid hp; have HX := Lib.hid hx; have HB := Lib.hid hb
  have D3 := Lib.hid (fun X (h : Below w.heap.size w X) => (h.cell (p := ⟨b, o + 3, none⟩) hlt).trans d3)
  obtain ⟨ys, hys⟩ : ∃ ys, xs.drop 4 = ys := ⟨_, rfl⟩
  have HYL := Lib.hid (show ys.length = 56 by rw [← hys, List.length_drop, hx])
  have HYB := Lib.hid (show Bytes ys by rw [← hys]; exact bytes_drop hb 4)
  rw [hys] at hf SP
  have FM := Lib.hid (refform_t ys p2 56 (c - 4) w HYL.out (SP.out w hp) HYB.out (by decide) (by omega))
  rw [hf] at FM
  have HC4 := Lib.hid (show 56 ≤ c - 4 by omega)
  have z0 : s0 = 0 := by omega
  have z1 : s1 = 0 := by omega
  have z2 : s2 = 0 := by omega
  subst z0; subst z1; subst z2
  obtain ⟨v, hvv⟩ : ∃ v : Nat, v = s3 := ⟨_, rfl⟩
  subst hvv
  have e1 : (1 : Int) ≤ (v : Int) := by omega
  have e2 : (v : Int) ≤ 2 := by omega
  have e3 : (m2 : Int) < 4 := by omega
  clear hx hp hb hlt hq u0 u1 u2 u3 hp2
  go_enter Tryz.func32, Tryz.ntmps32
  go_wp2_with fail
  refine FM.out.mono ?_
  rintro e w1 ⟨rfl, b1⟩
  have BD := Lib.hid (b1.trans ((Below.refl _ _).drew.mono b1.size))
  clear b1 FM d0 d1 d2 d3
  go_upto_region 3 with (fail)
  refine wp_region_held (S := fun X => X.cell? ⟨b, o + 3, none⟩ = some (.int .u8 (v : Int))) (by kernel_rfl) ?_
  change wpAnyH _ _ _ _ _ _ _ _ w1.drew
  obtain ⟨V, hV⟩ : ∃ V, w1.drew = V := ⟨_, rfl⟩
  rw [hV] at BD ⊢
  clear hV
  have r1 : V.cell? ⟨b, o + 3, none⟩ = some (.int .u8 (v : Int)) := D3.out V BD.out
  refine wpAnyH_take (i := 0) (v := ?_) rfl (by kernel_rfl) (by kernel_rfl) (by kernel_rfl) (fun _ _ _ h => h) (Or.inl ⟨by kernel_rfl, ?_⟩) r1 ?_
  rotate_left 1
  · (intro w hS; clear hS; go_simp; try (with_reducible rfl))
  refine wpAnyH_take (i := 1) (v := ?_) rfl (by kernel_rfl) (by kernel_rfl) (by kernel_rfl) (fun _ _ _ h => h) (Or.inl ⟨by kernel_rfl, ?_⟩) r1 ?_
  rotate_left 1
  · (intro w hS; clear hS; go_simp; try (with_reducible rfl))
  refine wpAnyH_take (i := 2) (v := ?_) rfl (by kernel_rfl) (by kernel_rfl) (by kernel_rfl) (fun _ _ _ h => h) (Or.inl ⟨by kernel_rfl, ?_⟩) r1 ?_
  rotate_left 1
  · (intro w hS; clear hS; go_simp; try (with_reducible rfl))
  refine wpAnyH_take (i := 3) (v := ?_) rfl (by kernel_rfl) (by kernel_rfl) (by kernel_rfl) (fun _ _ _ h => h) (Or.inl ⟨by kernel_rfl, ?_⟩) r1 ?_
  rotate_left 1
  · (intro w hS; clear hS; go_simp; try (with_reducible rfl))
  refine wpAnyH_take (i := 4) (v := undef) rfl (by kernel_rfl) (by kernel_rfl) (by kernel_rfl) (fun _ _ _ h => h) (Or.inr ⟨by kernel_rfl, rfl⟩) r1 ?_
  refine wpAnyH_take (i := 5) (v := undef) rfl (by kernel_rfl) (by kernel_rfl) (by kernel_rfl) (fun _ _ _ h => h) (Or.inr ⟨by kernel_rfl, rfl⟩) r1 ?_
  refine wpAnyH_take (i := 6) (v := undef) rfl (by kernel_rfl) (by kernel_rfl) (by kernel_rfl) (fun _ _ _ h => h) (Or.inr ⟨by kernel_rfl, rfl⟩) r1 ?_
  refine wpAnyH_take (i := 7) (v := undef) rfl (by kernel_rfl) (by kernel_rfl) (by kernel_rfl) (fun _ _ _ h => h) (Or.inr ⟨by kernel_rfl, rfl⟩) r1 ?_
  refine wpAnyH_take (i := 8) (v := undef) rfl (by kernel_rfl) (by kernel_rfl) (by kernel_rfl) (fun _ _ _ h => h) (Or.inr ⟨by kernel_rfl, rfl⟩) r1 ?_
  refine wpAnyH_take (i := 9) (v := undef) rfl (by kernel_rfl) (by kernel_rfl) (by kernel_rfl) (fun _ _ _ h => h) (Or.inr ⟨by kernel_rfl, rfl⟩) r1 ?_
  refine wpAnyH_take (i := 10) (v := undef) rfl (by kernel_rfl) (by kernel_rfl) (by kernel_rfl) (fun _ _ _ h => h) (Or.inr ⟨by kernel_rfl, rfl⟩) r1 ?_
  refine wpAnyH_take (i := 11) (v := undef) rfl (by kernel_rfl) (by kernel_rfl) (by kernel_rfl) (fun _ _ _ h => h) (Or.inr ⟨by kernel_rfl, rfl⟩) r1 ?_
  refine wpAnyH_take (i := 12) (v := undef) rfl (by kernel_rfl) (by kernel_rfl) (by kernel_rfl) (fun _ _ _ h => h) (Or.inr ⟨by kernel_rfl, rfl⟩) r1 ?_
  refine wpAnyH_take (i := 13) (v := undef) rfl (by kernel_rfl) (by kernel_rfl) (by kernel_rfl) (fun _ _ _ h => h) (Or.inr ⟨by kernel_rfl, rfl⟩) r1 ?_
  refine wpAnyH_take (i := 14) (v := ?_) rfl (by kernel_rfl) (by kernel_rfl) (by kernel_rfl) (fun _ _ _ h => h) (Or.inl ⟨by kernel_rfl, ?_⟩) r1 ?_
  rotate_left 1
  · (intro w hS; clear hS; go_simp; try (with_reducible rfl))
  refine wpAnyH_done (by kernel_rfl) ?_ _
  go_simp
  go_wp2_with fail
  go_ret
  exact ⟨rfl, BD.out⟩
set_option maxRecDepth 100000 in
set_option maxHeartbeats 2000000 in
theorem refkey_one (xs zs : List Nat) (A B C : Option Addr) (c m1 c1 m2 c2 : Nat) (w : World) (hx : xs.length = 60) (hp : Sr w A xs) (hb : Bytes xs) (hc : 60 ≤ c) (hv : val (xs.take 4) = 1) (hf : formN (xs.drop 4) = true) (hm4 : 4 ≤ m2) (hz : zs.length = m2) (hpz : Sr w C zs) (hzb : Bytes zs) (hz2 : m2 ≤ c2) (hm2 : m2 ≤ 300) :
    Calls Tryz.prog 32 #[.slice A 60 c, .slice B m1 c1, .slice C m2 c2] w fun e w' => e = .returned (.int .i64 3) ∧ Below w.heap.size w w' := by
  obtain ⟨b, o, rfl, hlt, _⟩ := hp (by rw [hx]; decide)
  obtain ⟨d0, d1, d2, d3⟩ := four_at hp (by rw [hx]; decide)
  have hq := four_val xs (by rw [hx]; decide)
  have u0 := hb 0; have u1 := hb 1; have u2 := hb 2; have u3 := hb 3
  obtain ⟨s0, hs0⟩ : ∃ x, gt xs 0 = x := ⟨_, rfl⟩
  obtain ⟨s1, hs1⟩ : ∃ x, gt xs 1 = x := ⟨_, rfl⟩
  obtain ⟨s2, hs2⟩ : ∃ x, gt xs 2 = x := ⟨_, rfl⟩
  obtain ⟨s3, hs3⟩ : ∃ x, gt xs 3 = x := ⟨_, rfl⟩
  rw [hs0] at d0 u0 hq
  rw [hs1] at d1 u1 hq
  rw [hs2] at d2 u2 hq
  rw [hs3] at d3 u3 hq
  clear hs0 hs1 hs2 hs3
  obtain ⟨p2, hp2, he2⟩ := slice_low (P := Tryz.prog) (t := 27) (e := 5) Tryz.underlying27 byte_size (some ⟨b, o, none⟩) 60 c .i64 4 (by omega) hc
  rw [show ((4 : Nat) : Int) = 4 from rfl, show 60 - 4 = 56 from rfl] at he2
  have SP := Lib.hid (fun W (h : Sr W (some ⟨b, o, none⟩) xs) => show Sr W p2 (xs.drop 4) from h.drop (p2 := p2) (n := 4) (fun _ => hp2 (by omega)))
  have HP := Lib.hid hp; have HX := Lib.hid hx; have HB := Lib.hid hb
  have D3 := Lib.hid (fun X (h : Below w.heap.size w X) => (h.cell (p := ⟨b, o + 3, none⟩) hlt).trans d3)
  obtain ⟨ys, hys⟩ : ∃ ys, xs.drop 4 = ys := ⟨_, rfl⟩
  have HYL := Lib.hid (show ys.length = 56 by rw [← hys, List.length_drop, hx])
  have HYB := Lib.hid (show Bytes ys by rw [← hys]; exact bytes_drop hb 4)
  rw [hys] at hf SP
  have FM := Lib.hid (refform_t ys p2 56 (c - 4) w HYL.out (SP.out w hp) HYB.out (by decide) (by omega))
  rw [hf] at FM
  have HC4 := Lib.hid (show 56 ≤ c - 4 by omega)
  have z0 : s0 = 0 := by omega
  have z1 : s1 = 0 := by omega
  have z2 : s2 = 0 := by omega
  subst z0; subst z1; subst z2
  obtain rfl : s3 = 1 := by omega
  obtain ⟨q2, hq2, hf2⟩ := slice_low (P := Tryz.prog) (t := 27) (e := 5) Tryz.underlying27 byte_size C m2 c2 .i64 4 hm4 hz2
  rw [show ((4 : Nat) : Int) = 4 from rfl] at hf2
  have e5 : decide ((m2 : Int) < 4) = false := decide_eq_false (by omega)
  have e6 : ¬ ((m2 : Int) < 4) := by omega
  have SQ := Lib.hid (fun W (h : Sr W C zs) => show Sr W q2 (zs.drop 4) from h.drop (p2 := q2) (n := 4) (fun h => hq2 (by omega)))
  have HT4 := Lib.hid (show (zs.take 4).length = 4 ∧ Bytes (zs.take 4) from ⟨by rw [List.length_take, hz]; omega, bytes_take hzb 4⟩)
  have HZ4 := Lib.hid (fun X (h : Below w.heap.size w X) => hpz.below h)
  have HZB := Lib.hid hzb
  have HZL := Lib.hid (show (zs.drop 4).length = m2 - 4 by rw [List.length_drop, hz])
  have HM2 := Lib.hid (show 4 ≤ m2 ∧ m2 ≤ 300 ∧ m2 ≤ c2 from ⟨hm4, hm2, hz2⟩)
  obtain ⟨_, ii, hi, hvi⟩ := formN_code hf
  have HN9 := Lib.hid (show 1000 ≤ lszN ii from (by decide : ∀ i : Nat, i < 4 → 1000 ≤ lszN i) ii hi)
  have HVI := Lib.hid hvi
  have HF := Lib.hid hf
  clear hz hpz hzb hvi hf
  clear hq2 hm2 hv hys hm4
  have hs4 := slice_high (P := Tryz.prog) (t := 27) (e := 5) Tryz.underlying27 byte_size C m2 c2 .i64 4 (by omega)
  rw [show ((4 : Nat) : Int) = 4 from rfl] at hs4
  clear hx hp hb hlt hq u0 u1 u2 u3 hp2
  go_enter Tryz.func32, Tryz.ntmps32
  go_wp2_with fail
  refine FM.out.mono ?_
  rintro e w1 ⟨rfl, b1⟩
  have BD := Lib.hid (b1.trans ((Below.refl _ _).drew.mono b1.size))
  clear b1 FM d0 d1 d2 d3
  go_upto_region 3 with (fail)
  refine wp_region_held (S := fun X => X.cell? ⟨b, o + 3, none⟩ = some (.int .u8 (1 : Int))) (by kernel_rfl) ?_
  change wpAnyH _ _ _ _ _ _ _ _ w1.drew
  obtain ⟨V, hV⟩ : ∃ V, w1.drew = V := ⟨_, rfl⟩
  rw [hV] at BD ⊢
  clear hV
  have r1 : V.cell? ⟨b, o + 3, none⟩ = some (.int .u8 (1 : Int)) := D3.out V BD.out
  refine wpAnyH_take (i := 0) (v := ?_) rfl (by kernel_rfl) (by kernel_rfl) (by kernel_rfl) (fun _ _ _ h => h) (Or.inl ⟨by kernel_rfl, ?_⟩) r1 ?_
  rotate_left 1
  · (intro w hS; clear hS; go_simp; try (with_reducible rfl))
  refine wpAnyH_take (i := 1) (v := ?_) rfl (by kernel_rfl) (by kernel_rfl) (by kernel_rfl) (fun _ _ _ h => h) (Or.inl ⟨by kernel_rfl, ?_⟩) r1 ?_
  rotate_left 1
  · (intro w hS; clear hS; go_simp; try (with_reducible rfl))
  refine wpAnyH_take (i := 2) (v := ?_) rfl (by kernel_rfl) (by kernel_rfl) (by kernel_rfl) (fun _ _ _ h => h) (Or.inl ⟨by kernel_rfl, ?_⟩) r1 ?_
  rotate_left 1
  · (intro w hS; clear hS; go_simp; try (with_reducible rfl))
  refine wpAnyH_take (i := 3) (v := ?_) rfl (by kernel_rfl) (by kernel_rfl) (by kernel_rfl) (fun _ _ _ h => h) (Or.inl ⟨by kernel_rfl, ?_⟩) r1 ?_
  rotate_left 1
  · (intro w hS; clear hS; go_simp; try (with_reducible rfl))
  refine wpAnyH_take (i := 4) (v := ?_) rfl (by kernel_rfl) (by kernel_rfl) (by kernel_rfl) (fun _ _ _ h => h) (Or.inl ⟨by kernel_rfl, ?_⟩) r1 ?_
  rotate_left 1
  · (intro w hS; clear hS; go_simp; try (with_reducible rfl))
  refine wpAnyH_take (i := 5) (v := ?_) rfl (by kernel_rfl) (by kernel_rfl) (by kernel_rfl) (fun _ _ _ h => h) (Or.inl ⟨by kernel_rfl, ?_⟩) r1 ?_
  rotate_left 1
  · (intro w hS; clear hS; go_simp; try (with_reducible rfl))
  refine wpAnyH_take (i := 6) (v := ?_) rfl (by kernel_rfl) (by kernel_rfl) (by kernel_rfl) (fun _ _ _ h => h) (Or.inl ⟨by kernel_rfl, ?_⟩) r1 ?_
  rotate_left 1
  · (intro w hS; clear hS; go_simp; try (with_reducible rfl))
  refine wpAnyH_take (i := 7) (v := ?_) rfl (by kernel_rfl) (by kernel_rfl) (by kernel_rfl) (fun _ _ _ h => h) (Or.inl ⟨by kernel_rfl, ?_⟩) r1 ?_
  rotate_left 1
  · (intro w hS; clear hS; go_simp; try (with_reducible rfl))
  refine wpAnyH_take (i := 8) (v := ?_) rfl (by kernel_rfl) (by kernel_rfl) (by kernel_rfl) (fun _ _ _ h => h) (Or.inl ⟨by kernel_rfl, ?_⟩) r1 ?_
  rotate_left 1
  · (intro w hS; have hs := hS; clear hS; go_simp; try (with_reducible rfl))
  refine wpAnyH_take (i := 9) (v := ?_) rfl (by kernel_rfl) (by kernel_rfl) (by kernel_rfl) (fun _ _ _ h => h) (Or.inl ⟨by kernel_rfl, ?_⟩) r1 ?_
  rotate_left 1
  · (intro w hS; clear hS; go_simp; try (with_reducible rfl))
  refine wpAnyH_take (i := 10) (v := ?_) rfl (by kernel_rfl) (by kernel_rfl) (by kernel_rfl) (fun _ _ _ h => h) (Or.inl ⟨by kernel_rfl, ?_⟩) r1 ?_
  rotate_left 1
  · (intro w hS; clear hS; go_simp; try (with_reducible rfl))
  refine wpAnyH_ready (rs := [11]) (by kernel_rfl) (by simp) ?_
  refine AllReadyH.cons rfl (fun K hK => ?_) AllReadyH.nil
  go_simp
  refine (refnum_t 0 4 V (by decide) (by decide)).mono ?_
  rintro e w5 ⟨u, rfl, f5⟩
  obtain ⟨A5, c5, rfl, hc5, s5, b5⟩ := fresh_op f5
  rw [beN_length] at hc5 ⊢
  have B5 := Lib.hid (BD.out.trans (b5.mono BD.out.size)); have S5 := Lib.hid s5
  have r5 := D3.out w5 B5.out
  clear f5 hc5 s5 b5 BD
  refine hK.out _ _ r5 (fun _ => ?_)
  clear hK K
  refine wpAnyH_ready (rs := [12]) (by kernel_rfl) (by simp) ?_
  refine AllReadyH.cons rfl (fun K hK => ?_) AllReadyH.nil
  go_simp
  refine (same_texts (zs.take 4) (beN 0 4) C A5 4 4 c2 c5 w5 HT4.out.1 (beN_length _ _) ((HZ4.out w5 B5.out).take 4) S5.out HT4.out.2 (beN_bytes _ _)).mono ?_
  rintro e w6 ⟨rfl, rfl⟩
  obtain ⟨dd, hdd⟩ : ∃ d, decide (zs.take 4 = beN 0 4) = d := ⟨_, rfl⟩
  rw [hdd]
  clear hdd
  refine hK.out _ _ r5 (fun _ => ?_)
  clear hK K
  refine wpAnyH_take (i := 13) (v := ?_) rfl (by kernel_rfl) (by kernel_rfl) (by kernel_rfl) (fun _ _ _ h => h) (Or.inl ⟨by kernel_rfl, ?_⟩) r5 ?_
  rotate_left 1
  · (intro w hS; clear hS; go_simp; try (with_reducible rfl))
  refine wpAnyH_take (i := 14) (v := ?_) rfl (by kernel_rfl) (by kernel_rfl) (by kernel_rfl) (fun _ _ _ h => h) (Or.inl ⟨by kernel_rfl, ?_⟩) r5 ?_
  rotate_left 1
  · (intro w hS; clear hS; go_simp; try (with_reducible rfl))
  refine wpAnyH_done (by kernel_rfl) ?_ _
  go_simp
  clear hs4 S5 r1
  cases dd with
  | false =>
    go_wp2_with fail
    go_ret
    exact ⟨rfl, B5.out⟩
  | true =>
    go_upto_region 6 with (fail)
    clear r5
    have BE := Lib.hid (B5.out.trans ((Below.refl _ _).drew.mono B5.out.size))
    refine wp_region_held (S := fun _ => True) (by kernel_rfl) ?_
    change wpAnyH _ _ _ _ _ _ _ _ w5.drew
    obtain ⟨U, hU⟩ : ∃ U, w5.drew = U := ⟨_, rfl⟩
    rw [hU] at BE ⊢
    clear hU B5
    refine wpAnyH_take (i := 0) (v := ?_) rfl (by kernel_rfl) (by kernel_rfl) (by kernel_rfl) (fun _ _ _ h => h) (Or.inl ⟨by kernel_rfl, ?_⟩) trivial ?_
    rotate_left 1
    · (intro w hS; clear hS; go_simp; try (with_reducible rfl))
    refine wpAnyH_take (i := 1) (v := ?_) rfl (by kernel_rfl) (by kernel_rfl) (by kernel_rfl) (fun _ _ _ h => h) (Or.inl ⟨by kernel_rfl, ?_⟩) trivial ?_
    rotate_left 1
    · (intro w hS; clear hS; go_simp; try (with_reducible rfl))
    refine wpAnyH_take (i := 2) (v := ?_) rfl (by kernel_rfl) (by kernel_rfl) (by kernel_rfl) (fun _ _ _ h => h) (Or.inl ⟨by kernel_rfl, ?_⟩) trivial ?_
    rotate_left 1
    · (intro w hS; clear hS; go_simp; try (with_reducible rfl))
    refine wpAnyH_take (i := 3) (v := ?_) rfl (by kernel_rfl) (by kernel_rfl) (by kernel_rfl) (fun _ _ _ h => h) (Or.inl ⟨by kernel_rfl, ?_⟩) trivial ?_
    rotate_left 1
    · (intro w hS; clear hS; go_simp; try (with_reducible rfl))
    refine wpAnyH_take (i := 4) (v := ?_) rfl (by kernel_rfl) (by kernel_rfl) (by kernel_rfl) (fun _ _ _ h => h) (Or.inl ⟨by kernel_rfl, ?_⟩) trivial ?_
    rotate_left 1
    · (intro w hS; clear hS; go_simp; try (with_reducible rfl))
    refine wpAnyH_ready (rs := [5]) (by kernel_rfl) (by simp) ?_
    refine AllReadyH.cons rfl (fun K hK => ?_) AllReadyH.nil
    go_simp
    refine (refver_len ys (zs.drop 4) ii p2 B q2 (c - 4) m1 c1 (m2 - 4) (c2 - 4) U HYL.out (SP.out U (HP.out.below BE.out)) HYB.out HC4.out HF.out hi HVI.out HZL.out (SQ.out U (HZ4.out U BE.out)) (bytes_drop HZB.out 4) (by have := HM2.out; omega) (by have := HM2.out; omega) (by have := HM2.out; have := HN9.out; omega)).mono ?_
    rintro e w7 ⟨rfl, b7⟩
    have B7 := Lib.hid (BE.out.trans (b7.mono BE.out.size))
    clear b7 BE
    refine hK.out _ _ trivial (fun _ => ?_)
    clear hK K
    refine wpAnyH_take (i := 6) (v := ?_) rfl (by kernel_rfl) (by kernel_rfl) (by kernel_rfl) (fun _ _ _ h => h) (Or.inl ⟨by kernel_rfl, ?_⟩) trivial ?_
    rotate_left 1
    · (intro w hS; clear hS; go_simp; try (with_reducible rfl))
    refine wpAnyH_done (by kernel_rfl) ?_ _
    go_simp
    go_wp2_with fail
    go_ret
    exact ⟨rfl, B7.out⟩
set_option maxRecDepth 100000 in
set_option maxHeartbeats 2000000 in
theorem refkey_two (xs zs : List Nat) (A B C : Option Addr) (c m1 c1 m2 c2 : Nat) (w : World) (hx : xs.length = 60) (hp : Sr w A xs) (hb : Bytes xs) (hc : 60 ≤ c) (hv : val (xs.take 4) = 2) (hf : formN (xs.drop 4) = true) (hm4 : 4 ≤ m2) (hz : zs.length = m2) (hpz : Sr w C zs) (hzb : Bytes zs) (hz2 : m2 ≤ c2) (hm2 : m2 ≤ 300) :
    Calls Tryz.prog 32 #[.slice A 60 c, .slice B m1 c1, .slice C m2 c2] w fun e w' => e = .returned (.int .i64 3) ∧ Below w.heap.size w w' := by
  obtain ⟨b, o, rfl, hlt, _⟩ := hp (by rw [hx]; decide)
  obtain ⟨d0, d1, d2, d3⟩ := four_at hp (by rw [hx]; decide)
  have hq := four_val xs (by rw [hx]; decide)
  have u0 := hb 0; have u1 := hb 1; have u2 := hb 2; have u3 := hb 3
  obtain ⟨s0, hs0⟩ : ∃ x, gt xs 0 = x := ⟨_, rfl⟩
  obtain ⟨s1, hs1⟩ : ∃ x, gt xs 1 = x := ⟨_, rfl⟩
  obtain ⟨s2, hs2⟩ : ∃ x, gt xs 2 = x := ⟨_, rfl⟩
  obtain ⟨s3, hs3⟩ : ∃ x, gt xs 3 = x := ⟨_, rfl⟩
  rw [hs0] at d0 u0 hq
  rw [hs1] at d1 u1 hq
  rw [hs2] at d2 u2 hq
  rw [hs3] at d3 u3 hq
  clear hs0 hs1 hs2 hs3
  obtain ⟨p2, hp2, he2⟩ := slice_low (P := Tryz.prog) (t := 27) (e := 5) Tryz.underlying27 byte_size (some ⟨b, o, none⟩) 60 c .i64 4 (by omega) hc
  rw [show ((4 : Nat) : Int) = 4 from rfl, show 60 - 4 = 56 from rfl] at he2
  have SP := Lib.hid (fun W (h : Sr W (some ⟨b, o, none⟩) xs) => show Sr W p2 (xs.drop 4) from h.drop (p2 := p2) (n := 4) (fun _ => hp2 (by omega)))
  have HP := Lib.hid hp; have HX := Lib.hid hx; have HB := Lib.hid hb
  have D3 := Lib.hid (fun X (h : Below w.heap.size w X) => (h.cell (p := ⟨b, o + 3, none⟩) hlt).trans d3)
  obtain ⟨ys, hys⟩ : ∃ ys, xs.drop 4 = ys := ⟨_, rfl⟩
  have HYL := Lib.hid (show ys.length = 56 by rw [← hys, List.length_drop, hx])
  have HYB := Lib.hid (show Bytes ys by rw [← hys]; exact bytes_drop hb 4)
  rw [hys] at hf SP
  have FM := Lib.hid (refform_t ys p2 56 (c - 4) w HYL.out (SP.out w hp) HYB.out (by decide) (by omega))
  rw [hf] at FM
  have HC4 := Lib.hid (show 56 ≤ c - 4 by omega)
  have z0 : s0 = 0 := by omega
  have z1 : s1 = 0 := by omega
  have z2 : s2 = 0 := by omega
  subst z0; subst z1; subst z2
  obtain rfl : s3 = 2 := by omega
  have e5 : decide ((m2 : Int) < 4) = false := decide_eq_false (by omega)
  have e6 : ¬ ((m2 : Int) < 4) := by omega
  obtain ⟨q8, hq8, hs8⟩ := slice_mid (P := Tryz.prog) (t := 27) (e := 5) Tryz.underlying27 byte_size (some ⟨b, o, none⟩) 60 c 8 12 (by omega) (by omega)
  rw [show ((8 : Nat) : Int) = 8 from rfl, show ((12 : Nat) : Int) = 12 from rfl, show 12 - 8 = 4 from rfl] at hs8
  have S8 := Lib.hid (fun W (h : Sr W (some ⟨b, o, none⟩) xs) => show Sr W q8 ((ys.drop 4).take 4) from by
    rw [← hys, List.drop_drop]
    exact (h.drop (p2 := q8) (n := 8) (fun _ => hq8 (by omega))).take 4)
  have HW8 := Lib.hid (show ((ys.drop 4).take 4).length = 4 ∧ Bytes ((ys.drop 4).take 4) from ⟨by rw [List.length_take, List.length_drop, HYL.out]; omega, bytes_take (bytes_drop HYB.out 4) 4⟩)
  have HT4 := Lib.hid (show (zs.take 4).length = 4 ∧ Bytes (zs.take 4) from ⟨by rw [List.length_take, hz]; omega, bytes_take hzb 4⟩)
  have HZ4 := Lib.hid (fun X (h : Below w.heap.size w X) => hpz.below h)
  have HZB := Lib.hid hzb
  have HZL := Lib.hid (show (zs.drop 4).length = m2 - 4 by rw [List.length_drop, hz])
  have HM2 := Lib.hid (show 4 ≤ m2 ∧ m2 ≤ 300 ∧ m2 ≤ c2 from ⟨hm4, hm2, hz2⟩)
  obtain ⟨_, ii, hi, hvi⟩ := formN_code hf
  have HN9 := Lib.hid (show 1000 ≤ lszN ii from (by decide : ∀ i : Nat, i < 4 → 1000 ≤ lszN i) ii hi)
  have HVI := Lib.hid hvi
  have HF := Lib.hid hf
  clear hz hpz hzb hvi hf
  have HWN := Lib.hid (show widN ((ys.drop 4).take 4) = (kd ii).w by
    unfold widN
    rw [HVI.out, if_pos (by omega), Nat.add_sub_cancel])
  have SZ := Lib.hid (fun W => refsize_t ii hi W)
  have hp9 := kd_p ii hi
  have hN : lszN ii ≤ 9000 := by unfold lszN; omega
  have hN1 := HN9.out
  obtain ⟨N, hNN⟩ : ∃ N, lszN ii = N := ⟨_, rfl⟩
  rw [hNN] at SZ hN hN1
  obtain ⟨kw, hkw⟩ : ∃ x, (kd ii).w = x := ⟨_, rfl⟩
  rw [hkw] at SZ HWN
  have q1 : ((N : Nat) : Int) ≤ 9000 := by omega
  have q2 : (1000 : Int) ≤ (N : Int) := by omega
  have ew4 : IntKind.i64.wrap (4 + (N : Int)) = 4 + (N : Int) := IntWalk.i64_in _ (by omega)
  have ew5 : IntKind.i64.wrap (4 + (N : Int) + 56) = 4 + (N : Int) + 56 := IntWalk.i64_in _ (by omega)
  have ew6 : (m2 : Int) < 4 + (N : Int) + 56 := by omega
  clear hq8 hm2 hv hys hm4 hNN hkw hp9 hN hN1 HN9
  have hs4 := slice_high (P := Tryz.prog) (t := 27) (e := 5) Tryz.underlying27 byte_size C m2 c2 .i64 4 (by omega)
  rw [show ((4 : Nat) : Int) = 4 from rfl] at hs4
  clear hx hp hb hlt hq u0 u1 u2 u3 hp2
  go_enter Tryz.func32, Tryz.ntmps32
  go_wp2_with fail
  refine FM.out.mono ?_
  rintro e w1 ⟨rfl, b1⟩
  have BD := Lib.hid (b1.trans ((Below.refl _ _).drew.mono b1.size))
  clear b1 FM d0 d1 d2 d3
  go_upto_region 3 with (fail)
  refine wp_region_held (S := fun X => X.cell? ⟨b, o + 3, none⟩ = some (.int .u8 (2 : Int))) (by kernel_rfl) ?_
  change wpAnyH _ _ _ _ _ _ _ _ w1.drew
  obtain ⟨V, hV⟩ : ∃ V, w1.drew = V := ⟨_, rfl⟩
  rw [hV] at BD ⊢
  clear hV
  have r1 : V.cell? ⟨b, o + 3, none⟩ = some (.int .u8 (2 : Int)) := D3.out V BD.out
  refine wpAnyH_take (i := 0) (v := ?_) rfl (by kernel_rfl) (by kernel_rfl) (by kernel_rfl) (fun _ _ _ h => h) (Or.inl ⟨by kernel_rfl, ?_⟩) r1 ?_
  rotate_left 1
  · (intro w hS; clear hS; go_simp; try (with_reducible rfl))
  refine wpAnyH_take (i := 1) (v := ?_) rfl (by kernel_rfl) (by kernel_rfl) (by kernel_rfl) (fun _ _ _ h => h) (Or.inl ⟨by kernel_rfl, ?_⟩) r1 ?_
  rotate_left 1
  · (intro w hS; clear hS; go_simp; try (with_reducible rfl))
  refine wpAnyH_take (i := 2) (v := ?_) rfl (by kernel_rfl) (by kernel_rfl) (by kernel_rfl) (fun _ _ _ h => h) (Or.inl ⟨by kernel_rfl, ?_⟩) r1 ?_
  rotate_left 1
  · (intro w hS; clear hS; go_simp; try (with_reducible rfl))
  refine wpAnyH_take (i := 3) (v := ?_) rfl (by kernel_rfl) (by kernel_rfl) (by kernel_rfl) (fun _ _ _ h => h) (Or.inl ⟨by kernel_rfl, ?_⟩) r1 ?_
  rotate_left 1
  · (intro w hS; clear hS; go_simp; try (with_reducible rfl))
  refine wpAnyH_take (i := 4) (v := ?_) rfl (by kernel_rfl) (by kernel_rfl) (by kernel_rfl) (fun _ _ _ h => h) (Or.inl ⟨by kernel_rfl, ?_⟩) r1 ?_
  rotate_left 1
  · (intro w hS; clear hS; go_simp; try (with_reducible rfl))
  refine wpAnyH_take (i := 5) (v := ?_) rfl (by kernel_rfl) (by kernel_rfl) (by kernel_rfl) (fun _ _ _ h => h) (Or.inl ⟨by kernel_rfl, ?_⟩) r1 ?_
  rotate_left 1
  · (intro w hS; clear hS; go_simp; try (with_reducible rfl))
  refine wpAnyH_take (i := 6) (v := ?_) rfl (by kernel_rfl) (by kernel_rfl) (by kernel_rfl) (fun _ _ _ h => h) (Or.inl ⟨by kernel_rfl, ?_⟩) r1 ?_
  rotate_left 1
  · (intro w hS; clear hS; go_simp; try (with_reducible rfl))
  refine wpAnyH_take (i := 7) (v := ?_) rfl (by kernel_rfl) (by kernel_rfl) (by kernel_rfl) (fun _ _ _ h => h) (Or.inl ⟨by kernel_rfl, ?_⟩) r1 ?_
  rotate_left 1
  · (intro w hS; clear hS; go_simp; try (with_reducible rfl))
  refine wpAnyH_take (i := 8) (v := ?_) rfl (by kernel_rfl) (by kernel_rfl) (by kernel_rfl) (fun _ _ _ h => h) (Or.inl ⟨by kernel_rfl, ?_⟩) r1 ?_
  rotate_left 1
  · (intro w hS; have hs := hS; clear hS; go_simp; try (with_reducible rfl))
  refine wpAnyH_take (i := 9) (v := ?_) rfl (by kernel_rfl) (by kernel_rfl) (by kernel_rfl) (fun _ _ _ h => h) (Or.inl ⟨by kernel_rfl, ?_⟩) r1 ?_
  rotate_left 1
  · (intro w hS; clear hS; go_simp; try (with_reducible rfl))
  refine wpAnyH_take (i := 10) (v := ?_) rfl (by kernel_rfl) (by kernel_rfl) (by kernel_rfl) (fun _ _ _ h => h) (Or.inl ⟨by kernel_rfl, ?_⟩) r1 ?_
  rotate_left 1
  · (intro w hS; clear hS; go_simp; try (with_reducible rfl))
  refine wpAnyH_ready (rs := [11]) (by kernel_rfl) (by simp) ?_
  refine AllReadyH.cons rfl (fun K hK => ?_) AllReadyH.nil
  go_simp
  refine (refnum_t 1 4 V (by decide) (by decide)).mono ?_
  rintro e w5 ⟨u, rfl, f5⟩
  obtain ⟨A5, c5, rfl, hc5, s5, b5⟩ := fresh_op f5
  rw [beN_length] at hc5 ⊢
  have B5 := Lib.hid (BD.out.trans (b5.mono BD.out.size)); have S5 := Lib.hid s5
  have r5 := D3.out w5 B5.out
  clear f5 hc5 s5 b5 BD
  refine hK.out _ _ r5 (fun _ => ?_)
  clear hK K
  refine wpAnyH_ready (rs := [12]) (by kernel_rfl) (by simp) ?_
  refine AllReadyH.cons rfl (fun K hK => ?_) AllReadyH.nil
  go_simp
  refine (same_texts (zs.take 4) (beN 1 4) C A5 4 4 c2 c5 w5 HT4.out.1 (beN_length _ _) ((HZ4.out w5 B5.out).take 4) S5.out HT4.out.2 (beN_bytes _ _)).mono ?_
  rintro e w6 ⟨rfl, rfl⟩
  obtain ⟨dd, hdd⟩ : ∃ d, decide (zs.take 4 = beN 1 4) = d := ⟨_, rfl⟩
  rw [hdd]
  clear hdd
  refine hK.out _ _ r5 (fun _ => ?_)
  clear hK K
  refine wpAnyH_take (i := 13) (v := ?_) rfl (by kernel_rfl) (by kernel_rfl) (by kernel_rfl) (fun _ _ _ h => h) (Or.inl ⟨by kernel_rfl, ?_⟩) r5 ?_
  rotate_left 1
  · (intro w hS; clear hS; go_simp; try (with_reducible rfl))
  refine wpAnyH_take (i := 14) (v := ?_) rfl (by kernel_rfl) (by kernel_rfl) (by kernel_rfl) (fun _ _ _ h => h) (Or.inl ⟨by kernel_rfl, ?_⟩) r5 ?_
  rotate_left 1
  · (intro w hS; clear hS; go_simp; try (with_reducible rfl))
  refine wpAnyH_done (by kernel_rfl) ?_ _
  go_simp
  clear hs4 S5 r1
  cases dd with
  | false =>
    go_wp2_with fail
    go_ret
    exact ⟨rfl, B5.out⟩
  | true =>
    go_wp2_with fail
    refine (refwidth_t ((ys.drop 4).take 4) q8 (c - 8) w5 HW8.out.1 (S8.out w5 (HP.out.below B5.out)) HW8.out.2).mono ?_
    rintro e w7 ⟨rfl, b7⟩
    have B7 := Lib.hid (B5.out.trans (b7.mono B5.out.size))
    rw [HWN.out]
    clear b7 B5 r5
    go_wp2_with fail
    refine (SZ.out _).mono ?_
    rintro e w8 ⟨rfl, rfl⟩
    go_upto_region 8 with (fail)
    have BE := Lib.hid (B7.out.trans ((Below.refl _ _).drew.mono B7.out.size))
    refine wp_region_held (S := fun _ => True) (by kernel_rfl) ?_
    change wpAnyH _ _ _ _ _ _ _ _ w7.drew
    obtain ⟨U, hU⟩ : ∃ U, w7.drew = U := ⟨_, rfl⟩
    rw [hU] at BE ⊢
    clear hU B7
    refine wpAnyH_take (i := 0) (v := ?_) rfl (by kernel_rfl) (by kernel_rfl) (by kernel_rfl) (fun _ _ _ h => h) (Or.inl ⟨by kernel_rfl, ?_⟩) trivial ?_
    rotate_left 1
    · (intro w hS; clear hS; go_simp; try (with_reducible rfl))
    refine wpAnyH_take (i := 1) (v := ?_) rfl (by kernel_rfl) (by kernel_rfl) (by kernel_rfl) (fun _ _ _ h => h) (Or.inl ⟨by kernel_rfl, ?_⟩) trivial ?_
    rotate_left 1
    · (intro w hS; clear hS; go_simp; try (with_reducible rfl))
    refine wpAnyH_take (i := 2) (v := ?_) rfl (by kernel_rfl) (by kernel_rfl) (by kernel_rfl) (fun _ _ _ h => h) (Or.inl ⟨by kernel_rfl, ?_⟩) trivial ?_
    rotate_left 1
    · (intro w hS; clear hS; go_simp; try (with_reducible rfl))
    refine wpAnyH_take (i := 3) (v := ?_) rfl (by kernel_rfl) (by kernel_rfl) (by kernel_rfl) (fun _ _ _ h => h) (Or.inl ⟨by kernel_rfl, ?_⟩) trivial ?_
    rotate_left 1
    · (intro w hS; clear hS; go_simp; try (with_reducible rfl))
    refine wpAnyH_take (i := 4) (v := ?_) rfl (by kernel_rfl) (by kernel_rfl) (by kernel_rfl) (fun _ _ _ h => h) (Or.inl ⟨by kernel_rfl, ?_⟩) trivial ?_
    rotate_left 1
    · (intro w hS; clear hS; go_simp; try (with_reducible rfl))
    refine wpAnyH_take (i := 5) (v := ?_) rfl (by kernel_rfl) (by kernel_rfl) (by kernel_rfl) (fun _ _ _ h => h) (Or.inl ⟨by kernel_rfl, ?_⟩) trivial ?_
    rotate_left 1
    · (intro w hS; clear hS; go_simp; try (with_reducible rfl))
    refine wpAnyH_take (i := 6) (v := ?_) rfl (by kernel_rfl) (by kernel_rfl) (by kernel_rfl) (fun _ _ _ h => h) (Or.inl ⟨by kernel_rfl, ?_⟩) trivial ?_
    rotate_left 1
    · (intro w hS; clear hS; go_simp; try (with_reducible rfl))
    refine wpAnyH_take (i := 7) (v := undef) rfl (by kernel_rfl) (by kernel_rfl) (by kernel_rfl) (fun _ _ _ h => h) (Or.inr ⟨by kernel_rfl, rfl⟩) trivial ?_
    refine wpAnyH_take (i := 8) (v := undef) rfl (by kernel_rfl) (by kernel_rfl) (by kernel_rfl) (fun _ _ _ h => h) (Or.inr ⟨by kernel_rfl, rfl⟩) trivial ?_
    refine wpAnyH_take (i := 9) (v := undef) rfl (by kernel_rfl) (by kernel_rfl) (by kernel_rfl) (fun _ _ _ h => h) (Or.inr ⟨by kernel_rfl, rfl⟩) trivial ?_
    refine wpAnyH_take (i := 10) (v := undef) rfl (by kernel_rfl) (by kernel_rfl) (by kernel_rfl) (fun _ _ _ h => h) (Or.inr ⟨by kernel_rfl, rfl⟩) trivial ?_
    refine wpAnyH_take (i := 11) (v := undef) rfl (by kernel_rfl) (by kernel_rfl) (by kernel_rfl) (fun _ _ _ h => h) (Or.inr ⟨by kernel_rfl, rfl⟩) trivial ?_
    refine wpAnyH_take (i := 12) (v := undef) rfl (by kernel_rfl) (by kernel_rfl) (by kernel_rfl) (fun _ _ _ h => h) (Or.inr ⟨by kernel_rfl, rfl⟩) trivial ?_
    refine wpAnyH_take (i := 13) (v := undef) rfl (by kernel_rfl) (by kernel_rfl) (by kernel_rfl) (fun _ _ _ h => h) (Or.inr ⟨by kernel_rfl, rfl⟩) trivial ?_
    refine wpAnyH_take (i := 14) (v := undef) rfl (by kernel_rfl) (by kernel_rfl) (by kernel_rfl) (fun _ _ _ h => h) (Or.inr ⟨by kernel_rfl, rfl⟩) trivial ?_
    refine wpAnyH_take (i := 15) (v := ?_) rfl (by kernel_rfl) (by kernel_rfl) (by kernel_rfl) (fun _ _ _ h => h) (Or.inl ⟨by kernel_rfl, ?_⟩) trivial ?_
    rotate_left 1
    · (intro w hS; clear hS; go_simp; try (with_reducible rfl))
    refine wpAnyH_take (i := 16) (v := ?_) rfl (by kernel_rfl) (by kernel_rfl) (by kernel_rfl) (fun _ _ _ h => h) (Or.inl ⟨by kernel_rfl, ?_⟩) trivial ?_
    rotate_left 1
    · (intro w hS; clear hS; go_simp; try (with_reducible rfl))
    refine wpAnyH_take (i := 17) (v := undef) rfl (by kernel_rfl) (by kernel_rfl) (by kernel_rfl) (fun _ _ _ h => h) (Or.inr ⟨by kernel_rfl, rfl⟩) trivial ?_
    refine wpAnyH_take (i := 18) (v := undef) rfl (by kernel_rfl) (by kernel_rfl) (by kernel_rfl) (fun _ _ _ h => h) (Or.inr ⟨by kernel_rfl, rfl⟩) trivial ?_
    refine wpAnyH_take (i := 19) (v := undef) rfl (by kernel_rfl) (by kernel_rfl) (by kernel_rfl) (fun _ _ _ h => h) (Or.inr ⟨by kernel_rfl, rfl⟩) trivial ?_
    refine wpAnyH_take (i := 20) (v := undef) rfl (by kernel_rfl) (by kernel_rfl) (by kernel_rfl) (fun _ _ _ h => h) (Or.inr ⟨by kernel_rfl, rfl⟩) trivial ?_
    refine wpAnyH_take (i := 21) (v := undef) rfl (by kernel_rfl) (by kernel_rfl) (by kernel_rfl) (fun _ _ _ h => h) (Or.inr ⟨by kernel_rfl, rfl⟩) trivial ?_
    refine wpAnyH_take (i := 22) (v := undef) rfl (by kernel_rfl) (by kernel_rfl) (by kernel_rfl) (fun _ _ _ h => h) (Or.inr ⟨by kernel_rfl, rfl⟩) trivial ?_
    refine wpAnyH_take (i := 23) (v := undef) rfl (by kernel_rfl) (by kernel_rfl) (by kernel_rfl) (fun _ _ _ h => h) (Or.inr ⟨by kernel_rfl, rfl⟩) trivial ?_
    refine wpAnyH_take (i := 24) (v := undef) rfl (by kernel_rfl) (by kernel_rfl) (by kernel_rfl) (fun _ _ _ h => h) (Or.inr ⟨by kernel_rfl, rfl⟩) trivial ?_
    refine wpAnyH_take (i := 25) (v := undef) rfl (by kernel_rfl) (by kernel_rfl) (by kernel_rfl) (fun _ _ _ h => h) (Or.inr ⟨by kernel_rfl, rfl⟩) trivial ?_
    refine wpAnyH_take (i := 26) (v := undef) rfl (by kernel_rfl) (by kernel_rfl) (by kernel_rfl) (fun _ _ _ h => h) (Or.inr ⟨by kernel_rfl, rfl⟩) trivial ?_
    refine wpAnyH_take (i := 27) (v := undef) rfl (by kernel_rfl) (by kernel_rfl) (by kernel_rfl) (fun _ _ _ h => h) (Or.inr ⟨by kernel_rfl, rfl⟩) trivial ?_
    refine wpAnyH_take (i := 28) (v := undef) rfl (by kernel_rfl) (by kernel_rfl) (by kernel_rfl) (fun _ _ _ h => h) (Or.inr ⟨by kernel_rfl, rfl⟩) trivial ?_
    refine wpAnyH_take (i := 29) (v := undef) rfl (by kernel_rfl) (by kernel_rfl) (by kernel_rfl) (fun _ _ _ h => h) (Or.inr ⟨by kernel_rfl, rfl⟩) trivial ?_
    refine wpAnyH_take (i := 30) (v := undef) rfl (by kernel_rfl) (by kernel_rfl) (by kernel_rfl) (fun _ _ _ h => h) (Or.inr ⟨by kernel_rfl, rfl⟩) trivial ?_
    refine wpAnyH_take (i := 31) (v := ?_) rfl (by kernel_rfl) (by kernel_rfl) (by kernel_rfl) (fun _ _ _ h => h) (Or.inl ⟨by kernel_rfl, ?_⟩) trivial ?_
    rotate_left 1
    · (intro w hS; clear hS; go_simp; try (with_reducible rfl))
    refine wpAnyH_done (by kernel_rfl) ?_ _
    go_simp
    go_wp2_with fail
    go_ret
    exact ⟨rfl, BE.out⟩
theorem refkey_any (xs zs : List Nat) (A B C : Option Addr) (m c m1 c1 m2 c2 : Nat) (w : World) (hx : xs.length = m) (hp : Sr w A xs) (hb : Bytes xs) (hc : m ≤ c) (hz : zs.length = m2) (hpz : Sr w C zs) (hzb : Bytes zs) (hz2 : m2 ≤ c2) (hm2 : m2 ≤ 300) :
    Calls Tryz.prog 32 #[.slice A m c, .slice B m1 c1, .slice C m2 c2] w fun e w' => e = .returned (.int .i64 (hverN xs : Nat)) ∧ Below w.heap.size w w' := by
  by_cases hm : m = 60
  · subst hm
    by_cases hv : val (xs.take 4) = 1 ∨ val (xs.take 4) = 2
    · cases hf : formN (xs.drop 4) with
      | false =>
        rw [hverN_no (show hform xs = false from decide_eq_false (fun q => by rw [hf] at q; exact absurd q.2.2.2 (by decide)))]
        exact refkey_bad xs A B C c m1 c1 m2 c2 w hx hp hb hc hv hf
      | true =>
        rw [show hverN xs = 3 by rw [hverN, show hform xs = true from decide_eq_true ⟨hx, by omega, by omega, hf⟩]; rfl]
        by_cases h4 : m2 < 4
        · exact refkey_short1 xs A B C c m1 c1 m2 c2 w hx hp hb hc hv hf h4
        · rcases hv with hv | hv
          · exact refkey_one xs zs A B C c m1 c1 m2 c2 w hx hp hb hc hv hf (by omega) hz hpz hzb hz2 hm2
          · exact refkey_two xs zs A B C c m1 c1 m2 c2 w hx hp hb hc hv hf (by omega) hz hpz hzb hz2 hm2
    · rw [hverN_no (show hform xs = false from decide_eq_false (fun q => by omega))]
      exact refkey_no xs A B C c m1 c1 m2 c2 w hx hp hb (by omega)
  · exact refkey_len xs A B C m c m1 c1 m2 c2 w hx hm
theorem hverify_any (xs : List Nat) (A B C : Option Addr) (m c m1 c1 m2 c2 : Nat) (w : World) (hx : xs.length = m) (hp : Sr w A xs) (hb : Bytes xs) (hk : KI w) (hml : m ≤ 9223372036854775807) (hm2 : m2 ≤ 300) :
    Calls Tryz.prog 31 #[.slice A m c, .slice B m1 c1, .slice C m2 c2] w fun e w' => e = .returned (.int .i64 (hverN xs : Nat)) ∧ Below w.heap.size w w' := by
  by_cases hm : m = 60
  · subst hm
    exact hverify_60 xs A B C c m1 c1 m2 c2 w hx hp hb hk hm2
  · rw [hverN_no (hform_len (by rw [hx]; exact hm))]
    exact hverify_len A B C m c m1 c1 m2 c2 w hm hml
end Go.Proofs.YtlaiblgnjppmnaaGreatDoor
