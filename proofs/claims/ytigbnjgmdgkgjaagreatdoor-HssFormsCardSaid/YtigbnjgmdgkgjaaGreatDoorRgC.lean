/-
  THE REFERENCE OF CHAPTER 4: Verify.
-/
import Derived.Test.YtigbnjgmdgkgjaaGreatDoorRgB
import Derived.Test.YtigbnjgmdgkgjaaGreatDoorLmT
namespace Go.Proofs.YtigbnjgmdgkgjaaGreatDoor
open Go Go.RowKit Sh

set_option maxRecDepth 100000 in
theorem refver_bad (xs : List Nat) (A B C : Option Addr) (m c m1 c1 m2 c2 : Nat) (w : World) (hx : xs.length = m) (hp : Sr w A xs) (hb : Bytes xs) (hml : m ≤ 9223372036854775807) (hc : m ≤ c) (hf : formN xs = false) :
    Calls Tryz.prog 51 #[.slice A m c, .slice B m1 c1, .slice C m2 c2] w fun e w' => e = .returned (.int .i64 2) ∧ Below w.heap.size w w' := by
  have FM := Lib.hid (refform_t xs A m c w hx hp hb hml hc)
  rw [hf] at FM
  clear hx hp hb hml hc hf
  go_enter Tryz.func51, Tryz.ntmps51
  go_wp2_with fail
  refine FM.out.mono ?_
  rintro e w1 ⟨rfl, b1⟩
  go_wp2_with fail
  go_ret
  exact ⟨rfl, b1⟩
theorem wid_of (xs : List Nat) (i : Nat) (hi : i < 4) (h : val xs = i + 1) : widN xs = (kd i).w := by
  unfold widN; rw [if_pos (by omega), h, Nat.add_sub_cancel]
/-- The first four bytes, and their number. -/
theorem four_val (zs : List Nat) (hl : 4 ≤ zs.length) : val (zs.take 4) = ((gt zs 0 * 256 + gt zs 1) * 256 + gt zs 2) * 256 + gt zs 3 := by
  match zs, hl with
  | a :: b :: c :: d :: l, _ => simp [val, gt]
set_option maxRecDepth 100000 in
set_option maxHeartbeats 4000000 in
theorem refver_len (xs zs : List Nat) (i : Nat) (A B C : Option Addr) (c m1 c1 m2 c2 : Nat) (w : World) (hx : xs.length = 56) (hp : Sr w A xs) (hb : Bytes xs) (hc : 56 ≤ c) (hf : formN xs = true) (hi : i < 4) (hvi : val ((xs.drop 4).take 4) = i + 1) (hz : zs.length = m2) (hpz : Sr w C zs) (hzb : Bytes zs) (_ : m2 ≤ c2) (_ : m2 ≤ 9223372036854775807) (hne : m2 ≠ lszN i) :
    Calls Tryz.prog 51 #[.slice A 56 c, .slice B m1 c1, .slice C m2 c2] w fun e w' => e = .returned (.int .i64 3) ∧ Below w.heap.size w w' := by
  have HNE := Lib.hid hne
  clear hne
  have HX := Lib.hid hx; have HP := Lib.hid hp; have HB := Lib.hid hb; have HZ := Lib.hid hz; have HPZ := Lib.hid hpz; have HZB := Lib.hid hzb
  have FM := Lib.hid (refform_t xs A 56 c w hx hp hb (by decide) hc)
  rw [hf] at FM
  have HT8 := Lib.hid (show ((xs.drop 4).take 4).length = 4 ∧ Bytes ((xs.drop 4).take 4) from ⟨by rw [List.length_take, List.length_drop]; omega, bytes_take (bytes_drop hb 4) 4⟩)
  obtain ⟨p2, hp2, hs8⟩ := slice_mid (P := Tryz.prog) (t := 27) (e := 5) Tryz.underlying27 byte_size A 56 c 4 8 (by omega) (by omega)
  rw [show ((4 : Nat) : Int) = 4 from rfl, show ((8 : Nat) : Int) = 8 from rfl, show 8 - 4 = 4 from rfl] at hs8
  have SP := Lib.hid (fun W (h : Sr W A xs) => show Sr W p2 ((xs.drop 4).take 4) from (h.drop (p2 := p2) (n := 4) (fun _ => hp2 (by omega))).take 4)
  obtain ⟨c8, hc8⟩ : ∃ x, c - 4 = x := ⟨_, rfl⟩
  rw [hc8] at hs8
  have CH := Lib.hid (fun W => refchains_t i hi W)
  have SZ := Lib.hid (fun W => refsize_t i hi W)
  have hp9 := kd_p i hi
  have HWD := Lib.hid (wid_of _ i hi hvi)
  have HLS := Lib.hid (show lszN i = 204 + 32 * (kd i).p from rfl)
  obtain ⟨p, hpp⟩ : ∃ p, (kd i).p = p := ⟨_, rfl⟩
  obtain ⟨v, hv⟩ : ∃ v, (kd i).w = v := ⟨_, rfl⟩
  obtain ⟨N, hN⟩ : ∃ x, lszN i = x := ⟨_, rfl⟩
  rw [hpp] at CH HLS hp9
  rw [hv] at CH SZ HWD
  rw [hN] at SZ HLS
  have HN := Lib.hid hN; have HPP := Lib.hid hpp; have HV := Lib.hid hv; have HVI := Lib.hid hvi; have HII := Lib.hid hi
  have e1 : IntKind.i64.wrap (32 * (p : Int)) = 32 * (p : Int) := IntWalk.i64_in _ (by omega)
  clear hx hp hb hz hpz hzb hf hp2 hc8 hpp hv hN hvi hi
  go_enter Tryz.func51, Tryz.ntmps51
  go_wp2_with fail
  refine FM.out.mono ?_
  rintro e w1 ⟨rfl, b1⟩
  have B1 := Lib.hid b1
  clear b1 FM
  go_wp2_with fail
  refine (refwidth_t ((xs.drop 4).take 4) p2 c8 w1 HT8.out.1 (SP.out _ (HP.out.below B1.out)) HT8.out.2).mono ?_
  rintro e w2 ⟨rfl, b2⟩
  have B2 := Lib.hid (B1.out.trans (b2.mono B1.out.size))
  rw [HWD.out]
  clear b2 B1 hs8 HWD
  go_wp2_with fail
  refine (CH.out _).mono ?_
  rintro e w3 ⟨rfl, rfl⟩
  go_upto_region 5 with (fail)
  have t0 : ((m2 : Int) != (N : Int)) = true := by rw [bne_iff_ne]; have h1 := HNE.out; rw [HN.out] at h1; omega
  have BD := Lib.hid (B2.out.trans ((Below.refl _ _).drew.mono B2.out.size))
  refine wp_region_held (S := fun _ => True) (by kernel_rfl) ?_
  change wpAnyH _ _ _ _ _ _ _ _ w2.drew
  obtain ⟨V, hV⟩ : ∃ V, w2.drew = V := ⟨_, rfl⟩
  rw [hV] at BD ⊢
  clear hV B2
  refine wpAnyH_take (i := 0) (v := ?_) rfl (by kernel_rfl) (by kernel_rfl) (by kernel_rfl) (fun _ _ _ h => h) (Or.inl ⟨by kernel_rfl, ?_⟩) trivial ?_
  rotate_left 1
  · (intro w hS; clear hS; go_simp; try (with_reducible rfl))
  refine wpAnyH_take (i := 1) (v := ?_) rfl (by kernel_rfl) (by kernel_rfl) (by kernel_rfl) (fun _ _ _ h => h) (Or.inl ⟨by kernel_rfl, ?_⟩) trivial ?_
  rotate_left 1
  · (intro w hS; clear hS; go_simp; try (with_reducible rfl))
  refine wpAnyH_take (i := 2) (v := ?_) rfl (by kernel_rfl) (by kernel_rfl) (by kernel_rfl) (fun _ _ _ h => h) (Or.inl ⟨by kernel_rfl, ?_⟩) trivial ?_
  rotate_left 1
  · (intro w hS; clear hS; go_simp; try (with_reducible rfl))
  refine wpAnyH_ready (rs := [3]) (by kernel_rfl) (by simp) ?_
  refine AllReadyH.cons rfl (fun K hK => ?_) AllReadyH.nil
  go_simp
  refine (SZ.out V).mono ?_
  rintro e w4 ⟨rfl, rfl⟩
  refine hK.out _ _ trivial (fun _ => ?_)
  clear hK K
  refine wpAnyH_take (i := 4) (v := ?_) rfl (by kernel_rfl) (by kernel_rfl) (by kernel_rfl) (fun _ _ _ h => h) (Or.inl ⟨by kernel_rfl, ?_⟩) trivial ?_
  rotate_left 1
  · (intro w hS; clear hS; go_simp; try (with_reducible rfl))
  refine wpAnyH_take (i := 5) (v := ?_) rfl (by kernel_rfl) (by kernel_rfl) (by kernel_rfl) (fun _ _ _ h => h) (Or.inl ⟨by kernel_rfl, ?_⟩) trivial ?_
  rotate_left 1
  · (intro w hS; clear hS; go_simp; try (with_reducible rfl))
  refine wpAnyH_take (i := 6) (v := undef) rfl (by kernel_rfl) (by kernel_rfl) (by kernel_rfl) (fun _ _ _ h => h) (Or.inr ⟨by kernel_rfl, rfl⟩) trivial ?_
  refine wpAnyH_take (i := 7) (v := undef) rfl (by kernel_rfl) (by kernel_rfl) (by kernel_rfl) (fun _ _ _ h => h) (Or.inr ⟨by kernel_rfl, rfl⟩) trivial ?_
  refine wpAnyH_take (i := 8) (v := undef) rfl (by kernel_rfl) (by kernel_rfl) (by kernel_rfl) (fun _ _ _ h => h) (Or.inr ⟨by kernel_rfl, rfl⟩) trivial ?_
  refine wpAnyH_take (i := 9) (v := undef) rfl (by kernel_rfl) (by kernel_rfl) (by kernel_rfl) (fun _ _ _ h => h) (Or.inr ⟨by kernel_rfl, rfl⟩) trivial ?_
  refine wpAnyH_take (i := 10) (v := undef) rfl (by kernel_rfl) (by kernel_rfl) (by kernel_rfl) (fun _ _ _ h => h) (Or.inr ⟨by kernel_rfl, rfl⟩) trivial ?_
  refine wpAnyH_take (i := 11) (v := undef) rfl (by kernel_rfl) (by kernel_rfl) (by kernel_rfl) (fun _ _ _ h => h) (Or.inr ⟨by kernel_rfl, rfl⟩) trivial ?_
  refine wpAnyH_take (i := 12) (v := undef) rfl (by kernel_rfl) (by kernel_rfl) (by kernel_rfl) (fun _ _ _ h => h) (Or.inr ⟨by kernel_rfl, rfl⟩) trivial ?_
  refine wpAnyH_take (i := 13) (v := undef) rfl (by kernel_rfl) (by kernel_rfl) (by kernel_rfl) (fun _ _ _ h => h) (Or.inr ⟨by kernel_rfl, rfl⟩) trivial ?_
  refine wpAnyH_take (i := 14) (v := undef) rfl (by kernel_rfl) (by kernel_rfl) (by kernel_rfl) (fun _ _ _ h => h) (Or.inr ⟨by kernel_rfl, rfl⟩) trivial ?_
  refine wpAnyH_take (i := 15) (v := ?_) rfl (by kernel_rfl) (by kernel_rfl) (by kernel_rfl) (fun _ _ _ h => h) (Or.inl ⟨by kernel_rfl, ?_⟩) trivial ?_
  rotate_left 1
  · (intro w hS; clear hS; go_simp; try (with_reducible rfl))
  refine wpAnyH_take (i := 16) (v := ?_) rfl (by kernel_rfl) (by kernel_rfl) (by kernel_rfl) (fun _ _ _ h => h) (Or.inl ⟨by kernel_rfl, ?_⟩) trivial ?_
  rotate_left 1
  · (intro w hS; clear hS; go_simp; try (with_reducible rfl))
  refine wpAnyH_take (i := 17) (v := undef) rfl (by kernel_rfl) (by kernel_rfl) (by kernel_rfl) (fun _ _ _ h => h) (Or.inr ⟨by kernel_rfl, rfl⟩) trivial ?_
  refine wpAnyH_take (i := 18) (v := undef) rfl (by kernel_rfl) (by kernel_rfl) (by kernel_rfl) (fun _ _ _ h => h) (Or.inr ⟨by kernel_rfl, rfl⟩) trivial ?_
  refine wpAnyH_take (i := 19) (v := undef) rfl (by kernel_rfl) (by kernel_rfl) (by kernel_rfl) (fun _ _ _ h => h) (Or.inr ⟨by kernel_rfl, rfl⟩) trivial ?_
  refine wpAnyH_take (i := 20) (v := undef) rfl (by kernel_rfl) (by kernel_rfl) (by kernel_rfl) (fun _ _ _ h => h) (Or.inr ⟨by kernel_rfl, rfl⟩) trivial ?_
  refine wpAnyH_take (i := 21) (v := ?_) rfl (by kernel_rfl) (by kernel_rfl) (by kernel_rfl) (fun _ _ _ h => h) (Or.inl ⟨by kernel_rfl, ?_⟩) trivial ?_
  rotate_left 1
  · (intro w hS; clear hS; go_simp; try (with_reducible rfl))
  refine wpAnyH_take (i := 22) (v := ?_) rfl (by kernel_rfl) (by kernel_rfl) (by kernel_rfl) (fun _ _ _ h => h) (Or.inl ⟨by kernel_rfl, ?_⟩) trivial ?_
  rotate_left 1
  · (intro w hS; clear hS; go_simp; try (with_reducible rfl))
  refine wpAnyH_take (i := 23) (v := undef) rfl (by kernel_rfl) (by kernel_rfl) (by kernel_rfl) (fun _ _ _ h => h) (Or.inr ⟨by kernel_rfl, rfl⟩) trivial ?_
  refine wpAnyH_take (i := 24) (v := undef) rfl (by kernel_rfl) (by kernel_rfl) (by kernel_rfl) (fun _ _ _ h => h) (Or.inr ⟨by kernel_rfl, rfl⟩) trivial ?_
  refine wpAnyH_take (i := 25) (v := undef) rfl (by kernel_rfl) (by kernel_rfl) (by kernel_rfl) (fun _ _ _ h => h) (Or.inr ⟨by kernel_rfl, rfl⟩) trivial ?_
  refine wpAnyH_take (i := 26) (v := undef) rfl (by kernel_rfl) (by kernel_rfl) (by kernel_rfl) (fun _ _ _ h => h) (Or.inr ⟨by kernel_rfl, rfl⟩) trivial ?_
  refine wpAnyH_take (i := 27) (v := ?_) rfl (by kernel_rfl) (by kernel_rfl) (by kernel_rfl) (fun _ _ _ h => h) (Or.inl ⟨by kernel_rfl, ?_⟩) trivial ?_
  rotate_left 1
  · (intro w hS; clear hS; go_simp; try (with_reducible rfl))
  refine wpAnyH_take (i := 28) (v := ?_) rfl (by kernel_rfl) (by kernel_rfl) (by kernel_rfl) (fun _ _ _ h => h) (Or.inl ⟨by kernel_rfl, ?_⟩) trivial ?_
  rotate_left 1
  · (intro w hS; clear hS; go_simp; try (with_reducible rfl))
  refine wpAnyH_take (i := 29) (v := undef) rfl (by kernel_rfl) (by kernel_rfl) (by kernel_rfl) (fun _ _ _ h => h) (Or.inr ⟨by kernel_rfl, rfl⟩) trivial ?_
  refine wpAnyH_take (i := 30) (v := undef) rfl (by kernel_rfl) (by kernel_rfl) (by kernel_rfl) (fun _ _ _ h => h) (Or.inr ⟨by kernel_rfl, rfl⟩) trivial ?_
  refine wpAnyH_take (i := 31) (v := undef) rfl (by kernel_rfl) (by kernel_rfl) (by kernel_rfl) (fun _ _ _ h => h) (Or.inr ⟨by kernel_rfl, rfl⟩) trivial ?_
  refine wpAnyH_take (i := 32) (v := undef) rfl (by kernel_rfl) (by kernel_rfl) (by kernel_rfl) (fun _ _ _ h => h) (Or.inr ⟨by kernel_rfl, rfl⟩) trivial ?_
  refine wpAnyH_take (i := 33) (v := ?_) rfl (by kernel_rfl) (by kernel_rfl) (by kernel_rfl) (fun _ _ _ h => h) (Or.inl ⟨by kernel_rfl, ?_⟩) trivial ?_
  rotate_left 1
  · (intro w hS; clear hS; go_simp; try (with_reducible rfl))
  refine wpAnyH_take (i := 34) (v := ?_) rfl (by kernel_rfl) (by kernel_rfl) (by kernel_rfl) (fun _ _ _ h => h) (Or.inl ⟨by kernel_rfl, ?_⟩) trivial ?_
  rotate_left 1
  · (intro w hS; clear hS; go_simp; try (with_reducible rfl))
  refine wpAnyH_take (i := 35) (v := undef) rfl (by kernel_rfl) (by kernel_rfl) (by kernel_rfl) (fun _ _ _ h => h) (Or.inr ⟨by kernel_rfl, rfl⟩) trivial ?_
  refine wpAnyH_take (i := 36) (v := undef) rfl (by kernel_rfl) (by kernel_rfl) (by kernel_rfl) (fun _ _ _ h => h) (Or.inr ⟨by kernel_rfl, rfl⟩) trivial ?_
  refine wpAnyH_take (i := 37) (v := undef) rfl (by kernel_rfl) (by kernel_rfl) (by kernel_rfl) (fun _ _ _ h => h) (Or.inr ⟨by kernel_rfl, rfl⟩) trivial ?_
  refine wpAnyH_take (i := 38) (v := undef) rfl (by kernel_rfl) (by kernel_rfl) (by kernel_rfl) (fun _ _ _ h => h) (Or.inr ⟨by kernel_rfl, rfl⟩) trivial ?_
  refine wpAnyH_take (i := 39) (v := ?_) rfl (by kernel_rfl) (by kernel_rfl) (by kernel_rfl) (fun _ _ _ h => h) (Or.inl ⟨by kernel_rfl, ?_⟩) trivial ?_
  rotate_left 1
  · (intro w hS; clear hS; go_simp; try (with_reducible rfl))
  refine wpAnyH_done (by kernel_rfl) ?_ _
  go_simp
  go_wp2_with fail
  go_ret
  exact ⟨rfl, BD.out⟩
set_option maxRecDepth 100000 in
set_option maxHeartbeats 4000000 in
theorem refver_form (xs zs : List Nat) (i : Nat) (A B C : Option Addr) (c m1 c1 m2 c2 : Nat) (w : World) (hx : xs.length = 56) (hp : Sr w A xs) (hb : Bytes xs) (hc : 56 ≤ c) (hf : formN xs = true) (hi : i < 4) (hvi : val ((xs.drop 4).take 4) = i + 1) (hz : zs.length = m2) (hpz : Sr w C zs) (hzb : Bytes zs) (hz2 : m2 ≤ c2) (_ : m2 ≤ 9223372036854775807) (heq : m2 = lszN i) (hno : val ((zs.drop (40 + 32 * (kd i).p)).take 4) ≠ 5) :
    Calls Tryz.prog 51 #[.slice A 56 c, .slice B m1 c1, .slice C m2 c2] w fun e w' => e = .returned (.int .i64 3) ∧ Below w.heap.size w w' := by
  have HEQ := Lib.hid heq; have HNO := Lib.hid hno
  clear heq hno
  have HX := Lib.hid hx; have HP := Lib.hid hp; have HB := Lib.hid hb; have HZ := Lib.hid hz; have HPZ := Lib.hid hpz; have HZB := Lib.hid hzb
  have FM := Lib.hid (refform_t xs A 56 c w hx hp hb (by decide) hc)
  rw [hf] at FM
  have HT8 := Lib.hid (show ((xs.drop 4).take 4).length = 4 ∧ Bytes ((xs.drop 4).take 4) from ⟨by rw [List.length_take, List.length_drop]; omega, bytes_take (bytes_drop hb 4) 4⟩)
  obtain ⟨p2, hp2, hs8⟩ := slice_mid (P := Tryz.prog) (t := 27) (e := 5) Tryz.underlying27 byte_size A 56 c 4 8 (by omega) (by omega)
  rw [show ((4 : Nat) : Int) = 4 from rfl, show ((8 : Nat) : Int) = 8 from rfl, show 8 - 4 = 4 from rfl] at hs8
  have SP := Lib.hid (fun W (h : Sr W A xs) => show Sr W p2 ((xs.drop 4).take 4) from (h.drop (p2 := p2) (n := 4) (fun _ => hp2 (by omega))).take 4)
  obtain ⟨c8, hc8⟩ : ∃ x, c - 4 = x := ⟨_, rfl⟩
  rw [hc8] at hs8
  have CH := Lib.hid (fun W => refchains_t i hi W)
  have SZ := Lib.hid (fun W => refsize_t i hi W)
  have hp9 := kd_p i hi
  have HWD := Lib.hid (wid_of _ i hi hvi)
  have HLS := Lib.hid (show lszN i = 204 + 32 * (kd i).p from rfl)
  obtain ⟨p, hpp⟩ : ∃ p, (kd i).p = p := ⟨_, rfl⟩
  obtain ⟨v, hv⟩ : ∃ v, (kd i).w = v := ⟨_, rfl⟩
  obtain ⟨N, hN⟩ : ∃ x, lszN i = x := ⟨_, rfl⟩
  rw [hpp] at CH HLS hp9
  rw [hv] at CH SZ HWD
  rw [hN] at SZ HLS
  have HN := Lib.hid hN; have HPP := Lib.hid hpp; have HV := Lib.hid hv; have HVI := Lib.hid hvi; have HII := Lib.hid hi
  have e1 : IntKind.i64.wrap (32 * (p : Int)) = 32 * (p : Int) := IntWalk.i64_in _ (by omega)
  clear hx hp hb hz hpz hzb hf hp2 hc8 hpp hv hN hvi hi
  go_enter Tryz.func51, Tryz.ntmps51
  go_wp2_with fail
  refine FM.out.mono ?_
  rintro e w1 ⟨rfl, b1⟩
  have B1 := Lib.hid b1
  clear b1 FM
  go_wp2_with fail
  refine (refwidth_t ((xs.drop 4).take 4) p2 c8 w1 HT8.out.1 (SP.out _ (HP.out.below B1.out)) HT8.out.2).mono ?_
  rintro e w2 ⟨rfl, b2⟩
  have B2 := Lib.hid (B1.out.trans (b2.mono B1.out.size))
  rw [HWD.out]
  clear b2 B1 hs8 HWD
  go_wp2_with fail
  refine (CH.out _).mono ?_
  rintro e w3 ⟨rfl, rfl⟩
  go_upto_region 5 with (fail)
  have t0 : ((m2 : Int) != (N : Int)) = false := by rw [bne_eq_false_iff_eq]; have h1 := HEQ.out; rw [HN.out] at h1; omega
  have hmp : m2 = 204 + 32 * p := by have h1 := HEQ.out; have h2 := HLS.out; rw [HN.out] at h1; omega
  have HMP := Lib.hid hmp
  have hcz := hz2
  obtain ⟨p3, hp3, hs3⟩ := slice_mid (P := Tryz.prog) (t := 27) (e := 5) Tryz.underlying27 byte_size C m2 c2 (40 + 32 * p) (44 + 32 * p) (by omega) (by omega)
  rw [show ((40 + 32 * p : Nat) : Int) = 4 + (36 + 32 * (p : Int)) by omega, show ((44 + 32 * p : Nat) : Int) = 8 + (36 + 32 * (p : Int)) by omega, show 44 + 32 * p - (40 + 32 * p) = 4 by omega] at hs3
  have SP3 := Lib.hid (fun W (h : Sr W C zs) => show Sr W p3 ((zs.drop (40 + 32 * p)).take 4) from (h.drop (p2 := p3) (n := 40 + 32 * p) (fun _ => hp3 (by omega))).take 4)
  obtain ⟨c3, hc3⟩ : ∃ x, c2 - (40 + 32 * p) = x := ⟨_, rfl⟩
  rw [hc3] at hs3
  have HT3 := Lib.hid (show ((zs.drop (40 + 32 * p)).take 4).length = 4 ∧ Bytes ((zs.drop (40 + 32 * p)).take 4) from ⟨by rw [List.length_take, List.length_drop, HZ.out]; omega, bytes_take (bytes_drop HZB.out _) 4⟩)
  have HC5 := Lib.hid (code_eq (zs.drop (40 + 32 * p)) 5 (by rw [List.length_drop, HZ.out]; omega) (bytes_drop HZB.out _) (by omega))
  clear hmp hp3 hc3 hcz
  have BD := Lib.hid (B2.out.trans ((Below.refl _ _).drew.mono B2.out.size))
  have ew4 : IntKind.i64.wrap (4 + (36 + 32 * (p : Int))) = 4 + (36 + 32 * (p : Int)) := IntWalk.i64_in _ (by omega)
  have ew8 : IntKind.i64.wrap (8 + (36 + 32 * (p : Int))) = 8 + (36 + 32 * (p : Int)) := IntWalk.i64_in _ (by omega)
  rw [HPP.out] at HNO
  refine wp_region_held (S := fun _ => True) (by kernel_rfl) ?_
  change wpAnyH _ _ _ _ _ _ _ _ w2.drew
  obtain ⟨V, hV⟩ : ∃ V, w2.drew = V := ⟨_, rfl⟩
  rw [hV] at BD ⊢
  clear hV B2
  have r1 := trivial
  refine wpAnyH_take (i := 0) (v := ?_) rfl (by kernel_rfl) (by kernel_rfl) (by kernel_rfl) (fun _ _ _ h => h) (Or.inl ⟨by kernel_rfl, ?_⟩) r1 ?_
  rotate_left 1
  · (intro w hS; clear hS; go_simp; try (with_reducible rfl))
  refine wpAnyH_take (i := 1) (v := ?_) rfl (by kernel_rfl) (by kernel_rfl) (by kernel_rfl) (fun _ _ _ h => h) (Or.inl ⟨by kernel_rfl, ?_⟩) r1 ?_
  rotate_left 1
  · (intro w hS; clear hS; go_simp; try (with_reducible rfl))
  refine wpAnyH_take (i := 2) (v := ?_) rfl (by kernel_rfl) (by kernel_rfl) (by kernel_rfl) (fun _ _ _ h => h) (Or.inl ⟨by kernel_rfl, ?_⟩) r1 ?_
  rotate_left 1
  · (intro w hS; clear hS; go_simp; try (with_reducible rfl))
  refine wpAnyH_ready (rs := [3]) (by kernel_rfl) (by simp) ?_
  refine AllReadyH.cons rfl (fun K hK => ?_) AllReadyH.nil
  go_simp
  refine (SZ.out V).mono ?_
  rintro e w4 ⟨rfl, rfl⟩
  refine hK.out _ _ r1 (fun _ => ?_)
  clear hK K
  refine wpAnyH_take (i := 4) (v := ?_) rfl (by kernel_rfl) (by kernel_rfl) (by kernel_rfl) (fun _ _ _ h => h) (Or.inl ⟨by kernel_rfl, ?_⟩) r1 ?_
  rotate_left 1
  · (intro w hS; clear hS; go_simp; try (with_reducible rfl))
  refine wpAnyH_take (i := 5) (v := ?_) rfl (by kernel_rfl) (by kernel_rfl) (by kernel_rfl) (fun _ _ _ h => h) (Or.inl ⟨by kernel_rfl, ?_⟩) r1 ?_
  rotate_left 1
  · (intro w hS; clear hS; go_simp; try (with_reducible rfl))
  refine wpAnyH_take (i := 6) (v := ?_) rfl (by kernel_rfl) (by kernel_rfl) (by kernel_rfl) (fun _ _ _ h => h) (Or.inl ⟨by kernel_rfl, ?_⟩) r1 ?_
  rotate_left 1
  · (intro w hS; clear hS; go_simp; try (with_reducible rfl))
  refine wpAnyH_take (i := 7) (v := ?_) rfl (by kernel_rfl) (by kernel_rfl) (by kernel_rfl) (fun _ _ _ h => h) (Or.inl ⟨by kernel_rfl, ?_⟩) r1 ?_
  rotate_left 1
  · (intro w hS; clear hS; go_simp; try (with_reducible rfl))
  refine wpAnyH_take (i := 8) (v := ?_) rfl (by kernel_rfl) (by kernel_rfl) (by kernel_rfl) (fun _ _ _ h => h) (Or.inl ⟨by kernel_rfl, ?_⟩) r1 ?_
  rotate_left 1
  · (intro w hS; clear hS; go_simp; try (with_reducible rfl))
  refine wpAnyH_take (i := 9) (v := ?_) rfl (by kernel_rfl) (by kernel_rfl) (by kernel_rfl) (fun _ _ _ h => h) (Or.inl ⟨by kernel_rfl, ?_⟩) r1 ?_
  rotate_left 1
  · (intro w hS; clear hS; go_simp; try (with_reducible rfl))
  refine wpAnyH_take (i := 10) (v := ?_) rfl (by kernel_rfl) (by kernel_rfl) (by kernel_rfl) (fun _ _ _ h => h) (Or.inl ⟨by kernel_rfl, ?_⟩) r1 ?_
  rotate_left 1
  · (intro w hS; clear hS; go_simp; try (with_reducible rfl))
  refine wpAnyH_take (i := 11) (v := ?_) rfl (by kernel_rfl) (by kernel_rfl) (by kernel_rfl) (fun _ _ _ h => h) (Or.inl ⟨by kernel_rfl, ?_⟩) r1 ?_
  rotate_left 1
  · (intro w hS; clear hS; go_simp; try (with_reducible rfl))
  refine wpAnyH_ready (rs := [12]) (by kernel_rfl) (by simp) ?_
  refine AllReadyH.cons rfl (fun K hK => ?_) AllReadyH.nil
  go_simp
  refine (refnum_t 5 4 V (by decide) (by decide)).mono ?_
  rintro e w5 ⟨u, rfl, f5⟩
  obtain ⟨A5, c5, rfl, hc5, s5, b5⟩ := fresh_op f5
  rw [beN_length] at hc5 ⊢
  have B5 := Lib.hid (BD.out.trans (b5.mono BD.out.size)); have S5 := Lib.hid s5
  have r5 := trivial
  clear f5 hc5 s5 b5 BD
  refine hK.out _ _ r5 (fun _ => ?_)
  clear hK K
  refine wpAnyH_ready (rs := [13]) (by kernel_rfl) (by simp) ?_
  refine AllReadyH.cons rfl (fun K hK => ?_) AllReadyH.nil
  go_simp
  refine (same_texts ((zs.drop (40 + 32 * p)).take 4) (beN 5 4) p3 A5 4 4 c3 c5 w5 HT3.out.1 (beN_length _ _) (SP3.out _ (HPZ.out.below B5.out)) S5.out HT3.out.2 (beN_bytes _ _)).mono ?_
  rintro e w6 ⟨rfl, rfl⟩
  rw [show decide ((zs.drop (40 + 32 * p)).take 4 = beN 5 4) = false from decide_eq_false (fun h => HNO.out (HC5.out.1 h))]
  refine hK.out _ _ r5 (fun _ => ?_)
  clear hK K
  refine wpAnyH_take (i := 14) (v := ?_) rfl (by kernel_rfl) (by kernel_rfl) (by kernel_rfl) (fun _ _ _ h => h) (Or.inl ⟨by kernel_rfl, ?_⟩) r5 ?_
  rotate_left 1
  · (intro w hS; clear hS; go_simp; try (with_reducible rfl))
  refine wpAnyH_take (i := 15) (v := ?_) rfl (by kernel_rfl) (by kernel_rfl) (by kernel_rfl) (fun _ _ _ h => h) (Or.inl ⟨by kernel_rfl, ?_⟩) r5 ?_
  rotate_left 1
  · (intro w hS; clear hS; go_simp; try (with_reducible rfl))
  refine wpAnyH_take (i := 16) (v := ?_) rfl (by kernel_rfl) (by kernel_rfl) (by kernel_rfl) (fun _ _ _ h => h) (Or.inl ⟨by kernel_rfl, ?_⟩) r5 ?_
  rotate_left 1
  · (intro w hS; clear hS; go_simp; try (with_reducible rfl))
  refine wpAnyH_take (i := 17) (v := undef) rfl (by kernel_rfl) (by kernel_rfl) (by kernel_rfl) (fun _ _ _ h => h) (Or.inr ⟨by kernel_rfl, rfl⟩) r5 ?_
  refine wpAnyH_take (i := 18) (v := undef) rfl (by kernel_rfl) (by kernel_rfl) (by kernel_rfl) (fun _ _ _ h => h) (Or.inr ⟨by kernel_rfl, rfl⟩) r5 ?_
  refine wpAnyH_take (i := 19) (v := undef) rfl (by kernel_rfl) (by kernel_rfl) (by kernel_rfl) (fun _ _ _ h => h) (Or.inr ⟨by kernel_rfl, rfl⟩) r5 ?_
  refine wpAnyH_take (i := 20) (v := undef) rfl (by kernel_rfl) (by kernel_rfl) (by kernel_rfl) (fun _ _ _ h => h) (Or.inr ⟨by kernel_rfl, rfl⟩) r5 ?_
  refine wpAnyH_take (i := 21) (v := ?_) rfl (by kernel_rfl) (by kernel_rfl) (by kernel_rfl) (fun _ _ _ h => h) (Or.inl ⟨by kernel_rfl, ?_⟩) r5 ?_
  rotate_left 1
  · (intro w hS; clear hS; go_simp; try (with_reducible rfl))
  refine wpAnyH_take (i := 22) (v := ?_) rfl (by kernel_rfl) (by kernel_rfl) (by kernel_rfl) (fun _ _ _ h => h) (Or.inl ⟨by kernel_rfl, ?_⟩) r5 ?_
  rotate_left 1
  · (intro w hS; clear hS; go_simp; try (with_reducible rfl))
  refine wpAnyH_take (i := 23) (v := undef) rfl (by kernel_rfl) (by kernel_rfl) (by kernel_rfl) (fun _ _ _ h => h) (Or.inr ⟨by kernel_rfl, rfl⟩) r5 ?_
  refine wpAnyH_take (i := 24) (v := undef) rfl (by kernel_rfl) (by kernel_rfl) (by kernel_rfl) (fun _ _ _ h => h) (Or.inr ⟨by kernel_rfl, rfl⟩) r5 ?_
  refine wpAnyH_take (i := 25) (v := undef) rfl (by kernel_rfl) (by kernel_rfl) (by kernel_rfl) (fun _ _ _ h => h) (Or.inr ⟨by kernel_rfl, rfl⟩) r5 ?_
  refine wpAnyH_take (i := 26) (v := undef) rfl (by kernel_rfl) (by kernel_rfl) (by kernel_rfl) (fun _ _ _ h => h) (Or.inr ⟨by kernel_rfl, rfl⟩) r5 ?_
  refine wpAnyH_take (i := 27) (v := ?_) rfl (by kernel_rfl) (by kernel_rfl) (by kernel_rfl) (fun _ _ _ h => h) (Or.inl ⟨by kernel_rfl, ?_⟩) r5 ?_
  rotate_left 1
  · (intro w hS; clear hS; go_simp; try (with_reducible rfl))
  refine wpAnyH_take (i := 28) (v := ?_) rfl (by kernel_rfl) (by kernel_rfl) (by kernel_rfl) (fun _ _ _ h => h) (Or.inl ⟨by kernel_rfl, ?_⟩) r5 ?_
  rotate_left 1
  · (intro w hS; clear hS; go_simp; try (with_reducible rfl))
  refine wpAnyH_take (i := 29) (v := undef) rfl (by kernel_rfl) (by kernel_rfl) (by kernel_rfl) (fun _ _ _ h => h) (Or.inr ⟨by kernel_rfl, rfl⟩) r5 ?_
  refine wpAnyH_take (i := 30) (v := undef) rfl (by kernel_rfl) (by kernel_rfl) (by kernel_rfl) (fun _ _ _ h => h) (Or.inr ⟨by kernel_rfl, rfl⟩) r5 ?_
  refine wpAnyH_take (i := 31) (v := undef) rfl (by kernel_rfl) (by kernel_rfl) (by kernel_rfl) (fun _ _ _ h => h) (Or.inr ⟨by kernel_rfl, rfl⟩) r5 ?_
  refine wpAnyH_take (i := 32) (v := undef) rfl (by kernel_rfl) (by kernel_rfl) (by kernel_rfl) (fun _ _ _ h => h) (Or.inr ⟨by kernel_rfl, rfl⟩) r5 ?_
  refine wpAnyH_take (i := 33) (v := ?_) rfl (by kernel_rfl) (by kernel_rfl) (by kernel_rfl) (fun _ _ _ h => h) (Or.inl ⟨by kernel_rfl, ?_⟩) r5 ?_
  rotate_left 1
  · (intro w hS; clear hS; go_simp; try (with_reducible rfl))
  refine wpAnyH_take (i := 34) (v := ?_) rfl (by kernel_rfl) (by kernel_rfl) (by kernel_rfl) (fun _ _ _ h => h) (Or.inl ⟨by kernel_rfl, ?_⟩) r5 ?_
  rotate_left 1
  · (intro w hS; clear hS; go_simp; try (with_reducible rfl))
  refine wpAnyH_take (i := 35) (v := undef) rfl (by kernel_rfl) (by kernel_rfl) (by kernel_rfl) (fun _ _ _ h => h) (Or.inr ⟨by kernel_rfl, rfl⟩) r5 ?_
  refine wpAnyH_take (i := 36) (v := undef) rfl (by kernel_rfl) (by kernel_rfl) (by kernel_rfl) (fun _ _ _ h => h) (Or.inr ⟨by kernel_rfl, rfl⟩) r5 ?_
  refine wpAnyH_take (i := 37) (v := undef) rfl (by kernel_rfl) (by kernel_rfl) (by kernel_rfl) (fun _ _ _ h => h) (Or.inr ⟨by kernel_rfl, rfl⟩) r5 ?_
  refine wpAnyH_take (i := 38) (v := undef) rfl (by kernel_rfl) (by kernel_rfl) (by kernel_rfl) (fun _ _ _ h => h) (Or.inr ⟨by kernel_rfl, rfl⟩) r5 ?_
  refine wpAnyH_take (i := 39) (v := ?_) rfl (by kernel_rfl) (by kernel_rfl) (by kernel_rfl) (fun _ _ _ h => h) (Or.inl ⟨by kernel_rfl, ?_⟩) r5 ?_
  rotate_left 1
  · (intro w hS; clear hS; go_simp; try (with_reducible rfl))
  refine wpAnyH_done (by kernel_rfl) ?_ _
  go_simp
  go_wp2_with fail
  go_ret
  exact ⟨rfl, B5.out⟩
/-- The first four bytes of a slice, as its region's loads read them. -/
def Four (X : World) (b o : Nat) (s0 s1 s2 s3 : Nat) : Prop :=
  X.cell? ⟨b, o, none⟩ = some (.int .u8 (s0 : Int)) ∧ X.cell? ⟨b, o + 1, none⟩ = some (.int .u8 (s1 : Int)) ∧ X.cell? ⟨b, o + 2, none⟩ = some (.int .u8 (s2 : Int)) ∧ X.cell? ⟨b, o + 3, none⟩ = some (.int .u8 (s3 : Int))
theorem four_at {X : World} {b o : Nat} {zs : List Nat} (h : Sr X (some ⟨b, o, none⟩) zs) (hl : 4 ≤ zs.length) : Four X b o (gt zs 0) (gt zs 1) (gt zs 2) (gt zs 3) := by
  obtain ⟨b', o', e, _, hc⟩ := h (by omega)
  injection e with e
  injection e with e1 e2
  subst e1; subst e2
  exact ⟨hc 0 (by omega), hc 1 (by omega), hc 2 (by omega), hc 3 (by omega)⟩
set_option maxRecDepth 100000 in
set_option maxHeartbeats 4000000 in
theorem refver_q (xs zs : List Nat) (i : Nat) (A B C : Option Addr) (c m1 c1 m2 c2 : Nat) (w : World) (hx : xs.length = 56) (hp : Sr w A xs) (hb : Bytes xs) (hc : 56 ≤ c) (hf : formN xs = true) (hi : i < 4) (hvi : val ((xs.drop 4).take 4) = i + 1) (hz : zs.length = m2) (hpz : Sr w C zs) (hzb : Bytes zs) (hz2 : m2 ≤ c2) (hml2 : m2 ≤ 9223372036854775807) (heq : m2 = lszN i) (hyes : val ((zs.drop (40 + 32 * (kd i).p)).take 4) = 5) (hq : 32 ≤ val (zs.take 4)) :
    Calls Tryz.prog 51 #[.slice A 56 c, .slice B m1 c1, .slice C m2 c2] w fun e w' => e = .returned (.int .i64 3) ∧ Below w.heap.size w w' := by
  have HEQ := Lib.hid heq; have HC5Y := Lib.hid hyes; have HQ := Lib.hid hq
  clear heq hyes hq
  have HX := Lib.hid hx; have HP := Lib.hid hp; have HB := Lib.hid hb; have HZ := Lib.hid hz; have HPZ := Lib.hid hpz; have HZB := Lib.hid hzb
  have FM := Lib.hid (refform_t xs A 56 c w hx hp hb (by decide) hc)
  rw [hf] at FM
  have HT8 := Lib.hid (show ((xs.drop 4).take 4).length = 4 ∧ Bytes ((xs.drop 4).take 4) from ⟨by rw [List.length_take, List.length_drop]; omega, bytes_take (bytes_drop hb 4) 4⟩)
  obtain ⟨p2, hp2, hs8⟩ := slice_mid (P := Tryz.prog) (t := 27) (e := 5) Tryz.underlying27 byte_size A 56 c 4 8 (by omega) (by omega)
  rw [show ((4 : Nat) : Int) = 4 from rfl, show ((8 : Nat) : Int) = 8 from rfl, show 8 - 4 = 4 from rfl] at hs8
  have SP := Lib.hid (fun W (h : Sr W A xs) => show Sr W p2 ((xs.drop 4).take 4) from (h.drop (p2 := p2) (n := 4) (fun _ => hp2 (by omega))).take 4)
  obtain ⟨c8, hc8⟩ : ∃ x, c - 4 = x := ⟨_, rfl⟩
  rw [hc8] at hs8
  have CH := Lib.hid (fun W => refchains_t i hi W)
  have SZ := Lib.hid (fun W => refsize_t i hi W)
  have hp9 := kd_p i hi
  have HWD := Lib.hid (wid_of _ i hi hvi)
  have HLS := Lib.hid (show lszN i = 204 + 32 * (kd i).p from rfl)
  obtain ⟨p, hpp⟩ : ∃ p, (kd i).p = p := ⟨_, rfl⟩
  obtain ⟨v, hv⟩ : ∃ v, (kd i).w = v := ⟨_, rfl⟩
  obtain ⟨N, hN⟩ : ∃ x, lszN i = x := ⟨_, rfl⟩
  rw [hpp] at CH HLS hp9
  rw [hv] at CH SZ HWD
  rw [hN] at SZ HLS
  have HN := Lib.hid hN; have HPP := Lib.hid hpp; have HV := Lib.hid hv; have HVI := Lib.hid hvi; have HII := Lib.hid hi
  have e1 : IntKind.i64.wrap (32 * (p : Int)) = 32 * (p : Int) := IntWalk.i64_in _ (by omega)
  clear hx hp hb hz hpz hzb hf hp2 hc8 hpp hv hN hvi hi
  go_enter Tryz.func51, Tryz.ntmps51
  go_wp2_with fail
  refine FM.out.mono ?_
  rintro e w1 ⟨rfl, b1⟩
  have B1 := Lib.hid b1
  clear b1 FM
  go_wp2_with fail
  refine (refwidth_t ((xs.drop 4).take 4) p2 c8 w1 HT8.out.1 (SP.out _ (HP.out.below B1.out)) HT8.out.2).mono ?_
  rintro e w2 ⟨rfl, b2⟩
  have B2 := Lib.hid (B1.out.trans (b2.mono B1.out.size))
  rw [HWD.out]
  clear b2 B1 hs8 HWD
  go_wp2_with fail
  refine (CH.out _).mono ?_
  rintro e w3 ⟨rfl, rfl⟩
  go_upto_region 5 with (fail)
  have t0 : ((m2 : Int) != (N : Int)) = false := by rw [bne_eq_false_iff_eq]; have h1 := HEQ.out; rw [HN.out] at h1; omega
  have hmp : m2 = 204 + 32 * p := by have h1 := HEQ.out; have h2 := HLS.out; rw [HN.out] at h1; omega
  have HMP := Lib.hid hmp
  have hcz := hz2
  obtain ⟨p3, hp3, hs3⟩ := slice_mid (P := Tryz.prog) (t := 27) (e := 5) Tryz.underlying27 byte_size C m2 c2 (40 + 32 * p) (44 + 32 * p) (by omega) (by omega)
  rw [show ((40 + 32 * p : Nat) : Int) = 4 + (36 + 32 * (p : Int)) by omega, show ((44 + 32 * p : Nat) : Int) = 8 + (36 + 32 * (p : Int)) by omega, show 44 + 32 * p - (40 + 32 * p) = 4 by omega] at hs3
  have SP3 := Lib.hid (fun W (h : Sr W C zs) => show Sr W p3 ((zs.drop (40 + 32 * p)).take 4) from (h.drop (p2 := p3) (n := 40 + 32 * p) (fun _ => hp3 (by omega))).take 4)
  obtain ⟨c3, hc3⟩ : ∃ x, c2 - (40 + 32 * p) = x := ⟨_, rfl⟩
  rw [hc3] at hs3
  have HT3 := Lib.hid (show ((zs.drop (40 + 32 * p)).take 4).length = 4 ∧ Bytes ((zs.drop (40 + 32 * p)).take 4) from ⟨by rw [List.length_take, List.length_drop, HZ.out]; omega, bytes_take (bytes_drop HZB.out _) 4⟩)
  have HC5 := Lib.hid (code_eq (zs.drop (40 + 32 * p)) 5 (by rw [List.length_drop, HZ.out]; omega) (bytes_drop HZB.out _) (by omega))
  clear hmp hp3 hc3 hcz
  have BD := Lib.hid (B2.out.trans ((Below.refl _ _).drew.mono B2.out.size))
  have ew4 : IntKind.i64.wrap (4 + (36 + 32 * (p : Int))) = 4 + (36 + 32 * (p : Int)) := IntWalk.i64_in _ (by omega)
  have ew8 : IntKind.i64.wrap (8 + (36 + 32 * (p : Int))) = 8 + (36 + 32 * (p : Int)) := IntWalk.i64_in _ (by omega)
  rw [HPP.out] at HC5Y
  obtain ⟨bc, oc, hce, hcl, _⟩ := HPZ.out (by have h1 := HZ.out; have h2 := HMP.out; omega)
  subst hce
  have RC := Lib.hid (fun X (h : Below w.heap.size w X) => four_at (HPZ.out.below h) (by have h1 := HZ.out; have h2 := HMP.out; omega))
  have HQV := Lib.hid (four_val zs (by have h1 := HZ.out; have h2 := HMP.out; omega))
  have m0g : 0 < m2 := by have h2 := HMP.out; omega
  have m1g : (1 : Int) < (m2 : Int) := by have h2 := HMP.out; omega
  have m2g : (2 : Int) < (m2 : Int) := by have h2 := HMP.out; omega
  have m3g : (3 : Int) < (m2 : Int) := by have h2 := HMP.out; omega
  obtain ⟨s0, hs0⟩ : ∃ x, gt zs 0 = x := ⟨_, rfl⟩
  obtain ⟨s1, hs1⟩ : ∃ x, gt zs 1 = x := ⟨_, rfl⟩
  obtain ⟨s2, hs2⟩ : ∃ x, gt zs 2 = x := ⟨_, rfl⟩
  obtain ⟨s3, hs3q⟩ : ∃ x, gt zs 3 = x := ⟨_, rfl⟩
  rw [hs0, hs1, hs2, hs3q] at RC HQV
  clear hs0 hs1 hs2 hs3q hcl
  refine wp_region_held (S := fun X => Four X bc oc s0 s1 s2 s3) (by kernel_rfl) ?_
  change wpAnyH _ _ _ _ _ _ _ _ w2.drew
  obtain ⟨V, hV⟩ : ∃ V, w2.drew = V := ⟨_, rfl⟩
  rw [hV] at BD ⊢
  clear hV B2
  have r1 := RC.out _ BD.out
  refine wpAnyH_take (i := 0) (v := ?_) rfl (by kernel_rfl) (by kernel_rfl) (by kernel_rfl) (fun _ _ _ h => h) (Or.inl ⟨by kernel_rfl, ?_⟩) r1 ?_
  rotate_left 1
  · (intro w hS; clear hS; go_simp; try (with_reducible rfl))
  refine wpAnyH_take (i := 1) (v := ?_) rfl (by kernel_rfl) (by kernel_rfl) (by kernel_rfl) (fun _ _ _ h => h) (Or.inl ⟨by kernel_rfl, ?_⟩) r1 ?_
  rotate_left 1
  · (intro w hS; clear hS; go_simp; try (with_reducible rfl))
  refine wpAnyH_take (i := 2) (v := ?_) rfl (by kernel_rfl) (by kernel_rfl) (by kernel_rfl) (fun _ _ _ h => h) (Or.inl ⟨by kernel_rfl, ?_⟩) r1 ?_
  rotate_left 1
  · (intro w hS; clear hS; go_simp; try (with_reducible rfl))
  refine wpAnyH_ready (rs := [3]) (by kernel_rfl) (by simp) ?_
  refine AllReadyH.cons rfl (fun K hK => ?_) AllReadyH.nil
  go_simp
  refine (SZ.out V).mono ?_
  rintro e w4 ⟨rfl, rfl⟩
  refine hK.out _ _ r1 (fun _ => ?_)
  clear hK K
  refine wpAnyH_take (i := 4) (v := ?_) rfl (by kernel_rfl) (by kernel_rfl) (by kernel_rfl) (fun _ _ _ h => h) (Or.inl ⟨by kernel_rfl, ?_⟩) r1 ?_
  rotate_left 1
  · (intro w hS; clear hS; go_simp; try (with_reducible rfl))
  refine wpAnyH_take (i := 5) (v := ?_) rfl (by kernel_rfl) (by kernel_rfl) (by kernel_rfl) (fun _ _ _ h => h) (Or.inl ⟨by kernel_rfl, ?_⟩) r1 ?_
  rotate_left 1
  · (intro w hS; clear hS; go_simp; try (with_reducible rfl))
  refine wpAnyH_take (i := 6) (v := ?_) rfl (by kernel_rfl) (by kernel_rfl) (by kernel_rfl) (fun _ _ _ h => h) (Or.inl ⟨by kernel_rfl, ?_⟩) r1 ?_
  rotate_left 1
  · (intro w hS; clear hS; go_simp; try (with_reducible rfl))
  refine wpAnyH_take (i := 7) (v := ?_) rfl (by kernel_rfl) (by kernel_rfl) (by kernel_rfl) (fun _ _ _ h => h) (Or.inl ⟨by kernel_rfl, ?_⟩) r1 ?_
  rotate_left 1
  · (intro w hS; clear hS; go_simp; try (with_reducible rfl))
  refine wpAnyH_take (i := 8) (v := ?_) rfl (by kernel_rfl) (by kernel_rfl) (by kernel_rfl) (fun _ _ _ h => h) (Or.inl ⟨by kernel_rfl, ?_⟩) r1 ?_
  rotate_left 1
  · (intro w hS; clear hS; go_simp; try (with_reducible rfl))
  refine wpAnyH_take (i := 9) (v := ?_) rfl (by kernel_rfl) (by kernel_rfl) (by kernel_rfl) (fun _ _ _ h => h) (Or.inl ⟨by kernel_rfl, ?_⟩) r1 ?_
  rotate_left 1
  · (intro w hS; clear hS; go_simp; try (with_reducible rfl))
  refine wpAnyH_take (i := 10) (v := ?_) rfl (by kernel_rfl) (by kernel_rfl) (by kernel_rfl) (fun _ _ _ h => h) (Or.inl ⟨by kernel_rfl, ?_⟩) r1 ?_
  rotate_left 1
  · (intro w hS; clear hS; go_simp; try (with_reducible rfl))
  refine wpAnyH_take (i := 11) (v := ?_) rfl (by kernel_rfl) (by kernel_rfl) (by kernel_rfl) (fun _ _ _ h => h) (Or.inl ⟨by kernel_rfl, ?_⟩) r1 ?_
  rotate_left 1
  · (intro w hS; clear hS; go_simp; try (with_reducible rfl))
  refine wpAnyH_ready (rs := [12]) (by kernel_rfl) (by simp) ?_
  refine AllReadyH.cons rfl (fun K hK => ?_) AllReadyH.nil
  go_simp
  refine (refnum_t 5 4 V (by decide) (by decide)).mono ?_
  rintro e w5 ⟨u, rfl, f5⟩
  obtain ⟨A5, c5, rfl, hc5, s5, b5⟩ := fresh_op f5
  rw [beN_length] at hc5 ⊢
  have B5 := Lib.hid (BD.out.trans (b5.mono BD.out.size)); have S5 := Lib.hid s5
  have r5 := RC.out _ B5.out
  clear f5 hc5 s5 b5 BD
  refine hK.out _ _ r5 (fun _ => ?_)
  clear hK K
  refine wpAnyH_ready (rs := [13]) (by kernel_rfl) (by simp) ?_
  refine AllReadyH.cons rfl (fun K hK => ?_) AllReadyH.nil
  go_simp
  refine (same_texts ((zs.drop (40 + 32 * p)).take 4) (beN 5 4) p3 A5 4 4 c3 c5 w5 HT3.out.1 (beN_length _ _) (SP3.out _ (HPZ.out.below B5.out)) S5.out HT3.out.2 (beN_bytes _ _)).mono ?_
  rintro e w6 ⟨rfl, rfl⟩
  rw [show decide ((zs.drop (40 + 32 * p)).take 4 = beN 5 4) = true from decide_eq_true (HC5.out.2 HC5Y.out)]
  refine hK.out _ _ r5 (fun _ => ?_)
  clear hK K
  refine wpAnyH_take (i := 14) (v := ?_) rfl (by kernel_rfl) (by kernel_rfl) (by kernel_rfl) (fun _ _ _ h => h) (Or.inl ⟨by kernel_rfl, ?_⟩) r5 ?_
  rotate_left 1
  · (intro w hS; clear hS; go_simp; try (with_reducible rfl))
  refine wpAnyH_take (i := 15) (v := ?_) rfl (by kernel_rfl) (by kernel_rfl) (by kernel_rfl) (fun _ _ _ h => h) (Or.inl ⟨by kernel_rfl, ?_⟩) r5 ?_
  rotate_left 1
  · (intro w hS; clear hS; go_simp; try (with_reducible rfl))
  refine wpAnyH_take (i := 16) (v := ?_) rfl (by kernel_rfl) (by kernel_rfl) (by kernel_rfl) (fun _ _ _ h => h) (Or.inl ⟨by kernel_rfl, ?_⟩) r5 ?_
  rotate_left 1
  · (intro w hS; clear hS; go_simp; try (with_reducible rfl))
  refine wpAnyH_take (i := 17) (v := ?_) rfl (by kernel_rfl) (by kernel_rfl) (by kernel_rfl) (fun _ _ _ h => h) (Or.inl ⟨by kernel_rfl, ?_⟩) r5 ?_
  rotate_left 1
  · (intro w hS; clear hS; go_simp; try (with_reducible rfl))
  refine wpAnyH_take (i := 18) (v := ?_) rfl (by kernel_rfl) (by kernel_rfl) (by kernel_rfl) (fun _ _ _ h => h) (Or.inl ⟨by kernel_rfl, ?_⟩) r5 ?_
  rotate_left 1
  · (intro w hS; clear hS; go_simp; try (with_reducible rfl))
  refine wpAnyH_take (i := 19) (v := ?_) rfl (by kernel_rfl) (by kernel_rfl) (by kernel_rfl) (fun _ _ _ h => h) (Or.inl ⟨by kernel_rfl, ?_⟩) r5 ?_
  rotate_left 1
  · (intro w hS; have hs := hS.1; clear hS; go_simp; try (with_reducible rfl))
  by_cases h0 : s0 = 0
  · have z0 : ((s0 : Int) != 0) = false := by rw [bne_eq_false_iff_eq]; omega
    refine wpAnyH_take (i := 20) (v := ?_) rfl (by kernel_rfl) (by kernel_rfl) (by kernel_rfl) (fun _ _ _ h => h) (Or.inl ⟨by kernel_rfl, ?_⟩) r5 ?_
    rotate_left 1
    · (intro w hS; clear hS; go_simp; try (with_reducible rfl))
    refine wpAnyH_take (i := 21) (v := ?_) rfl (by kernel_rfl) (by kernel_rfl) (by kernel_rfl) (fun _ _ _ h => h) (Or.inl ⟨by kernel_rfl, ?_⟩) r5 ?_
    rotate_left 1
    · (intro w hS; clear hS; go_simp; try (with_reducible rfl))
    refine wpAnyH_take (i := 22) (v := ?_) rfl (by kernel_rfl) (by kernel_rfl) (by kernel_rfl) (fun _ _ _ h => h) (Or.inl ⟨by kernel_rfl, ?_⟩) r5 ?_
    rotate_left 1
    · (intro w hS; clear hS; go_simp; try (with_reducible rfl))
    refine wpAnyH_take (i := 23) (v := ?_) rfl (by kernel_rfl) (by kernel_rfl) (by kernel_rfl) (fun _ _ _ h => h) (Or.inl ⟨by kernel_rfl, ?_⟩) r5 ?_
    rotate_left 1
    · (intro w hS; clear hS; go_simp; try (with_reducible rfl))
    refine wpAnyH_take (i := 24) (v := ?_) rfl (by kernel_rfl) (by kernel_rfl) (by kernel_rfl) (fun _ _ _ h => h) (Or.inl ⟨by kernel_rfl, ?_⟩) r5 ?_
    rotate_left 1
    · (intro w hS; clear hS; go_simp; try (with_reducible rfl))
    refine wpAnyH_take (i := 25) (v := ?_) rfl (by kernel_rfl) (by kernel_rfl) (by kernel_rfl) (fun _ _ _ h => h) (Or.inl ⟨by kernel_rfl, ?_⟩) r5 ?_
    rotate_left 1
    · (intro w hS; have hs := hS.2.1; clear hS; go_simp; try (with_reducible rfl))
    by_cases h1 : s1 = 0
    · have z1 : ((s1 : Int) != 0) = false := by rw [bne_eq_false_iff_eq]; omega
      refine wpAnyH_take (i := 26) (v := ?_) rfl (by kernel_rfl) (by kernel_rfl) (by kernel_rfl) (fun _ _ _ h => h) (Or.inl ⟨by kernel_rfl, ?_⟩) r5 ?_
      rotate_left 1
      · (intro w hS; clear hS; go_simp; try (with_reducible rfl))
      refine wpAnyH_take (i := 27) (v := ?_) rfl (by kernel_rfl) (by kernel_rfl) (by kernel_rfl) (fun _ _ _ h => h) (Or.inl ⟨by kernel_rfl, ?_⟩) r5 ?_
      rotate_left 1
      · (intro w hS; clear hS; go_simp; try (with_reducible rfl))
      refine wpAnyH_take (i := 28) (v := ?_) rfl (by kernel_rfl) (by kernel_rfl) (by kernel_rfl) (fun _ _ _ h => h) (Or.inl ⟨by kernel_rfl, ?_⟩) r5 ?_
      rotate_left 1
      · (intro w hS; clear hS; go_simp; try (with_reducible rfl))
      refine wpAnyH_take (i := 29) (v := ?_) rfl (by kernel_rfl) (by kernel_rfl) (by kernel_rfl) (fun _ _ _ h => h) (Or.inl ⟨by kernel_rfl, ?_⟩) r5 ?_
      rotate_left 1
      · (intro w hS; clear hS; go_simp; try (with_reducible rfl))
      refine wpAnyH_take (i := 30) (v := ?_) rfl (by kernel_rfl) (by kernel_rfl) (by kernel_rfl) (fun _ _ _ h => h) (Or.inl ⟨by kernel_rfl, ?_⟩) r5 ?_
      rotate_left 1
      · (intro w hS; clear hS; go_simp; try (with_reducible rfl))
      refine wpAnyH_take (i := 31) (v := ?_) rfl (by kernel_rfl) (by kernel_rfl) (by kernel_rfl) (fun _ _ _ h => h) (Or.inl ⟨by kernel_rfl, ?_⟩) r5 ?_
      rotate_left 1
      · (intro w hS; have hs := hS.2.2.1; clear hS; go_simp; try (with_reducible rfl))
      by_cases h2 : s2 = 0
      · have z2 : ((s2 : Int) != 0) = false := by rw [bne_eq_false_iff_eq]; omega
        have z3 : (32 : Int) ≤ (s3 : Int) := by have := HQ.out; rw [HQV.out] at this; omega
        refine wpAnyH_take (i := 32) (v := ?_) rfl (by kernel_rfl) (by kernel_rfl) (by kernel_rfl) (fun _ _ _ h => h) (Or.inl ⟨by kernel_rfl, ?_⟩) r5 ?_
        rotate_left 1
        · (intro w hS; clear hS; go_simp; try (with_reducible rfl))
        refine wpAnyH_take (i := 33) (v := ?_) rfl (by kernel_rfl) (by kernel_rfl) (by kernel_rfl) (fun _ _ _ h => h) (Or.inl ⟨by kernel_rfl, ?_⟩) r5 ?_
        rotate_left 1
        · (intro w hS; clear hS; go_simp; try (with_reducible rfl))
        refine wpAnyH_take (i := 34) (v := ?_) rfl (by kernel_rfl) (by kernel_rfl) (by kernel_rfl) (fun _ _ _ h => h) (Or.inl ⟨by kernel_rfl, ?_⟩) r5 ?_
        rotate_left 1
        · (intro w hS; clear hS; go_simp; try (with_reducible rfl))
        refine wpAnyH_take (i := 35) (v := ?_) rfl (by kernel_rfl) (by kernel_rfl) (by kernel_rfl) (fun _ _ _ h => h) (Or.inl ⟨by kernel_rfl, ?_⟩) r5 ?_
        rotate_left 1
        · (intro w hS; clear hS; go_simp; try (with_reducible rfl))
        refine wpAnyH_take (i := 36) (v := ?_) rfl (by kernel_rfl) (by kernel_rfl) (by kernel_rfl) (fun _ _ _ h => h) (Or.inl ⟨by kernel_rfl, ?_⟩) r5 ?_
        rotate_left 1
        · (intro w hS; clear hS; go_simp; try (with_reducible rfl))
        refine wpAnyH_take (i := 37) (v := ?_) rfl (by kernel_rfl) (by kernel_rfl) (by kernel_rfl) (fun _ _ _ h => h) (Or.inl ⟨by kernel_rfl, ?_⟩) r5 ?_
        rotate_left 1
        · (intro w hS; have hs := hS.2.2.2; clear hS; go_simp; try (with_reducible rfl))
        refine wpAnyH_take (i := 38) (v := ?_) rfl (by kernel_rfl) (by kernel_rfl) (by kernel_rfl) (fun _ _ _ h => h) (Or.inl ⟨by kernel_rfl, ?_⟩) r5 ?_
        rotate_left 1
        · (intro w hS; clear hS; go_simp; try (with_reducible rfl))
        refine wpAnyH_take (i := 39) (v := ?_) rfl (by kernel_rfl) (by kernel_rfl) (by kernel_rfl) (fun _ _ _ h => h) (Or.inl ⟨by kernel_rfl, ?_⟩) r5 ?_
        rotate_left 1
        · (intro w hS; clear hS; go_simp; try (with_reducible rfl))
        (refine wpAnyH_done (by kernel_rfl) ?_ _; go_simp; go_wp2_with fail; go_ret; exact ⟨rfl, B5.out⟩)
      · have z2 : ((s2 : Int) != 0) = true := by rw [bne_iff_ne]; omega
        refine wpAnyH_take (i := 32) (v := ?_) rfl (by kernel_rfl) (by kernel_rfl) (by kernel_rfl) (fun _ _ _ h => h) (Or.inl ⟨by kernel_rfl, ?_⟩) r5 ?_
        rotate_left 1
        · (intro w hS; clear hS; go_simp; try (with_reducible rfl))
        refine wpAnyH_take (i := 33) (v := ?_) rfl (by kernel_rfl) (by kernel_rfl) (by kernel_rfl) (fun _ _ _ h => h) (Or.inl ⟨by kernel_rfl, ?_⟩) r5 ?_
        rotate_left 1
        · (intro w hS; clear hS; go_simp; try (with_reducible rfl))
        refine wpAnyH_take (i := 34) (v := ?_) rfl (by kernel_rfl) (by kernel_rfl) (by kernel_rfl) (fun _ _ _ h => h) (Or.inl ⟨by kernel_rfl, ?_⟩) r5 ?_
        rotate_left 1
        · (intro w hS; clear hS; go_simp; try (with_reducible rfl))
        refine wpAnyH_take (i := 35) (v := undef) rfl (by kernel_rfl) (by kernel_rfl) (by kernel_rfl) (fun _ _ _ h => h) (Or.inr ⟨by kernel_rfl, rfl⟩) r5 ?_
        refine wpAnyH_take (i := 36) (v := undef) rfl (by kernel_rfl) (by kernel_rfl) (by kernel_rfl) (fun _ _ _ h => h) (Or.inr ⟨by kernel_rfl, rfl⟩) r5 ?_
        refine wpAnyH_take (i := 37) (v := undef) rfl (by kernel_rfl) (by kernel_rfl) (by kernel_rfl) (fun _ _ _ h => h) (Or.inr ⟨by kernel_rfl, rfl⟩) r5 ?_
        refine wpAnyH_take (i := 38) (v := undef) rfl (by kernel_rfl) (by kernel_rfl) (by kernel_rfl) (fun _ _ _ h => h) (Or.inr ⟨by kernel_rfl, rfl⟩) r5 ?_
        refine wpAnyH_take (i := 39) (v := ?_) rfl (by kernel_rfl) (by kernel_rfl) (by kernel_rfl) (fun _ _ _ h => h) (Or.inl ⟨by kernel_rfl, ?_⟩) r5 ?_
        rotate_left 1
        · (intro w hS; clear hS; go_simp; try (with_reducible rfl))
        (refine wpAnyH_done (by kernel_rfl) ?_ _; go_simp; go_wp2_with fail; go_ret; exact ⟨rfl, B5.out⟩)
    · have z1 : ((s1 : Int) != 0) = true := by rw [bne_iff_ne]; omega
      refine wpAnyH_take (i := 26) (v := ?_) rfl (by kernel_rfl) (by kernel_rfl) (by kernel_rfl) (fun _ _ _ h => h) (Or.inl ⟨by kernel_rfl, ?_⟩) r5 ?_
      rotate_left 1
      · (intro w hS; clear hS; go_simp; try (with_reducible rfl))
      refine wpAnyH_take (i := 27) (v := ?_) rfl (by kernel_rfl) (by kernel_rfl) (by kernel_rfl) (fun _ _ _ h => h) (Or.inl ⟨by kernel_rfl, ?_⟩) r5 ?_
      rotate_left 1
      · (intro w hS; clear hS; go_simp; try (with_reducible rfl))
      refine wpAnyH_take (i := 28) (v := ?_) rfl (by kernel_rfl) (by kernel_rfl) (by kernel_rfl) (fun _ _ _ h => h) (Or.inl ⟨by kernel_rfl, ?_⟩) r5 ?_
      rotate_left 1
      · (intro w hS; clear hS; go_simp; try (with_reducible rfl))
      refine wpAnyH_take (i := 29) (v := undef) rfl (by kernel_rfl) (by kernel_rfl) (by kernel_rfl) (fun _ _ _ h => h) (Or.inr ⟨by kernel_rfl, rfl⟩) r5 ?_
      refine wpAnyH_take (i := 30) (v := undef) rfl (by kernel_rfl) (by kernel_rfl) (by kernel_rfl) (fun _ _ _ h => h) (Or.inr ⟨by kernel_rfl, rfl⟩) r5 ?_
      refine wpAnyH_take (i := 31) (v := undef) rfl (by kernel_rfl) (by kernel_rfl) (by kernel_rfl) (fun _ _ _ h => h) (Or.inr ⟨by kernel_rfl, rfl⟩) r5 ?_
      refine wpAnyH_take (i := 32) (v := undef) rfl (by kernel_rfl) (by kernel_rfl) (by kernel_rfl) (fun _ _ _ h => h) (Or.inr ⟨by kernel_rfl, rfl⟩) r5 ?_
      refine wpAnyH_take (i := 33) (v := ?_) rfl (by kernel_rfl) (by kernel_rfl) (by kernel_rfl) (fun _ _ _ h => h) (Or.inl ⟨by kernel_rfl, ?_⟩) r5 ?_
      rotate_left 1
      · (intro w hS; clear hS; go_simp; try (with_reducible rfl))
      refine wpAnyH_take (i := 34) (v := ?_) rfl (by kernel_rfl) (by kernel_rfl) (by kernel_rfl) (fun _ _ _ h => h) (Or.inl ⟨by kernel_rfl, ?_⟩) r5 ?_
      rotate_left 1
      · (intro w hS; clear hS; go_simp; try (with_reducible rfl))
      refine wpAnyH_take (i := 35) (v := undef) rfl (by kernel_rfl) (by kernel_rfl) (by kernel_rfl) (fun _ _ _ h => h) (Or.inr ⟨by kernel_rfl, rfl⟩) r5 ?_
      refine wpAnyH_take (i := 36) (v := undef) rfl (by kernel_rfl) (by kernel_rfl) (by kernel_rfl) (fun _ _ _ h => h) (Or.inr ⟨by kernel_rfl, rfl⟩) r5 ?_
      refine wpAnyH_take (i := 37) (v := undef) rfl (by kernel_rfl) (by kernel_rfl) (by kernel_rfl) (fun _ _ _ h => h) (Or.inr ⟨by kernel_rfl, rfl⟩) r5 ?_
      refine wpAnyH_take (i := 38) (v := undef) rfl (by kernel_rfl) (by kernel_rfl) (by kernel_rfl) (fun _ _ _ h => h) (Or.inr ⟨by kernel_rfl, rfl⟩) r5 ?_
      refine wpAnyH_take (i := 39) (v := ?_) rfl (by kernel_rfl) (by kernel_rfl) (by kernel_rfl) (fun _ _ _ h => h) (Or.inl ⟨by kernel_rfl, ?_⟩) r5 ?_
      rotate_left 1
      · (intro w hS; clear hS; go_simp; try (with_reducible rfl))
      (refine wpAnyH_done (by kernel_rfl) ?_ _; go_simp; go_wp2_with fail; go_ret; exact ⟨rfl, B5.out⟩)
  · have z0 : ((s0 : Int) != 0) = true := by rw [bne_iff_ne]; omega
    refine wpAnyH_take (i := 20) (v := ?_) rfl (by kernel_rfl) (by kernel_rfl) (by kernel_rfl) (fun _ _ _ h => h) (Or.inl ⟨by kernel_rfl, ?_⟩) r5 ?_
    rotate_left 1
    · (intro w hS; clear hS; go_simp; try (with_reducible rfl))
    refine wpAnyH_take (i := 21) (v := ?_) rfl (by kernel_rfl) (by kernel_rfl) (by kernel_rfl) (fun _ _ _ h => h) (Or.inl ⟨by kernel_rfl, ?_⟩) r5 ?_
    rotate_left 1
    · (intro w hS; clear hS; go_simp; try (with_reducible rfl))
    refine wpAnyH_take (i := 22) (v := ?_) rfl (by kernel_rfl) (by kernel_rfl) (by kernel_rfl) (fun _ _ _ h => h) (Or.inl ⟨by kernel_rfl, ?_⟩) r5 ?_
    rotate_left 1
    · (intro w hS; clear hS; go_simp; try (with_reducible rfl))
    refine wpAnyH_take (i := 23) (v := undef) rfl (by kernel_rfl) (by kernel_rfl) (by kernel_rfl) (fun _ _ _ h => h) (Or.inr ⟨by kernel_rfl, rfl⟩) r5 ?_
    refine wpAnyH_take (i := 24) (v := undef) rfl (by kernel_rfl) (by kernel_rfl) (by kernel_rfl) (fun _ _ _ h => h) (Or.inr ⟨by kernel_rfl, rfl⟩) r5 ?_
    refine wpAnyH_take (i := 25) (v := undef) rfl (by kernel_rfl) (by kernel_rfl) (by kernel_rfl) (fun _ _ _ h => h) (Or.inr ⟨by kernel_rfl, rfl⟩) r5 ?_
    refine wpAnyH_take (i := 26) (v := undef) rfl (by kernel_rfl) (by kernel_rfl) (by kernel_rfl) (fun _ _ _ h => h) (Or.inr ⟨by kernel_rfl, rfl⟩) r5 ?_
    refine wpAnyH_take (i := 27) (v := ?_) rfl (by kernel_rfl) (by kernel_rfl) (by kernel_rfl) (fun _ _ _ h => h) (Or.inl ⟨by kernel_rfl, ?_⟩) r5 ?_
    rotate_left 1
    · (intro w hS; clear hS; go_simp; try (with_reducible rfl))
    refine wpAnyH_take (i := 28) (v := ?_) rfl (by kernel_rfl) (by kernel_rfl) (by kernel_rfl) (fun _ _ _ h => h) (Or.inl ⟨by kernel_rfl, ?_⟩) r5 ?_
    rotate_left 1
    · (intro w hS; clear hS; go_simp; try (with_reducible rfl))
    refine wpAnyH_take (i := 29) (v := undef) rfl (by kernel_rfl) (by kernel_rfl) (by kernel_rfl) (fun _ _ _ h => h) (Or.inr ⟨by kernel_rfl, rfl⟩) r5 ?_
    refine wpAnyH_take (i := 30) (v := undef) rfl (by kernel_rfl) (by kernel_rfl) (by kernel_rfl) (fun _ _ _ h => h) (Or.inr ⟨by kernel_rfl, rfl⟩) r5 ?_
    refine wpAnyH_take (i := 31) (v := undef) rfl (by kernel_rfl) (by kernel_rfl) (by kernel_rfl) (fun _ _ _ h => h) (Or.inr ⟨by kernel_rfl, rfl⟩) r5 ?_
    refine wpAnyH_take (i := 32) (v := undef) rfl (by kernel_rfl) (by kernel_rfl) (by kernel_rfl) (fun _ _ _ h => h) (Or.inr ⟨by kernel_rfl, rfl⟩) r5 ?_
    refine wpAnyH_take (i := 33) (v := ?_) rfl (by kernel_rfl) (by kernel_rfl) (by kernel_rfl) (fun _ _ _ h => h) (Or.inl ⟨by kernel_rfl, ?_⟩) r5 ?_
    rotate_left 1
    · (intro w hS; clear hS; go_simp; try (with_reducible rfl))
    refine wpAnyH_take (i := 34) (v := ?_) rfl (by kernel_rfl) (by kernel_rfl) (by kernel_rfl) (fun _ _ _ h => h) (Or.inl ⟨by kernel_rfl, ?_⟩) r5 ?_
    rotate_left 1
    · (intro w hS; clear hS; go_simp; try (with_reducible rfl))
    refine wpAnyH_take (i := 35) (v := undef) rfl (by kernel_rfl) (by kernel_rfl) (by kernel_rfl) (fun _ _ _ h => h) (Or.inr ⟨by kernel_rfl, rfl⟩) r5 ?_
    refine wpAnyH_take (i := 36) (v := undef) rfl (by kernel_rfl) (by kernel_rfl) (by kernel_rfl) (fun _ _ _ h => h) (Or.inr ⟨by kernel_rfl, rfl⟩) r5 ?_
    refine wpAnyH_take (i := 37) (v := undef) rfl (by kernel_rfl) (by kernel_rfl) (by kernel_rfl) (fun _ _ _ h => h) (Or.inr ⟨by kernel_rfl, rfl⟩) r5 ?_
    refine wpAnyH_take (i := 38) (v := undef) rfl (by kernel_rfl) (by kernel_rfl) (by kernel_rfl) (fun _ _ _ h => h) (Or.inr ⟨by kernel_rfl, rfl⟩) r5 ?_
    refine wpAnyH_take (i := 39) (v := ?_) rfl (by kernel_rfl) (by kernel_rfl) (by kernel_rfl) (fun _ _ _ h => h) (Or.inl ⟨by kernel_rfl, ?_⟩) r5 ?_
    rotate_left 1
    · (intro w hS; clear hS; go_simp; try (with_reducible rfl))
    (refine wpAnyH_done (by kernel_rfl) ?_ _; go_simp; go_wp2_with fail; go_ret; exact ⟨rfl, B5.out⟩)
end Go.Proofs.YtigbnjgmdgkgjaaGreatDoor
