/-
  PACKAGE ots: public: what the ends of all chains make, whatever closure gives the ends.
-/
import Derived.Test.YtigbnjgmdgkgjaaGreatDoorOtW
namespace Go.Proofs.YtigbnjgmdgkgjaaGreatDoor
open Go Go.RowKit Sh

/-- The texts E 0, E 1, .. one behind the other. -/
def catN (E : Nat → List Nat) : Nat → List Nat
  | 0 => []
  | k + 1 => catN E k ++ E k
theorem catN_length (E : Nat → List Nat) (k : Nat) (h : ∀ j, j < k → (E j).length = 32) : (catN E k).length = 32 * k := by
  induction k with
  | zero => rfl
  | succ k ih => rw [catN, List.length_append, ih (fun j hj => h j (by omega)), h k (by omega)]; omega
theorem catN_bytes (E : Nat → List Nat) (k : Nat) (h : ∀ j, j < k → Bytes (E j)) : Bytes (catN E k) := by
  induction k with
  | zero => exact nil_bytes
  | succ k ih => exact app_bytes (ih (fun j hj => h j (by omega))) (h k (by omega))
theorem catN_congr {E F : Nat → List Nat} : ∀ k, (∀ j, j < k → E j = F j) → catN E k = catN F k
  | 0, _ => rfl
  | k + 1, h => by rw [catN, catN, catN_congr k (fun j hj => h j (by omega)), h k (by omega)]
def pubOf (I : List Nat) (q : Nat) (l : List Nat) : List Nat := sum (headN I q 32896 ++ l)
set_option maxRecDepth 100000 in
set_option maxHeartbeats 2000000 in
theorem public_of (F : FuncId) (c1 c2 c3 c4 : Nat) (E : Nat → List Nat) (I : List Nat) (q i : Nat) (w : World) (hI : I.length = 16) (hIb : Bytes I) (hq : q < 32) (hi : i < 4) (hE : ∀ j, j < (kd i).p → (E j).length = 32 ∧ Bytes (E j)) (hk : KAt w) (hcf : ∀ args W, (callFunc F args).run Tryz.prog W = .ok (.enter F args) W)
    (hend : ∀ (W : World) (j : Nat), Below w.heap.size w W → j < (kd i).p → Calls Tryz.prog F #[.int .i64 (j : Int), .pointer (some ⟨c1, 0, none⟩), .pointer (some ⟨c2, 0, none⟩), .pointer (some ⟨c3, 0, none⟩), .pointer (some ⟨c4, 0, none⟩)] W fun e w' => e = .returned (.agg (u8s (E j)).toArray) ∧ Below W.heap.size W w') :
    Calls Tryz.prog 107 #[.agg (lf I q).toArray, .agg (kv (kd i)).toArray, .func (.func F) #[] #[.pointer (some ⟨c1, 0, none⟩), .pointer (some ⟨c2, 0, none⟩), .pointer (some ⟨c3, 0, none⟩), .pointer (some ⟨c4, 0, none⟩)]] w fun e w' => e = .returned (.agg (u8s (pubOf I q (catN E (kd i).p))).toArray) ∧ Below w.heap.size w w' := by
  have HI := Lib.hid hI; have HIB := Lib.hid hIb; have HE := Lib.hid hE; have HK := Lib.hid hk; have HG := Lib.hid hk.lt; have HEND := Lib.hid hend
  have hp := kd_p i hi
  clear hI hIb hE hk hend
  go_enter Tryz.func107, Tryz.ntmps107
  go_wp2_with fail
  refine (new_t _).mono ?_
  rintro e w1 ⟨rfl, hw⟩
  have k : Blk w1 w.heap.size 128 (lf I q) ∧ Blk w1 (w.heap.size + 1) 124 (kv (kd i)) ∧ Blk w1 (w.heap.size + 1 + 1) 24 (u8s z32) ∧ Dig w1 (w.heap.size + 1 + 1 + 1) [] z0 (List.replicate 64 0) ∧ Below w.heap.size w w1 ∧ w1.heap.size = w.heap.size + 1 + 1 + 1 + 1 := by
    rw [hw]
    exact ⟨((((Blk.new _ _ (lf I q)).alloc _).alloc _).alloc _), (((Blk.new2 _ _ _ (kv (kd i))).alloc _).alloc _), (blk_at (by simp) _ _ (u8s z32)).alloc _, Dig.zero (blk_at (by simp) _ _ DZ), ((((Below.refl _ _).alloc (Nat.le_refl _) _).alloc (by simp) _).alloc (by simp; omega) _).alloc (by simp; omega) _, by simp⟩
  obtain ⟨k0, k1, k2, k3, bw, hz⟩ := k
  clear hw
  have K0 := Lib.hid k0; have K1 := Lib.hid k1; have K2 := Lib.hid k2; have K3 := Lib.hid k3; have BW := Lib.hid bw
  have hz2 : w.heap.size + 4 ≤ w1.heap.size := by omega
  clear k0 k1 k2 k3 bw hz
  go_wp2_with ((with_reducible refine load_blk 128 (.tmp 3) w.heap.size 128 (lf I q) _ rfl rfl ?_ Tryz.underlying128 ?_ ?_ ?_ ?_); exact K0.out; exact rfl; exact lf_size _ _ HI.out; exact rfl)
  refine (head_t I q 32896 w1 HI.out hq (by decide)).mono ?_
  rintro e w2 ⟨v, rfl, o2, b2⟩
  obtain ⟨A, n, c, rfl, hn, hc⟩ : ∃ A n c, v = .slice A n c ∧ n = 22 ∧ n ≤ c := by
    obtain ⟨A, c, e, h⟩ := own_form o2
    exact ⟨A, _, c, e, headN_length I q 32896 HI.out, h⟩
  subst hn
  rw [headN_length I q 32896 HI.out] at o2
  have O2 := Lib.hid o2; have M1 := Lib.hid (K1.out.below b2 K1.out.lt); have M2 := Lib.hid (K2.out.below b2 K2.out.lt); have M3 := Lib.hid (K3.out.below b2 K3.out.blk.lt); have B2 := Lib.hid (BW.out.trans (b2.mono BW.out.size))
  obtain ⟨g1, hg1⟩ : ∃ g, w.heap.size + 1 = g := ⟨_, rfl⟩
  rw [hg1] at M1 M2 M3 ⊢
  obtain ⟨g2, hg2⟩ : ∃ g, g1 + 1 = g := ⟨_, rfl⟩
  rw [hg2] at M2 M3 ⊢
  obtain ⟨g3, hg3⟩ : ∃ g, g2 + 1 = g := ⟨_, rfl⟩
  rw [hg3] at M3 ⊢
  have l1 : w.heap.size < g1 := by omega
  have l2 : g1 < g2 := by omega
  have l3 : g2 < g3 := by omega
  have l4 : g3 < w1.heap.size := by omega
  clear hg1 hg2 hg3 o2 b2 K0 K1 K2 K3 BW
  go_wp2_with fail
  refine (write_u w.heap.size g3 _ _ [] (headN I q 32896) A 22 c w2 M3.out (headN_bytes I q 32896 HIB.out) (Sl.own O2.out l4) (headN_length I q 32896 HI.out) hc (by simp) (HK.out.below B2.out HG.out) (by omega) HG.out).mono ?_
  rintro e w3 ⟨rfl, ⟨s3, r3, d3⟩, t3, b3⟩
  rw [List.nil_append] at d3
  have N1 := Lib.hid (M1.out.but t3 M1.out.lt (by omega)); have N2 := Lib.hid (M2.out.but t3 M2.out.lt (by omega)); have N3 := Lib.hid d3; have B3 := Lib.hid (B2.out.trans b3)
  clear d3 t3 b3 M1 M2 M3 O2 B2
  obtain ⟨p, hpp⟩ : ∃ p, (kd i).p = p := ⟨_, rfl⟩
  have cp : w3.cell? ⟨g1, 2, none⟩ = some (.int .i64 (p : Int)) := by rw [← hpp]; exact N1.out.cell 2
  rw [hpp] at HE HEND hp
  have HPP := Lib.hid hpp
  clear hpp
  go_wp2_with fail
  clear cp
  go_loopw [17] (fun s wr => ∃ k : Nat, k ≤ p ∧ s = .int .i64 (k : Int) ∧ (∃ s r, Dig wr g3 (headN I q 32896 ++ catN E k) s r) ∧ Blk wr g2 24 (u8s z32) ∧ Below w.heap.size w wr) (fun s _ => p - (intOf s).toNat)
  case atStart => exact ⟨0, by omega, rfl, ⟨s3, r3, by rw [catN, List.append_nil]; exact N3.out⟩, N2.out, B3.out⟩
  case round =>
    clear N1 N2 N3 B3
    obtain ⟨k, hk, rfl, ⟨s, r, d⟩, k2, bw⟩ := hrel
    have D0 := Lib.hid d; have K2 := Lib.hid k2; have BW := Lib.hid bw
    have gl : g3 < wr.heap.size := d.blk.lt
    clear d k2 bw
    by_cases hlt : k < p
    · have HK1 := Lib.hid (HE.out k hlt)
      have HCL := Lib.hid (catN_length E k (fun j hj => (HE.out j (by omega)).1))
      go_wp2_with fail
      refine (HEND.out wr k BW.out hlt).mono ?_
      rintro e w4 ⟨rfl, b4⟩
      have D4 := Lib.hid (D0.out.below b4 D0.out.blk.lt); have M2 := Lib.hid (K2.out.below b4 K2.out.lt); have B4 := Lib.hid (BW.out.trans (b4.mono BW.out.size))
      have gl4 : g3 < w4.heap.size := D4.out.blk.lt
      have HZE := Lib.hid (show (u8s z32).length = (u8s (E k)).length by rw [u8s_length, u8s_length, HK1.out.1]; rfl)
      have R4 := Lib.hid (Blk.new w4 24 (u8s z32))
      have R5 := Lib.hid (R4.out.setRow (u8s (E k)))
      have b5 := below_setRow ((Below.refl w4.heap.size w4).alloc (Nat.le_refl _) (.cells (u8s z32).toArray 24)) (Nat.le_refl _) (u8s (E k)).toArray
      have D5 := Lib.hid (D4.out.below b5 D4.out.blk.lt); have M5 := Lib.hid (M2.out.below b5 M2.out.lt); have B5 := Lib.hid (B4.out.trans (b5.mono B4.out.size))
      clear b4 b5 D0 K2 BW
      go_wp2_with ((with_reducible refine store_blk 24 (.tmp 9) (.tmp 22) w4.heap.size 24 (u8s z32) (u8s (E k)) rfl rfl ?_ ?_ ?_ ?_ ?_ ?_ ?_); exact R4.out; exact HZE.out; exact size32 _ HK1.out.1; exact u8s_one _; exact rfl; exact rfl)
      refine (write_u w.heap.size g3 s r (headN I q 32896 ++ catN E k) (E k) (some ⟨w4.heap.size, 0, none⟩) 32 32 _ D5.out HK1.out.2 (Sl.of_blk (rest := []) R5.out (by simp) (by omega)) HK1.out.1 (Nat.le_refl _) (by rw [List.length_append, headN_length I q 32896 HI.out, HCL.out]; omega) (HK.out.below B5.out HG.out) (by omega) HG.out).mono ?_
      rintro e w6 ⟨rfl, ⟨s6, r6, d6⟩, t6, b6⟩
      have D6 := Lib.hid d6; have M6 := Lib.hid (M5.out.but t6 M5.out.lt (by omega)); have B6 := Lib.hid (B5.out.trans b6)
      clear d6 t6 b6 D4 M2 B4 R4 R5 D5 M5 B5
      go_wp2_with fail
      go_roundw
      case rel => exact ⟨k + 1, by omega, by go_num, ⟨s6, r6, by rw [catN, ← List.append_assoc]; exact D6.out⟩, M6.out, B6.out⟩
      case measure => simp [intOf]; omega
    · obtain rfl : k = p := by omega
      have HCL := Lib.hid (catN_length E k (fun j hj => (HE.out j hj).1))
      go_wp2_with fail
      refine (dsum_t g3 s r _ wr D0.out (by rw [List.length_append, headN_length I q 32896 HI.out, HCL.out]; omega) (HK.out.below BW.out HG.out)).mono ?_
      rintro e w6 ⟨rfl, b6⟩
      have Q2 := Lib.hid (K2.out.below b6 K2.out.lt); have B6 := Lib.hid (BW.out.trans (b6.mono BW.out.size))
      clear b6 D0 K2 BW
      obtain ⟨S, hS⟩ : ∃ S, sum (headN I q 32896 ++ catN E k) = S := ⟨_, rfl⟩
      have hSl : S.length = 32 := by rw [← hS]; rfl
      rw [hS]
      have HSL := Lib.hid hSl; have HSS := Lib.hid hS
      have hzl : (u8s z32).length = (u8s S).length := by rw [u8s_length, u8s_length, hSl]; rfl
      have HZL := Lib.hid hzl
      clear hS hSl hzl
      go_wp2_with ((with_reducible refine store_blk 24 (.tmp 6) (.tmp 28) g2 24 (u8s z32) (u8s S) rfl rfl ?_ ?_ ?_ ?_ ?_ ?_ ?_); exact Q2.out; exact HZL.out; exact size32 _ HSL.out; exact u8s_one _; exact rfl; exact rfl)
      exact ret_blk (p := 6) (ty := 24) rfl rfl g2 24 _ _ rfl (Q2.out.setRow _) Tryz.underlying24 rfl (size32 _ HSL.out) ⟨by unfold pubOf; rw [HPP.out, HSS.out], below_setRow B6.out (by omega) _⟩
end Go.Proofs.YtigbnjgmdgkgjaaGreatDoor
