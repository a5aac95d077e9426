/-
  KeyEnds walked.
-/
import Derived.Test.YtkcjiidimmefdaaDoorKyC
import Derived.Test.YtkcjiidimmefdaaDoorKyD
import Derived.Deep.DeepCutAuto
namespace Go.Proofs.YtkcjiidimmefdaaDoor
open Go Go.RowKit Sh

/-- What KeyEnds knows at a round's beginning: i turns are behind it. -/
structure KGe (w0 w : World) (g gt : Nat) (I S : List Nat) (u i k m : Nat) : Prop where
  kw : KW w0 w g gt I S k 32
  k1 : u + i ≤ 32 → k = u + i ∧ m = i
  k2 : 32 ≤ u + i → k = 32 ∧ m = 32 - u
theorem u64_natK (p : Int) : ∃ a : Nat, IntKind.u64.wrap p = (a : Int) := by
  have h0 : 0 ≤ IntKind.u64.wrap p := by simp [IntKind.wrap, IntKind.bits, IntKind.signed]; omega
  exact ⟨(IntKind.u64.wrap p).toNat, by omega⟩
theorem secI_bytes (x y : Nat) : Bytes (secI x y) := bytes_take (sum_bytes _ (secT_bytes x y)) 16
theorem secS_bytes (x y : Nat) : Bytes (secS x y) := sum_bytes _ (sum_bytes _ (secT_bytes x y))
set_option maxRecDepth 100000 in
set_option maxHeartbeats 4000000 in
theorem kends_t (a b : Int) (w : World) (hk : KAt w) (hki : KI w) :
    Calls Tryd.prog 3 #[.int .i64 a, .int .i64 b] w fun e w' => e = .returned (.bool true) ∧ Below w.heap.size w w' := by
  obtain ⟨x, hx⟩ := u64_natK a
  obtain ⟨u, hu, hue⟩ := mod_of 33 (by decide) (by decide) b
  rw [show ((33 : Nat) : Int) = 33 from rfl] at hue
  have SC := Lib.hid (fun W => ksec_t a 3 x 3 W hx rfl)
  have HI := Lib.hid (secI_length x 3); have HS := Lib.hid (secS_length x 3); have HIB := Lib.hid (secI_bytes x 3); have HSB := Lib.hid (secS_bytes x 3)
  obtain ⟨I, hI⟩ : ∃ z, secI x 3 = z := ⟨_, rfl⟩
  obtain ⟨S, hS⟩ : ∃ z, secS x 3 = z := ⟨_, rfl⟩
  rw [hI] at SC HI HIB; rw [hS] at SC HS HSB
  have TO := Lib.hid (fun W (h : Below w.heap.size w W) => ktold_t W (hk.below h hk.lt) (hki.kept h))
  have NW := Lib.hid (fun W (h : Below w.heap.size w W) => kwNew (w0 := w) (w := W) u HI.out HS.out (by omega) hk hki h)
  have SG := Lib.hid (fun W g gt n P (h : KW w W g gt I S n 32) (hn : n < 32) (hp : Sr W P [1]) => kwSign [1] P 1 1 HI.out HIB.out HS.out HSB.out hk hki h hn rfl hp (sl_bytes (by decide)) (Nat.le_refl _) (by decide))
  have u1 : (u : Int) < 33 := by omega
  clear hx hI hS hk hki HIB HSB
  go_enter Tryd.func3, Tryd.ntmps3
  go_upto_region 2 with (fail)
  rw [hue]
  clear hue
  go_wp2_with fail
  refine (SC.out _).mono ?_
  rintro e w1 ⟨rfl, b1⟩
  have B1 := Lib.hid b1
  clear b1 SC
  go_wp2_with fail
  refine (NW.out _ B1.out).mono ?_
  rintro e w2 ⟨g, gt, rfl, kw, b2⟩
  have K2 := Lib.hid kw
  have HR := Lib.hid (kwReserve 32 K2.out (by omega) (by omega))
  rw [show ((32 : Nat) : Int) = 32 from rfl] at HR
  clear kw b2 NW B1
  go_upto_region 7 with (go_at_call 7; refine HR.out.mono ?_; rintro e w3 ⟨rfl, k3, b3⟩)
  have K3 := Lib.hid k3
  clear k3 b3 K2 HR
  go_loopw [8, 9] (fun r s wr => ∃ i k m : Nat, i ≤ 35 ∧ s = .int .i64 (i : Int) ∧ r = .int .i64 (m : Int) ∧ KGe w wr g gt I S u i k m) (fun _ s _ => 35 - (intOf s).toNat)
  case atStart => exact ⟨0, u, 0, by omega, rfl, rfl, K3.out, fun _ => ⟨rfl, rfl⟩, fun h => by omega⟩
  case round =>
    clear K3
    obtain ⟨i, k, m, hi, rfl, rfl, kg⟩ := hrel
    have G0 := Lib.hid kg
    clear kg
    by_cases hi2 : i < 35
    · have i1 : (i : Int) < 35 := by omega
      have GA := Lib.hid (G0.out.kw.below ((Below.refl wr.heap.size wr).alloc (Nat.le_refl _) (.cells #[.int .u8 1] 5)))
      have SM := Lib.hid (Sr.one 1 1 rfl wr 5 (0, 0))
      by_cases hn : u + i < 32
      · obtain ⟨hk, hm⟩ := G0.out.k1 (by omega)
        subst hm
        have ui : (u : Int) + (m : Int) < 32 := by omega
        have SGk := Lib.hid (SG.out _ g gt k _ GA.out (by omega) SM.out)
        clear SM GA G0
        go_wp2_with (go_at_call 8; refine SGk.out.mono ?_; rintro e w5 ⟨ga, ca, rfl, hca, o5, k5, b5, kp5⟩; have K5 := Lib.hid k5; clear hca o5 k5 b5 kp5)
        go_roundw
        case rel => exact ⟨m + 1, k + 1, m + 1, by omega, by go_num, by go_num, K5.out, fun _ => ⟨by omega, rfl⟩, fun _ => ⟨by omega, by omega⟩⟩
        case measure => simp [intOf]; omega
      · obtain ⟨hk, hm⟩ := G0.out.k2 (by omega)
        subst hk
        have ui : ¬ (u : Int) + (i : Int) < 32 := by omega
        have SN := Lib.hid (kSign_no I S 2 1 32 g gt (.slice (some ⟨wr.heap.size, 0, none⟩) 1 1) _ GA.out.ks)
        have NX := Lib.hid (kNext_t I S 2 1 32 32 g gt _ GA.out.ks)
        rw [show ((noSign 32 : Nat) : Int) = 4 from rfl] at SN
        rw [show ((32 : Nat) : Int) = 32 from rfl] at NX
        have HM := Lib.hid hm
        clear SM G0 hm
        go_wp2_with (first
          | (go_at_call 8; with_reducible refine SN.out.mono ?_; rintro e w5 ⟨rfl, rfl⟩)
          | (go_at_call 9; with_reducible refine NX.out.mono ?_; rintro e w6 ⟨rfl, rfl⟩))
        go_roundw
        case rel => exact ⟨i + 1, 32, m, by omega, by go_num, rfl, GA.out, fun _ => ⟨by omega, by have := HM.out; omega⟩, fun _ => ⟨rfl, HM.out⟩⟩
        case measure => simp [intOf]; omega
    · have i1 : ¬ (i : Int) < 35 := by omega
      obtain ⟨hk, hm⟩ := G0.out.k2 (by omega)
      subst hk
      have mu : (m : Int) = 32 - (u : Int) := by omega
      clear hm
      go_wp2_with fail
      refine (TO.out _ G0.out.kw.bel).mono ?_
      rintro e w5 ⟨rfl, b5⟩
      have K5 := Lib.hid (G0.out.kw.below b5)
      have RN := Lib.hid (kReserve_no I S 2 1 32 32 g gt 33 w5 K5.out.ks (.inr (by decide)))
      have RY := Lib.hid (kwReserve 32 K5.out (by omega) (by omega))
      rw [show ((32 : Nat) : Int) = 32 from rfl] at RY
      clear b5 G0
      go_wp2_with (first
        | (go_at_call 7; with_reducible refine RN.out.mono ?_; rintro e w6 ⟨rfl, rfl⟩)
        | (go_at_call 7; with_reducible refine RY.out.mono ?_; rintro e w6 ⟨rfl, k6, b6⟩; have K6 := Lib.hid k6; clear k6 b6))
      go_ret
      exact ⟨rfl, K6.out.bel⟩
end Go.Proofs.YtkcjiidimmefdaaDoor
