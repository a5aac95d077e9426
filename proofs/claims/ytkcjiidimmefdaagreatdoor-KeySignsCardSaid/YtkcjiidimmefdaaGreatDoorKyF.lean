/-
  KeySigns walked.
-/
import Derived.Test.YtkcjiidimmefdaaGreatDoorKyC
import Derived.Test.YtkcjiidimmefdaaGreatDoorKyD
import Derived.Test.YtkcjiidimmefdaaGreatDoorLmT
import Derived.Test.YtkcjiidimmefdaaGreatDoorTexts
import Derived.Deep.DeepCutAuto
namespace Go.Proofs.YtkcjiidimmefdaaGreatDoor
open Go Go.RowKit Sh

/-- What KeySigns knows at a round's beginning: i messages are behind it. -/
structure KG (w0 w : World) (g gt gp cp : Nat) (I S : List Nat) (u n i k : Nat) : Prop where
  kw : KW w0 w g gt I S k n
  k1 : u + i ≤ n → k = u + i
  k2 : n ≤ u + i → k = n
  o : w.ownsRow w0.heap.size 5 1 (.slice (some ⟨gp, 0, none⟩) 56 cp) 56 (u8s (lpubN I S 1))
theorem u64_natF (p : Int) : ∃ a : Nat, IntKind.u64.wrap p = (a : Int) := by
  have h0 : 0 ≤ IntKind.u64.wrap p := by simp [IntKind.wrap, IntKind.bits, IntKind.signed]; omega
  exact ⟨(IntKind.u64.wrap p).toNat, by omega⟩
theorem secI_bytesF (x y : Nat) : Bytes (secI x y) := bytes_take (sum_bytes _ (secT_bytes x y)) 16
theorem secS_bytesF (x y : Nat) : Bytes (secS x y) := sum_bytes _ (sum_bytes _ (secT_bytes x y))
set_option maxRecDepth 100000 in
set_option maxHeartbeats 4000000 in
theorem ksigns_t (a b c : Int) (p : Option Addr) (q cap : Nat) (A : Nat → Option Addr) (L C : Nat → Nat) (X : Nat → List Nat) (w : World) (hX : Texts w p q A L C X) (hk : KAt w) (hki : KI w) :
    Calls Tryz.prog 4 #[.int .i64 a, .int .i64 b, .int .i64 c, .slice p q cap] w fun e w' => e = .returned (.bool true) ∧ Below w.heap.size w w' := by
  obtain ⟨x, hx⟩ := u64_natF a
  obtain ⟨u, hu, hue⟩ := mod_of 33 (by decide) (by decide) b
  obtain ⟨j, hj, hje⟩ := mod_of (33 - u) (by omega) (by omega) c
  rw [show ((33 : Nat) : Int) = 33 from rfl] at hue
  rw [show ((33 - u : Nat) : Int) = 32 - (u : Int) + 1 by omega] at hje
  obtain ⟨n, hn⟩ : ∃ n, u + j = n := ⟨_, rfl⟩
  have hje2 : (u : Int) + (j : Int) = (n : Int) := by omega
  have n32 : n ≤ 32 := by omega
  have un : u ≤ n := by omega
  have SC := Lib.hid (fun W => ksec_t a 2 x 2 W hx rfl)
  have HI := Lib.hid (secI_length x 2); have HS := Lib.hid (secS_length x 2); have HIB := Lib.hid (secI_bytesF x 2); have HSB := Lib.hid (secS_bytesF x 2)
  obtain ⟨I, hI⟩ : ∃ z, secI x 2 = z := ⟨_, rfl⟩
  obtain ⟨S, hS⟩ : ∃ z, secS x 2 = z := ⟨_, rfl⟩
  rw [hI] at SC HI HIB; rw [hS] at SC HS HSB
  have TO := Lib.hid (fun W (h : Below w.heap.size w W) => ktold_t W (hk.below h hk.lt) (hki.kept h))
  have NW := Lib.hid (fun W (h : Below w.heap.size w W) => kwNew (w0 := w) (w := W) u HI.out HS.out (by omega) hk hki h)
  have PB := Lib.hid (fun W g gt n r (h : KW w W g gt I S n r) => kwPublic HI.out HIB.out HS.out HSB.out hk hki h)
  have SG := Lib.hid (fun W g gt n r xs P m cc (h : KW w W g gt I S n r) (hn : n < r) (hx : xs.length = m) (hp : Sr W P xs) (hxb : Bytes xs) (hcc : m ≤ cc) (hml : m ≤ 30) => kwSign xs P m cc HI.out HIB.out HS.out HSB.out hk hki h hn hx hp hxb hcc (by omega))
  have HXX := Lib.hid hX
  have u1 : (u : Int) < 33 := by omega
  have VF := Lib.hid (fun W (P M Sg : List Nat) (A B C : Option Addr) (n0 c0 n1 c1 n2 c2 : Nat) (hb : Below w.heap.size w W) (h1 : P.length = n0) (hp : Sr W A P) (h2 : Bytes P) (h3 : M.length = n1) (hm : Sr W B M) (h4 : Bytes M) (h5 : n1 ≤ c1) (h6 : n1 ≤ 100000) (h7 : Sg.length = n2) (hs : Sr W C Sg) (h8 : Bytes Sg) (h9 : n0 ≤ 100000 ∧ n2 ≤ 100000) =>
    verify_t P M Sg A B C n0 c0 n1 c1 n2 c2 W h1 hp h2 (by omega) h3 hm h4 h5 (by omega) h7 hs h8 (by omega) (hk.below hb hk.lt) (hki.kept hb))
  have PL := Lib.hid (lpubN_length I S 1 HI.out); have PBY := Lib.hid (lpubN_bytes I S 1 (by decide) HIB.out HSB.out)
  have LB := Lib.hid (fun k xs => lsigN_bytes I S 1 k xs (by decide) HIB.out HSB.out)
  have LL := Lib.hid (fun k xs (hk : k < 32) => show (lsigN I S 1 k xs).length = 4460 from lsigN_length I S 1 k xs hk)
  have VS := Lib.hid (fun k xs (hk : k < 32) => verN_sign I S 1 k xs (by decide) hk HI.out)
  have n1 : (n : Int) ≤ 32 := by omega
  clear hx hI hS hk hki HIB HSB hX
  go_enter Tryz.func4, Tryz.ntmps4
  go_upto_region 2 with (fail)
  rw [hue]
  clear hue
  go_upto_region 3 with (fail)
  clear hje hje2 hj hn
  go_wp2_with fail
  refine (SC.out _).mono ?_
  rintro e w1 ⟨rfl, b1⟩
  have B1 := Lib.hid b1
  clear b1 SC
  go_wp2_with fail
  refine (NW.out _ B1.out).mono ?_
  rintro e w2 ⟨g, gt, rfl, kw, b2⟩
  have K2 := Lib.hid kw
  have HR := Lib.hid (kwReserve n K2.out un n32)
  clear kw b2 NW B1
  go_wp2_with (go_at_call 9; refine HR.out.mono ?_; rintro e w3 ⟨rfl, k3, b3⟩)
  have K3 := Lib.hid k3
  clear k3 b3 K2 HR
  refine (PB.out _ _ _ _ _ K3.out).mono ?_
  rintro e w4 ⟨gp, cp, rfl, hcp, o4, k4, b4⟩
  have O4 := Lib.hid (own_base o4 (base' := w.heap.size) (fun k e => Nat.le_trans K3.out.bel.size (o4.lt k e).1))
  have K4 := Lib.hid k4
  clear o4 k4 b4 K3 PB
  go_upto_region 7 with (fail)
  go_wp2_with fail
  go_loopw [14] (fun s wr => ∃ i k : Nat, i ≤ 40 ∧ s = .int .i64 (i : Int) ∧ KG w wr g gt gp cp I S u n i k) (fun s _ => 40 - (intOf s).toNat)
  case atStart => exact ⟨0, u, by omega, rfl, K4.out, fun _ => rfl, fun h => by omega, O4.out⟩
  case round =>
    clear K4 O4
    obtain ⟨i, k, hi, rfl, kg⟩ := hrel
    have G0 := Lib.hid kg
    clear kg
    by_cases hq1 : i < q
    · have q1 : (i : Int) < (q : Int) := by omega
      by_cases hq2 : i < 40
      · have q2 : (i : Int) < 40 := by omega
        obtain ⟨bb, oo, rfl, hbl, hbc⟩ := HXX.out.cell i hq1
        have c0 := (G0.out.kw.bel.cell (p := ⟨bb, oo + i, none⟩) hbl).trans hbc
        by_cases hL : 30 < L i
        · have hL1 : (30 : Int) < (L i : Int) := by omega
          go_wp2_with fail
          refine (TO.out _ G0.out.kw.bel).mono ?_
          rintro e w5 ⟨rfl, b5⟩
          have B5 := Lib.hid (G0.out.kw.below b5).bel
          go_wp2_with fail
          go_ret
          exact ⟨rfl, B5.out⟩
        · have hL1 : (L i : Int) ≤ 30 := by omega
          have XL := Lib.hid (HXX.out.len i hq1); have XC := Lib.hid (HXX.out.cap i hq1); have XB := Lib.hid (HXX.out.bytes i hq1)
          have SX := Lib.hid (fun W (h : Below w.heap.size w W) => (HXX.out.reads i hq1).below h)
          have CX := Lib.hid (fun W (h : Below w.heap.size w W) => (h.cell (p := ⟨bb, oo + i, none⟩) hbl).trans hbc)
          have hL2 : L i ≤ 30 := by omega
          obtain ⟨Ai, hAi⟩ : ∃ z, A i = z := ⟨_, rfl⟩
          obtain ⟨Li, hLi⟩ : ∃ z, L i = z := ⟨_, rfl⟩
          obtain ⟨Ci, hCi⟩ : ∃ z, C i = z := ⟨_, rfl⟩
          obtain ⟨Xi, hXi⟩ : ∃ z, X i = z := ⟨_, rfl⟩
          rw [hAi, hLi, hCi] at c0 CX
          rw [hAi, hXi] at SX
          rw [hLi, hXi] at XL
          rw [hLi, hCi] at XC
          rw [hXi] at XB
          rw [hLi] at hL1 hL2
          clear hAi hLi hCi hXi hL hbc HXX
          have SX0 := Lib.hid (SX.out _ G0.out.kw.bel)
          by_cases hn : u + i < n
          · have hk := G0.out.k1 (by omega)
            have hkn : k < n := by omega
            have hk32 : k < 32 := by omega
            have ui : (u : Int) + (i : Int) < (n : Int) := by omega
            go_wp2_with fail
            refine (SG.out _ g gt k n Xi Ai Li Ci G0.out.kw hkn XL.out SX0.out XB.out XC.out hL2).mono ?_
            rintro e w5 ⟨ga, ca, rfl, hca, o5, k5, b5, kp5⟩
            have K5 := Lib.hid k5; have O5 := Lib.hid o5; have P5 := Lib.hid (G0.out.kw.own G0.out.o kp5)
            have c5 := CX.out _ k5.bel
            have hgl := o5.lt ga rfl
            have s3 : w5.cell? ⟨ga, 3, none⟩ = some (.int .u8 ((u : Int) + (i : Int))) := by
              obtain ⟨b', o', e', _, hc'⟩ := Sr.of_own o5 (by rw [LL.out k Xi hk32]; decide)
              injection e' with e'
              injection e' with e1 e2 _
              subst e1; subst e2
              have h3 := hc' 3 (by rw [LL.out k Xi hk32]; decide)
              rw [(lsig_at I S k Xi hk32).2.2.2.1, hk] at h3
              rw [Nat.zero_add] at h3
              rw [h3]; rfl
            have VV := Lib.hid (VF.out w5 (lpubN I S 1) Xi (lsigN I S 1 k Xi) (some ⟨gp, 0, none⟩) Ai (some ⟨ga, 0, none⟩) 56 cp Li Ci 4460 ca k5.bel PL.out (Sr.of_own P5.out) PBY.out XL.out (SX.out _ k5.bel) XB.out XC.out (by omega) (LL.out k Xi hk32) (Sr.of_own o5) (LB.out k Xi) (by decide))
            rw [VS.out k Xi hk32] at VV
            have hga2 := hgl.2
            clear o5 k5 b5 kp5 hgl SX SX0 CX G0 SG VF
            go_wp2_with (go_at_call 18; refine VV.out.mono ?_; rintro e w6 ⟨rfl, b6⟩; have s6 := (b6.cell (p := ⟨ga, 3, none⟩) hga2).trans s3; have K6 := Lib.hid (K5.out.below b6); have P6 := Lib.hid (own_below P5.out b6); clear b6)
            go_roundw
            case rel => exact ⟨i + 1, k + 1, by omega, by go_num, K6.out, fun _ => by omega, fun _ => by omega, P6.out⟩
            case measure => simp [intOf]; omega
          · have hk := G0.out.k2 (by omega)
            subst hk
            have ui : (k : Int) ≤ (u : Int) + (i : Int) := by omega
            have SN := Lib.hid (kSign_no I S 2 1 k g gt (.slice Ai Li Ci) wr G0.out.kw.ks)
            have NX := Lib.hid (kNext_t I S 2 1 k k g gt wr G0.out.kw.ks)
            have t0 : (((noSign k : Nat) : Int) == 0) = false := by rw [beq_eq_false_iff_ne]; unfold noSign; split <;> decide
            obtain ⟨E, hE⟩ : ∃ z, noSign k = z := ⟨_, rfl⟩
            rw [hE] at SN t0
            clear hE SX SX0 CX
            go_wp2_with (first
              | (go_at_call 11; refine SN.out.mono ?_; rintro e w5 ⟨rfl, rfl⟩)
              | (go_at_call 14; refine NX.out.mono ?_; rintro e w6 ⟨rfl, rfl⟩))
            go_roundw
            case rel => exact ⟨i + 1, k, by omega, by go_num, G0.out.kw, fun _ => by omega, fun _ => rfl, G0.out.o⟩
            case measure => simp [intOf]; omega
      · have q2 : ¬ (i : Int) < 40 := by omega
        go_wp2_with fail
        refine (TO.out _ G0.out.kw.bel).mono ?_
        rintro e w5 ⟨rfl, b5⟩
        have K5 := Lib.hid (G0.out.kw.below b5)
        have RS := Lib.hid (kReserved_t I S 2 1 k n g gt w5 K5.out.ks)
        have RN := Lib.hid (kReserve_no I S 2 1 k n g gt ((n : Int) - 1) w5 K5.out.ks (.inl (by omega)))
        clear b5 G0
        go_wp2_with (first
          | (go_at_call 15; refine RS.out.mono ?_; rintro e w6 ⟨rfl, rfl⟩)
          | (go_at_call 9; refine RN.out.mono ?_; rintro e w6 ⟨rfl, rfl⟩))
        go_ret
        exact ⟨rfl, K5.out.bel⟩
    · have q1 : ¬ (i : Int) < (q : Int) := by omega
      go_wp2_with fail
      refine (TO.out _ G0.out.kw.bel).mono ?_
      rintro e w5 ⟨rfl, b5⟩
      have K5 := Lib.hid (G0.out.kw.below b5)
      have RS := Lib.hid (kReserved_t I S 2 1 k n g gt w5 K5.out.ks)
      have RN := Lib.hid (kReserve_no I S 2 1 k n g gt ((n : Int) - 1) w5 K5.out.ks (.inl (by omega)))
      clear b5 G0
      go_wp2_with (first
        | (go_at_call 15; refine RS.out.mono ?_; rintro e w6 ⟨rfl, rfl⟩)
        | (go_at_call 9; refine RN.out.mono ?_; rintro e w6 ⟨rfl, rfl⟩))
      go_ret
      exact ⟨rfl, K5.out.bel⟩
end Go.Proofs.YtkcjiidimmefdaaGreatDoor
