/-
  KeyPlays walked.
-/
import Derived.Test.YtkcjiidimmefdaaGreatDoorKyC
import Derived.Test.YtkcjiidimmefdaaGreatDoorKyD
import Derived.Test.YtkcjiidimmefdaaGreatDoorRgN
import Derived.Test.YtkcjiidimmefdaaGreatDoorOtEq
namespace Go.Proofs.YtkcjiidimmefdaaGreatDoor
open Go Go.RowKit Sh

theorem u64_natP (p : Int) : ∃ a : Nat, IntKind.u64.wrap p = (a : Int) := by
  have h0 : 0 ≤ IntKind.u64.wrap p := by simp [IntKind.wrap, IntKind.bits, IntKind.signed]; omega
  exact ⟨(IntKind.u64.wrap p).toNat, by omega⟩
theorem secI_bytesP (x y : Nat) : Bytes (secI x y) := bytes_take (sum_bytes _ (secT_bytes x y)) 16
theorem secS_bytesP (x y : Nat) : Bytes (secS x y) := sum_bytes _ (sum_bytes _ (secT_bytes x y))
/-- The numbers that the law is given. -/
def InP (w : World) (p : Option Addr) (q : Nat) (L : Nat → Int) : Prop := ∀ j, j < q → ∃ b o, p = some ⟨b, o, none⟩ ∧ b < w.heap.size ∧ w.cell? ⟨b, o + j, none⟩ = some (.int .i64 (L j)) ∧ -9223372036854775808 ≤ L j ∧ L j ≤ 9223372036854775807
/-- What KeyPlays knows at a round's beginning: the signer, and the reference's tree. -/
structure KP (w0 w : World) (g gt gr : Nat) (I S : List Nat) (n r : Nat) : Prop where
  kw : KW w0 w g gt I S n r
  tr : Blk w gr 64 (rtC I S 2 (nod I S 1 63))
section
variable {w0 w w' : World} {g gt gr n r : Nat} {I S : List Nat}
theorem KP.far (h : KP w0 w g gt gr I S n r) (hk : Kept (fun q => q = g ∨ q = gt) w w') : Blk w' gr 64 (rtC I S 2 (nod I S 1 63)) := by
  obtain ⟨m, _, t⟩ := h.kw.ks.t.is
  have s1 := h.tr.apart h.kw.ks.b (by decide); have s2 := h.tr.apart t (by decide)
  exact h.tr.kept hk (fun e => e.elim s1 s2)
theorem KP.below (h : KP w0 w g gt gr I S n r) (hb : Below w.heap.size w w') : KP w0 w' g gt gr I S n r :=
  ⟨h.kw.below hb, h.tr.below hb h.tr.lt⟩
end
set_option maxRecDepth 100000 in
set_option maxHeartbeats 4000000 in
theorem kplays_t (a b : Int) (p : Option Addr) (q cap : Nat) (L : Nat → Int) (w : World) (hX : InP w p q L) (hk : KAt w) (hki : KI w) :
    Calls Tryz.prog 3 #[.int .i64 a, .int .i64 b, .slice p q cap] w fun e w' => e = .returned (.bool true) ∧ Below w.heap.size w w' := by
  obtain ⟨x, hx⟩ := u64_natP a
  have SC := Lib.hid (fun W => ksec_t a 0 x 0 W hx rfl)
  have HI := Lib.hid (secI_length x 0); have HS := Lib.hid (secS_length x 0); have HIB := Lib.hid (secI_bytesP x 0); have HSB := Lib.hid (secS_bytesP x 0); have HIS := Lib.hid (sec_two x 0)
  obtain ⟨I, hI⟩ : ∃ z, secI x 0 = z := ⟨_, rfl⟩
  obtain ⟨S, hS⟩ : ∃ z, secS x 0 = z := ⟨_, rfl⟩
  rw [hI] at SC HI HIB HIS; rw [hS] at SC HS HSB HIS
  have TO := Lib.hid (fun W (h : Below w.heap.size w W) => ktold_t W (hk.below h hk.lt) (hki.kept h))
  have NN := Lib.hid (fun W (h : Below w.heap.size w W) (hb : b < 0 ∨ 32 < b) => kNew_no I S 2 1 b W HI.out HS.out (by decide) rfl hb (hk.below h hk.lt) (hki.kept h))
  have NW := Lib.hid (fun W n (h : Below w.heap.size w W) (hn : n ≤ 32) => kwNew (w0 := w) (w := W) n HI.out HS.out hn hk hki h)
  have RN := Lib.hid (fun W => refnew_t I S 2 1 W HI.out HIB.out HS.out HSB.out (by decide) rfl)
  have PB := Lib.hid (fun W g gt n r (h : KW w W g gt I S n r) => kwPublic HI.out HIB.out HS.out HSB.out hk hki h)
  have SG := Lib.hid (fun W g gt n r xs P m cc (h : KW w W g gt I S n r) (hn : n < r) (hx : xs.length = m) (hp : Sr W P xs) (hxb : Bytes xs) (hcc : m ≤ cc) (hml : m ≤ 30) => kwSign xs P m cc HI.out HIB.out HS.out HSB.out hk hki h hn hx hp hxb hcc (by omega))
  have RG := Lib.hid (fun W g k xs P m cc (hk : k < 32) (hx : xs.length = m) (hp : Sr W P xs) (hxb : Bytes xs) (hml : m ≤ 30) (hT : Blk W g 64 (rtC I S 2 (nod I S 1 63))) => reftsign_t I S xs 2 1 g k P m cc W HI.out HIB.out HS.out HSB.out (by decide) rfl hk hx hp hxb (by omega) hT)
  have RP := Lib.hid (fun W g (hT : Blk W g 64 (rtC I S 2 (nod I S 1 63))) => reftpub_t I S 2 1 g W HI.out HS.out (by decide) rfl hT)
  have PL := Lib.hid (lpubN_length I S 1 HI.out); have PBY := Lib.hid (lpubN_bytes I S 1 (by decide) HIB.out HSB.out)
  have LB := Lib.hid (fun k xs => lsigN_bytes I S 1 k xs (by decide) HIB.out HSB.out)
  have LL := Lib.hid (fun k xs (hk : k < 32) => show (lsigN I S 1 k xs).length = 4460 from lsigN_length I S 1 k xs hk)
  rw [show ((2 : Nat) : Int) = 2 from rfl] at NN RN
  have HXX := Lib.hid hX
  clear hx hI hS hk hki HIB HSB hX
  go_enter Tryz.func3, Tryz.ntmps3
  go_wp2_with fail
  refine (SC.out _).mono ?_
  rintro e w1 ⟨rfl, b1⟩
  have Z1 := Lib.hid (Blk.new w1 27 (u8s kz48))
  have B1 := Lib.hid b1
  have hs1 : w.heap.size ≤ w1.heap.size := b1.size
  clear b1 SC
  go_upto_region 2 with ((with_reducible refine store_blk 27 (.tmp 7) (.tmp 22) w1.heap.size 27 (u8s kz48) (u8s (I ++ S)) rfl rfl ?_ ?_ ?_ ?_ ?_ ?_ ?_); exact Z1.out; exact ksec_len _ HIS.out; exact size48 _ HIS.out; exact u8s_one _; exact rfl; exact rfl)
  refine world_is (fun W => Blk W w1.heap.size 27 (u8s (I ++ S)) ∧ Below w.heap.size w W) ⟨Z1.out.setRow _, below_setRow (B1.out.alloc B1.out.size _) B1.out.size _⟩ ?_
  rintro W ⟨s0, bw⟩
  obtain ⟨gs, hgs⟩ : ∃ z, w1.heap.size = z := ⟨_, rfl⟩
  rw [hgs] at s0 hs1 ⊢
  have S2 := Lib.hid s0; have B2 := Lib.hid bw
  clear s0 bw Z1 B1 hgs
  go_wp2_with ((with_reducible refine load_blk 27 (.tmp 7) gs 27 (u8s (I ++ S)) _ rfl rfl ?_ Tryz.underlying27 ?_ ?_ ?_ ?_); exact S2.out; exact rfl; exact size48 _ HIS.out; exact rfl)
  by_cases hb : b < 0 ∨ 32 < b
  · refine (NN.out _ B2.out hb).mono ?_
    rintro e w2 ⟨rfl, b2⟩
    have B3 := Lib.hid (B2.out.trans (b2.mono B2.out.size))
    clear b2 B2
    by_cases h0 : b < 0
    · clear hb
      go_wp2_with fail
      refine (TO.out _ B3.out).mono ?_
      rintro e w3 ⟨rfl, b3⟩
      have B4 := Lib.hid (B3.out.trans (b3.mono B3.out.size))
      go_wp2_with fail
      go_ret
      exact ⟨rfl, B4.out⟩
    · have h1 : 0 ≤ b := by omega
      have h2 : 32 < b := by omega
      clear hb h0
      go_wp2_with fail
      refine (TO.out _ B3.out).mono ?_
      rintro e w3 ⟨rfl, b3⟩
      have B4 := Lib.hid (B3.out.trans (b3.mono B3.out.size))
      go_wp2_with fail
      go_ret
      exact ⟨rfl, B4.out⟩
  · obtain ⟨u, rfl⟩ : ∃ u : Nat, b = (u : Int) := ⟨b.toNat, by omega⟩
    have u32 : u ≤ 32 := by omega
    have u1 : (u : Int) ≤ 32 := by omega
    have u0 : (0 : Int) ≤ (u : Int) := by omega
    clear hb NN
    refine (NW.out _ u B2.out u32).mono ?_
    rintro e w2 ⟨g, gt, rfl, kw, b2⟩
    have K2 := Lib.hid kw; have S3 := Lib.hid (S2.out.below b2 S2.out.lt)
    clear kw b2 S2 B2 NW
    go_wp2_with ((with_reducible refine load_blk 27 (.tmp 7) gs 27 (u8s (I ++ S)) _ rfl rfl ?_ Tryz.underlying27 ?_ ?_ ?_ ?_); exact S3.out; exact rfl; exact size48 _ HIS.out; exact rfl)
    refine (RN.out _).mono ?_
    rintro e w3 ⟨gr, rfl, tr, hgr, b3⟩
    have H3 := Lib.hid (show KP w w3 g gt gr I S u u from ⟨K2.out.below b3, tr⟩)
    clear tr b3 K2 S3 RN hgr
    go_upto_region 10 with (fail)
    go_loopw [11, 12, 13] (fun s11 s12 s13 wr => ∃ (i n r : Nat), i ≤ 60 ∧ s11 = .int .i64 (n : Int) ∧ s12 = .int .i64 (r : Int) ∧ s13 = .int .i64 (i : Int) ∧ KP w wr g gt gr I S n r) (fun _ _ s _ => 60 - (intOf s).toNat)
    case atStart => exact ⟨0, u, u, by omega, rfl, rfl, rfl, H3.out⟩
    case round =>
      clear H3
      obtain ⟨i, n, r, hi, rfl, rfl, rfl, h0⟩ := hrel
      have H0 := Lib.hid h0
      clear h0
      have nr := H0.out.kw.ks.le
      have r32 := H0.out.kw.ks.top
      have n0 : (0 : Int) ≤ (n : Int) := by omega
      have r1 : (r : Int) ≤ 32 := by omega
      have nr1 : (n : Int) ≤ (r : Int) := by omega
      by_cases hq1 : i < q
      · have q1 : (i : Int) < (q : Int) := by omega
        by_cases hq2 : i < 60
        · have q2 : (i : Int) < 60 := by omega
          obtain ⟨bb, oo, rfl, hbl, hbc, hz1, hz2⟩ := HXX.out i hq1
          have CX := Lib.hid (fun W (h : Below w.heap.size w W) => (h.cell (p := ⟨bb, oo + i, none⟩) hbl).trans hbc)
          obtain ⟨z, hz⟩ : ∃ z, L i = z := ⟨_, rfl⟩
          rw [hz] at CX hz1 hz2
          have c0 := CX.out _ H0.out.kw.bel
          clear hz hbc
          by_cases hev : bits .and .i64 z 1 = 0
          · have e0 : (bits .and .i64 z 1 == 0) = true := by rw [beq_iff_eq]; exact hev
            clear hev
            go_upto_region 14 with (fail)
            clear c0 CX
            obtain ⟨m, hm⟩ : ∃ m, z.tdiv 2 = m := ⟨_, rfl⟩
            rw [hm]
            clear hm e0 hz1 hz2
            by_cases hok : (r : Int) ≤ m ∧ m ≤ 32
            · obtain ⟨m1, m2⟩ := hok
              obtain ⟨k, rfl⟩ : ∃ k : Nat, m = (k : Int) := ⟨m.toNat, by omega⟩
              have RV := Lib.hid (kwReserve k H0.out.kw (by omega) (by omega))
              go_upto_region 33 with (go_at_call 9; refine RV.out.mono ?_; rintro e w5 ⟨rfl, k5, b5, kp5⟩)
              have H5 := Lib.hid (show KP w w5 g gt gr I S n k from ⟨k5, H0.out.far kp5⟩)
              have NX := Lib.hid (kNext_t I S 2 1 n k g gt w5 k5.ks)
              have RX := Lib.hid (kReserved_t I S 2 1 n k g gt w5 k5.ks)
              clear k5 b5 kp5 H0 RV
              go_wp2_with (first
              | (go_at_call 14; with_reducible refine NX.out.mono ?_; rintro e w6 ⟨rfl, rfl⟩)
              | (go_at_call 15; with_reducible refine RX.out.mono ?_; rintro e w7 ⟨rfl, rfl⟩))
              go_roundw
              case rel => exact ⟨i + 1, n, k, by omega, rfl, rfl, by go_num, H5.out⟩
              case measure => simp [intOf]; omega
            · have RV := Lib.hid (kReserve_no I S 2 1 n r g gt m wr H0.out.kw.ks (by omega))
              have NX := Lib.hid (kNext_t I S 2 1 n r g gt wr H0.out.kw.ks)
              have RX := Lib.hid (kReserved_t I S 2 1 n r g gt wr H0.out.kw.ks)
              by_cases hm1 : (r : Int) ≤ m
              · have hm2 : ¬ m ≤ 32 := by omega
                clear hok
                go_upto_region 33 with (go_at_call 9; refine RV.out.mono ?_; rintro e w5 ⟨rfl, rfl⟩)
                go_wp2_with (first
                | (go_at_call 14; with_reducible refine NX.out.mono ?_; rintro e w6 ⟨rfl, rfl⟩)
                | (go_at_call 15; with_reducible refine RX.out.mono ?_; rintro e w7 ⟨rfl, rfl⟩))
                go_roundw
                case rel => exact ⟨i + 1, n, r, by omega, rfl, rfl, by go_num, H0.out⟩
                case measure => simp [intOf]; omega
              · clear hok
                go_upto_region 33 with (go_at_call 9; refine RV.out.mono ?_; rintro e w5 ⟨rfl, rfl⟩)
                go_wp2_with (first
                | (go_at_call 14; with_reducible refine NX.out.mono ?_; rintro e w6 ⟨rfl, rfl⟩)
                | (go_at_call 15; with_reducible refine RX.out.mono ?_; rintro e w7 ⟨rfl, rfl⟩))
                go_roundw
                case rel => exact ⟨i + 1, n, r, by omega, rfl, rfl, by go_num, H0.out⟩
                case measure => simp [intOf]; omega
          · have e0 : (bits .and .i64 z 1 == 0) = false := by rw [beq_eq_false_iff_ne]; exact hev
            clear hev
            have i64 : IntKind.u64.wrap (i : Int) = (i : Int) := IntWalk.u64_in _ (by omega)
            go_wp2_with fail
            refine (refnum_t i 8 wr (by decide) (by decide)).mono ?_
            rintro e w4 ⟨v4, rfl, f4⟩
            obtain ⟨A4, c4, rfl, hc4, sr4, b4⟩ := fresh_opK f4
            rw [beN_length] at hc4 ⊢
            have H4 := Lib.hid (H0.out.below b4); have S4 := Lib.hid sr4; have O4 := Lib.hid f4.1
            rw [beN_length] at O4
            have BB := Lib.hid (beN_bytes i 8)
            have BLn := Lib.hid (beN_length i 8)
            obtain ⟨xs, hxs⟩ : ∃ xs, beN i 8 = xs := ⟨_, rfl⟩
            rw [hxs] at S4 BB BLn O4
            clear f4 sr4 b4 H0 hxs
            by_cases hn : n < r
            · have hn1 : (n : Int) < (r : Int) := by omega
              have hn2 : n < 32 := by omega
              have hn3 : ((n : Int) == 32) = false := by rw [beq_eq_false_iff_ne]; omega
              have SGk := Lib.hid (SG.out w4 g gt n r xs A4 8 c4 H4.out.kw hn BLn.out S4.out BB.out hc4 (by decide))
              go_wp2_with (go_at_call 11; refine SGk.out.mono ?_; rintro e w5 ⟨ga, ca, rfl, hca, o5, k5, b5, kp5⟩)
              have S5 := Lib.hid (Sr.of_own (H4.out.kw.own O4.out kp5))
              have T5 := Lib.hid (H4.out.far kp5)
              have K5 := Lib.hid k5; have O5 := Lib.hid o5
              have RGk := Lib.hid (RG.out w5 gr n xs A4 8 c4 hn2 BLn.out S5.out BB.out (by decide) T5.out)
              clear o5 k5 b5 kp5 SGk S4 O4 H4
              refine RGk.out.mono ?_
              rintro e w6 ⟨v6, rfl, f6⟩
              obtain ⟨A6, c6, rfl, hc6, sr6, b6⟩ := fresh_opK f6
              rw [LL.out n xs hn2] at hc6 ⊢
              have SM := Lib.hid (same_texts (lsigN I S 1 n xs) (lsigN I S 1 n xs) (some ⟨ga, 0, none⟩) A6 4460 4460 ca c6 w6 (LL.out n xs hn2) (LL.out n xs hn2) ((Sr.of_own O5.out).below b6) sr6 (LB.out n xs) (LB.out n xs))
              rw [show decide (lsigN I S 1 n xs = lsigN I S 1 n xs) = true from decide_eq_true rfl] at SM
              have H6 := Lib.hid (show KP w w6 g gt gr I S (n + 1) r from ⟨K5.out.below b6, T5.out.below b6 T5.out.lt⟩)
              have NX := Lib.hid (kNext_t I S 2 1 (n + 1) r g gt w6 H6.out.kw.ks)
              have RX := Lib.hid (kReserved_t I S 2 1 (n + 1) r g gt w6 H6.out.kw.ks)
              rw [show ((n + 1 : Nat) : Int) = (n : Int) + 1 by omega] at NX
              clear f6 hc6 sr6 b6 RGk T5 K5 O5 S5
              go_upto_region 33 with (go_at_call 12; refine SM.out.mono ?_; rintro e w8 ⟨rfl, rfl⟩)
              go_wp2_with (first
              | (go_at_call 14; with_reducible refine NX.out.mono ?_; rintro e w6 ⟨rfl, rfl⟩)
              | (go_at_call 15; with_reducible refine RX.out.mono ?_; rintro e w7 ⟨rfl, rfl⟩))
              go_roundw
              case rel => exact ⟨i + 1, n + 1, r, by omega, by go_num, rfl, by go_num, H6.out⟩
              case measure => simp [intOf]; omega
            · obtain rfl : n = r := by omega
              have SN := Lib.hid (kSign_no I S 2 1 n g gt (.slice A4 8 c4) w4 H4.out.kw.ks)
              have NX := Lib.hid (kNext_t I S 2 1 n n g gt w4 H4.out.kw.ks)
              have RX := Lib.hid (kReserved_t I S 2 1 n n g gt w4 H4.out.kw.ks)
              clear hn S4 O4 nr1
              by_cases h32 : n = 32
              · subst h32
                rw [show ((noSign 32 : Nat) : Int) = 4 from rfl] at SN
                rw [show ((32 : Nat) : Int) = 32 from rfl] at NX RX
                go_upto_region 33 with (go_at_call 11; refine SN.out.mono ?_; rintro e w5 ⟨rfl, rfl⟩)
                go_wp2_with (first
                | (go_at_call 14; with_reducible refine NX.out.mono ?_; rintro e w6 ⟨rfl, rfl⟩)
                | (go_at_call 15; with_reducible refine RX.out.mono ?_; rintro e w7 ⟨rfl, rfl⟩))
                go_roundw
                case rel => exact ⟨i + 1, 32, 32, by omega, rfl, rfl, by go_num, H4.out⟩
                case measure => simp [intOf]; omega
              · have hn3 : ((n : Int) == 32) = false := by rw [beq_eq_false_iff_ne]; omega
                rw [show noSign n = 6 by unfold noSign; rw [if_neg h32]] at SN
                rw [show ((6 : Nat) : Int) = 6 from rfl] at SN
                clear h32
                go_upto_region 33 with (go_at_call 11; refine SN.out.mono ?_; rintro e w5 ⟨rfl, rfl⟩)
                go_wp2_with (first
                | (go_at_call 14; with_reducible refine NX.out.mono ?_; rintro e w6 ⟨rfl, rfl⟩)
                | (go_at_call 15; with_reducible refine RX.out.mono ?_; rintro e w7 ⟨rfl, rfl⟩))
                go_roundw
                case rel => exact ⟨i + 1, n, n, by omega, rfl, rfl, by go_num, H4.out⟩
                case measure => simp [intOf]; omega
        · have q2 : ¬ (i : Int) < 60 := by omega
          go_wp2_with fail
          refine (TO.out _ H0.out.kw.bel).mono ?_
          rintro e w5 ⟨rfl, b5⟩
          have H5 := Lib.hid (H0.out.below b5)
          have PBk := Lib.hid (PB.out w5 g gt n r H5.out.kw)
          clear b5 H0
          go_wp2_with fail
          refine PBk.out.mono ?_
          rintro e w6 ⟨gp, cp, rfl, hcp, o6, k6, b6, kp6⟩
          have O6 := Lib.hid o6; have B6 := Lib.hid k6.bel
          have RPk := Lib.hid (RP.out w6 gr (H5.out.far kp6))
          clear o6 k6 b6 kp6 H5 PBk
          go_wp2_with fail
          refine RPk.out.mono ?_
          rintro e w7 ⟨v7, rfl, f7⟩
          obtain ⟨A7, c7, rfl, hc7, sr7, b7⟩ := fresh_opK f7
          rw [PL.out] at hc7 ⊢
          have SM := Lib.hid (same_texts (lpubN I S 1) (lpubN I S 1) (some ⟨gp, 0, none⟩) A7 56 56 cp c7 w7 PL.out PL.out ((Sr.of_own O6.out).below b7) sr7 PBY.out PBY.out)
          rw [show decide (lpubN I S 1 = lpubN I S 1) = true from decide_eq_true rfl] at SM
          have B7 := Lib.hid (B6.out.trans (b7.mono B6.out.size))
          clear f7 hc7 sr7 b7 O6 B6 RPk
          go_wp2_with (go_at_call 12; refine SM.out.mono ?_; rintro e w8 ⟨rfl, rfl⟩)
          go_ret
          exact ⟨rfl, B7.out⟩
      · have q1 : ¬ (i : Int) < (q : Int) := by omega
        go_wp2_with fail
        refine (TO.out _ H0.out.kw.bel).mono ?_
        rintro e w5 ⟨rfl, b5⟩
        have H5 := Lib.hid (H0.out.below b5)
        have PBk := Lib.hid (PB.out w5 g gt n r H5.out.kw)
        clear b5 H0
        go_wp2_with fail
        refine PBk.out.mono ?_
        rintro e w6 ⟨gp, cp, rfl, hcp, o6, k6, b6, kp6⟩
        have O6 := Lib.hid o6; have B6 := Lib.hid k6.bel
        have RPk := Lib.hid (RP.out w6 gr (H5.out.far kp6))
        clear o6 k6 b6 kp6 H5 PBk
        go_wp2_with fail
        refine RPk.out.mono ?_
        rintro e w7 ⟨v7, rfl, f7⟩
        obtain ⟨A7, c7, rfl, hc7, sr7, b7⟩ := fresh_opK f7
        rw [PL.out] at hc7 ⊢
        have SM := Lib.hid (same_texts (lpubN I S 1) (lpubN I S 1) (some ⟨gp, 0, none⟩) A7 56 56 cp c7 w7 PL.out PL.out ((Sr.of_own O6.out).below b7) sr7 PBY.out PBY.out)
        rw [show decide (lpubN I S 1 = lpubN I S 1) = true from decide_eq_true rfl] at SM
        have B7 := Lib.hid (B6.out.trans (b7.mono B6.out.size))
        clear f7 hc7 sr7 b7 O6 B6 RPk
        go_wp2_with (go_at_call 12; refine SM.out.mono ?_; rintro e w8 ⟨rfl, rfl⟩)
        go_ret
        exact ⟨rfl, B7.out⟩
end Go.Proofs.YtkcjiidimmefdaaGreatDoor
