/-
  OtsSame walked.
-/
import Derived.Test.YtbffbglbclkadaaDoorOtEqS
namespace Go.Proofs.YtbffbglbclkadaaDoor
open Go Go.RowKit Sh

structure TCap (w0 w : World) (g1 g2 : Nat) (I seed J sd : List Nat) : Prop where
  s1 : Blk w g1 26 (u8s (I ++ seed))
  s2 : Blk w g2 26 (u8s (J ++ sd))
  bel : Below w0.heap.size w0 w
  ki : KI w
  kat : KAt w
theorem TCap.below {w0 w w' : World} {g1 g2 : Nat} {I seed J sd : List Nat} (h : TCap w0 w g1 g2 I seed J sd) (hb : Below w.heap.size w w') : TCap w0 w' g1 g2 I seed J sd :=
  ⟨h.s1.below hb h.s1.lt, h.s2.below hb h.s2.lt, h.bel.trans (hb.mono h.bel.size), h.ki.kept hb, h.kat.below hb h.kat.lt⟩
theorem TCap.part1 {w0 w : World} {g1 g2 : Nat} {I seed J sd : List Nat} (h : TCap w0 w g1 g2 I seed J sd) : Blk w g1 26 ([] ++ (u8s I ++ u8s seed)) := by
  rw [List.nil_append, ← u8s_app]; exact h.s1
theorem TCap.part2 {w0 w : World} {g1 g2 : Nat} {I seed J sd : List Nat} (h : TCap w0 w g1 g2 I seed J sd) : Blk w g2 26 ([] ++ (u8s J ++ u8s sd)) := by
  rw [List.nil_append, ← u8s_app]; exact h.s2
/-- The load of ONE operation, named by the slot that it writes (another load of the same place may be unwanted). -/
theorem load_blk_gd {P : Program} {ops : Array Oper} {rest : List Oper} {o : Oper} {a : Act} {w : World} {Q : Exit → Act → World → Prop} (D : Nat) (ty : TypeId) (x : Operand) (g : Nat) (t : TypeId) (cs : List Value) (d : TypeDesc)
    (_hD : o.dst = some D) (hw : Region.wanted o (yielded ops a.tmps) = true) (ho : o.op = .load ty x) (hg : Blk w g t cs) (hu : P.underlying ty = some d) (hd : d.isRow = true) (hi : (P.info? ty).map (·.size) = some cs.length)
    (hx : a.eval x = .pointer (some ⟨g, 0, none⟩)) (h : wpList P ops Q rest (a.put o.dst (.agg cs.toArray)) w) : wpList P ops Q (o :: rest) a w :=
  load_blk_g ty x g t cs d hw ho hg hu hd hi hx h
set_option maxRecDepth 100000 in
set_option maxHeartbeats 4000000 in
theorem same_secrets (I seed J sd xs : List Nat) (q : Int) (P : Option Addr) (m cc : Nat) (w : World) (hI : I.length = 16) (hIb : Bytes I) (hs : seed.length = 32) (hsb : Bytes seed) (hJ : J.length = 16) (hJb : Bytes J) (ht : sd.length = 32) (htb : Bytes sd) (hx : xs.length = m) (hp : Sr w P xs) (hxb : Bytes xs) (hcc : m ≤ cc) (hml : m ≤ 9223372036854775807) (hk : KAt w) (hki : KI w) :
    Calls Tryd.prog 3 #[.agg (u8s (I ++ seed)).toArray, .agg (u8s (J ++ sd)).toArray, .int .i64 q, .slice P m cc] w fun e w' => e = .returned (.bool true) ∧ Below w.heap.size w w' := by
  have HI := Lib.hid hI; have HIB := Lib.hid hIb; have HS := Lib.hid hs; have HSB := Lib.hid hsb; have HX := Lib.hid hx; have HP := Lib.hid hp; have HXB := Lib.hid hxb; have HCC := Lib.hid hcc
  have HJ := Lib.hid hJ; have HJB := Lib.hid hJb; have HT := Lib.hid ht; have HTB := Lib.hid htb
  have HIS := Lib.hid (show (I ++ seed).length = 48 by rw [List.length_append, hI, hs]); have HJS := Lib.hid (show (J ++ sd).length = 48 by rw [List.length_append, hJ, ht])
  have HZ := Lib.hid (fun (p : List Nat) (h : p.length = 32) => show (u8s z32).length = (u8s p).length by rw [u8s_length, u8s_length, h]; rfl)
  have b1 := (Below.refl w.heap.size w).alloc (Nat.le_refl _) (.cells (u8s (I ++ seed)).toArray 26)
  have b2 := b1.alloc b1.size (.cells (u8s (J ++ sd)).toArray 26)
  have sz : (w.alloc (.cells (u8s (I ++ seed)).toArray 26)).heap.size = w.heap.size + 1 := Array.size_push _
  have n2 := Blk.new (w.alloc (.cells (u8s (I ++ seed)).toArray 26)) 26 (u8s (J ++ sd))
  rw [sz] at n2
  have C0 := Lib.hid (show TCap w ((w.alloc (.cells (u8s (I ++ seed)).toArray 26)).alloc (.cells (u8s (J ++ sd)).toArray 26)) w.heap.size (w.heap.size + 1) I seed J sd from ⟨(Blk.new w _ _).alloc _, n2, b2, hki.kept b2, hk.below b2 hk.lt⟩)
  clear hI hIb hs hsb hJ hJb ht htb hx hp hxb hcc hk hki b1 b2 sz n2
  by_cases hbig : 30 < m
  · go_enter Tryd.func3, Tryd.ntmps3
    go_wp2_with fail
    refine (told_t _ C0.out.ki).mono ?_
    rintro e w2 ⟨rfl, b2⟩
    go_wp2_with fail
    go_ret
    exact ⟨rfl, (C0.out.below b2).bel⟩
  · have m1 : (m : Int) ≤ 30 := by omega
    obtain ⟨k, hk32, hke⟩ := mod_of 32 (by decide) (by decide) q
    rw [show ((32 : Nat) : Int) = 32 from rfl] at hke
    clear hbig
    go_enter Tryd.func3, Tryd.ntmps3
    go_wp2_with ((with_reducible refine load_blk 26 (.tmp 4) w.heap.size 26 (u8s (I ++ seed)) _ rfl rfl ?_ Tryd.underlying26 ?_ ?_ ?_ ?_); exact C0.out.s1; exact rfl; exact size48 _ HIS.out; exact rfl)
    clear hke
    -- Sign, twice
    have SL := Lib.hid (sigN_length I seed k 0 xs)
    have SB := Lib.hid (sigN_bytes I seed k 0 xs (by decide) HIB.out HSB.out)
    have SV := Lib.hid (sig_code I seed k 0 xs (by decide))
    have HCS := Lib.hid (cand_sign I seed k 0 xs)
    have PL := Lib.hid (pubN_length I seed k 0)
    have SG := Lib.hid (fun W (C : TCap w W w.heap.size (w.heap.size + 1) I seed J sd) => sign_t I seed xs k 0 1 P m cc W rfl HI.out HIB.out HS.out HSB.out hk32 (by decide) HX.out (HP.out.below C.bel) HXB.out HCC.out (by omega) C.kat C.ki)
    have PG := Lib.hid (fun W (C : TCap w W w.heap.size (w.heap.size + 1) I seed J sd) => public_t I seed k 0 1 W rfl HI.out HIB.out HS.out HSB.out hk32 (by decide) C.kat C.ki)
    have QL := Lib.hid (sigN_length J sd k 0 xs)
    have QB := Lib.hid (sigN_bytes J sd k 0 xs (by decide) HJB.out HTB.out)
    have QV := Lib.hid (sig_code J sd k 0 xs (by decide))
    have QCS := Lib.hid (cand_sign J sd k 0 xs)
    have RL := Lib.hid (pubN_length J sd k 0)
    have SG2 := Lib.hid (fun W (C : TCap w W w.heap.size (w.heap.size + 1) I seed J sd) => sign_t J sd xs k 0 1 P m cc W rfl HJ.out HJB.out HT.out HTB.out hk32 (by decide) HX.out (HP.out.below C.bel) HXB.out HCC.out (by omega) C.kat C.ki)
    have PG2 := Lib.hid (fun W (C : TCap w W w.heap.size (w.heap.size + 1) I seed J sd) => public_t J sd k 0 1 W rfl HJ.out HJB.out HT.out HTB.out hk32 (by decide) C.kat C.ki)
    have HPQ := Lib.hid (fun (h : I = J ∧ seed = sd) => show pubN J sd k 0 = pubN I seed k 0 by rw [h.1, h.2])
    obtain ⟨sg, hsg⟩ : ∃ s, sigN I seed k 0 xs = s := ⟨_, rfl⟩
    obtain ⟨sh, hsh⟩ : ∃ s, sigN J sd k 0 xs = s := ⟨_, rfl⟩
    obtain ⟨p, hp⟩ : ∃ p, pubN I seed k 0 = p := ⟨_, rfl⟩
    obtain ⟨r, hr⟩ : ∃ p, pubN J sd k 0 = p := ⟨_, rfl⟩
    rw [hsg] at SL SB SV HCS SG
    rw [hsh] at QL QB QV QCS SG2
    rw [hp] at HCS PL PG HPQ
    rw [hr] at QCS RL PG2 HPQ
    clear hsg hsh hp hr
    rw [show 36 + 32 * (kd 0).p = 8516 from rfl] at SL QL
    refine (SG.out _ C0.out).mono ?_
    rintro e w1 ⟨v, rfl, f1⟩
    obtain ⟨A, ca, rfl, hca, sr1, b1⟩ := fresh_open f1
    rw [SL.out] at hca ⊢
    have HCA := Lib.hid hca; have SA1 := Lib.hid sr1; have C1 := Lib.hid (C0.out.below b1)
    clear f1 hca sr1 b1 C0
    go_wp2_with ((with_reducible refine load_blk 26 (.tmp 4) w.heap.size 26 (u8s (I ++ seed)) _ rfl rfl ?_ Tryd.underlying26 ?_ ?_ ?_ ?_); exact C1.out.s1; exact rfl; exact size48 _ HIS.out; exact rfl)
    refine (SG.out _ C1.out).mono ?_
    rintro e w2 ⟨v, rfl, f2⟩
    obtain ⟨A2, ca2, rfl, hca2, sr2, b2⟩ := fresh_open f2
    rw [SL.out] at hca2 ⊢
    have SA2 := Lib.hid (SA1.out.below b2); have SB2 := Lib.hid sr2; have C2 := Lib.hid (C1.out.below b2)
    clear f2 hca2 sr2 b2 C1 SA1
    go_wp2_with ((with_reducible refine load_blk 26 (.tmp 4) w.heap.size 26 (u8s (I ++ seed)) _ rfl rfl ?_ Tryd.underlying26 ?_ ?_ ?_ ?_); exact C2.out.s1; exact rfl; exact size48 _ HIS.out; exact rfl)
    -- Public of the first
    refine (PG.out _ C2.out).mono ?_
    rintro e w3 ⟨rfl, b3⟩
    have C3 := Lib.hid (C2.out.below b3)
    have R3 := Lib.hid (Blk.new w3 24 (u8s z32))
    have P4 := Lib.hid (R3.out.setRow (u8s p))
    have b4 := below_store w3 (u8s z32) 24 (u8s p).toArray
    have C4 := Lib.hid (C3.out.below b4); have SA4 := Lib.hid ((SA2.out.below b3).below b4); have SB4 := Lib.hid ((SB2.out.below b3).below b4)
    clear b3 b4 C2 SA2 SB2
    go_wp2_with (first
      | ((with_reducible refine store_blk 24 (.tmp 14) (.tmp 50) w3.heap.size 24 (u8s z32) (u8s p) rfl rfl ?_ ?_ ?_ ?_ ?_ ?_ ?_); exact R3.out; exact (HZ.out p PL.out); exact size32 _ PL.out; exact u8s_one _; exact rfl; exact rfl)
      | ((with_reducible refine load_part 22 (.tmp 53) w.heap.size 0 26 [] (u8s I) (u8s seed) _ rfl rfl ?_ rfl Tryd.underlying22 ?_ ?_ ?_ ?_); exact C4.out.part1; exact rfl; exact size16 _ HI.out; exact rfl))
    -- Candidate of the first
    refine (cand_t I sg xs k 0 1 P A m cc 8516 ca _ rfl HI.out HIB.out hk32 (by decide) HX.out (HP.out.below C4.out.bel) HXB.out HCC.out (by omega) SL.out SA4.out SB.out HCA.out rfl SV.out C4.out.kat C4.out.ki).mono ?_
    rintro e w5 ⟨rfl, b5⟩
    rw [HCS.out]
    have C5 := Lib.hid (C4.out.below b5); have P5 := Lib.hid (P4.out.below b5 P4.out.lt)
    have R5 := Lib.hid (Blk.new w5 24 (u8s z32))
    have Q6 := Lib.hid (R5.out.setRow (u8s p))
    have b6 := below_store w5 (u8s z32) 24 (u8s p).toArray
    have C6 := Lib.hid (C5.out.below b6); have SA6 := Lib.hid ((SA4.out.below b5).below b6); have SB6 := Lib.hid ((SB4.out.below b5).below b6); have P6 := Lib.hid (P5.out.below b6 P5.out.lt)
    obtain ⟨g14, hg14⟩ : ∃ g, w3.heap.size = g := ⟨_, rfl⟩
    rw [hg14] at P6 ⊢
    clear b5 b6 C3 C4 SA4 SB4 P4 P5 R3 hg14
    go_wp2_with (first
      | ((with_reducible refine store_blk 24 (.tmp 16) (.tmp 59) w5.heap.size 24 (u8s z32) (u8s p) rfl rfl ?_ ?_ ?_ ?_ ?_ ?_ ?_); exact R5.out; exact (HZ.out p PL.out); exact size32 _ PL.out; exact u8s_one _; exact rfl; exact rfl)
      | ((with_reducible refine load_blk 26 (.tmp 5) (w.heap.size + 1) 26 (u8s (J ++ sd)) _ rfl rfl ?_ Tryd.underlying26 ?_ ?_ ?_ ?_); exact C6.out.s2; exact rfl; exact size48 _ HJS.out; exact rfl))
    -- Sign of the second
    refine (SG2.out _ C6.out).mono ?_
    rintro e w7 ⟨v, rfl, f7⟩
    obtain ⟨B, cb, rfl, hcb, sr7, b7⟩ := fresh_open f7
    rw [QL.out] at hcb ⊢
    have HCB := Lib.hid hcb; have SD7 := Lib.hid sr7; have C7 := Lib.hid (C6.out.below b7); have SA7 := Lib.hid (SA6.out.below b7); have SB7 := Lib.hid (SB6.out.below b7); have P7 := Lib.hid (P6.out.below b7 P6.out.lt); have Q7 := Lib.hid (Q6.out.below b7 Q6.out.lt)
    obtain ⟨g16, hg16⟩ : ∃ g, w5.heap.size = g := ⟨_, rfl⟩
    rw [hg16] at Q7 ⊢
    clear f7 hcb sr7 b7 C5 C6 SA6 SB6 P6 Q6 R5 hg16
    go_wp2_with ((with_reducible refine load_part 22 (.tmp 69) (w.heap.size + 1) 0 26 [] (u8s J) (u8s sd) _ rfl rfl ?_ rfl Tryd.underlying22 ?_ ?_ ?_ ?_); exact C7.out.part2; exact rfl; exact size16 _ HJ.out; exact rfl)
    refine (cand_t J sh xs k 0 1 P B m cc 8516 cb _ rfl HJ.out HJB.out hk32 (by decide) HX.out (HP.out.below C7.out.bel) HXB.out HCC.out (by omega) QL.out SD7.out QB.out HCB.out rfl QV.out C7.out.kat C7.out.ki).mono ?_
    rintro e w8 ⟨rfl, b8⟩
    rw [QCS.out]
    have C8 := Lib.hid (C7.out.below b8); have P8 := Lib.hid (P7.out.below b8 P7.out.lt); have Q8 := Lib.hid (Q7.out.below b8 Q7.out.lt)
    have R8 := Lib.hid (Blk.new w8 24 (u8s z32))
    have T9 := Lib.hid (R8.out.setRow (u8s r))
    have b9 := below_store w8 (u8s z32) 24 (u8s r).toArray
    have C9 := Lib.hid (C8.out.below b9); have SA9 := Lib.hid ((SA7.out.below b8).below b9); have SB9 := Lib.hid ((SB7.out.below b8).below b9); have P9 := Lib.hid (P8.out.below b9 P8.out.lt); have Q9 := Lib.hid (Q8.out.below b9 Q8.out.lt)
    clear b8 b9 C7 SA7 SB7 P7 Q7 P8 Q8 SD7
    go_wp2_with (first
      | ((with_reducible refine store_blk 24 (.tmp 20) (.tmp 75) w8.heap.size 24 (u8s z32) (u8s r) rfl rfl ?_ ?_ ?_ ?_ ?_ ?_ ?_); exact R8.out; exact (HZ.out r RL.out); exact size32 _ RL.out; exact u8s_one _; exact rfl; exact rfl)
      | ((with_reducible refine load_blk 26 (.tmp 5) (w.heap.size + 1) 26 (u8s (J ++ sd)) _ rfl rfl ?_ Tryd.underlying26 ?_ ?_ ?_ ?_); exact C9.out.s2; exact rfl; exact size48 _ HJS.out; exact rfl))
    refine (PG2.out _ C9.out).mono ?_
    rintro e w10 ⟨rfl, b10⟩
    have C10 := Lib.hid (C9.out.below b10); have P10 := Lib.hid (P9.out.below b10 P9.out.lt); have Q10 := Lib.hid (Q9.out.below b10 Q9.out.lt); have T10 := Lib.hid (T9.out.below b10 T9.out.lt)
    have R10 := Lib.hid (Blk.new w10 24 (u8s z32))
    have U11 := Lib.hid (R10.out.setRow (u8s r))
    have b11 := below_store w10 (u8s z32) 24 (u8s r).toArray
    have C11 := Lib.hid (C10.out.below b11); have SA11 := Lib.hid ((SA9.out.below b10).below b11); have SB11 := Lib.hid ((SB9.out.below b10).below b11); have P11 := Lib.hid (P10.out.below b11 P10.out.lt); have Q11 := Lib.hid (Q10.out.below b11 Q10.out.lt); have T11 := Lib.hid (T10.out.below b11 T10.out.lt)
    obtain ⟨g20, hg20⟩ : ∃ g, w8.heap.size = g := ⟨_, rfl⟩
    rw [hg20] at T11 ⊢
    clear b10 b11 C8 C9 SA9 SB9 P9 Q9 T9 P10 Q10 T10 R8 hg20
    go_wp2_with ((with_reducible refine store_blk 24 (.tmp 22) (.tmp 81) w10.heap.size 24 (u8s z32) (u8s r) rfl rfl ?_ ?_ ?_ ?_ ?_ ?_ ?_); exact R10.out; exact (HZ.out r RL.out); exact size32 _ RL.out; exact u8s_one _; exact rfl; exact rfl)
    refine (told_t _ C11.out.ki).mono ?_
    rintro e w12 ⟨rfl, b12⟩
    have C12 := Lib.hid (C11.out.below b12); have SA12 := Lib.hid (SA11.out.below b12); have SB12 := Lib.hid (SB11.out.below b12); have P12 := Lib.hid (P11.out.below b12 P11.out.lt); have Q12 := Lib.hid (Q11.out.below b12 Q11.out.lt); have T12 := Lib.hid (T11.out.below b12 T11.out.lt); have U12 := Lib.hid (U11.out.below b12 U11.out.lt)
    obtain ⟨g22, hg22⟩ : ∃ g, w10.heap.size = g := ⟨_, rfl⟩
    rw [hg22] at U12 ⊢
    clear b12 C10 C11 SA11 SB11 P11 Q11 T11 U11 R10 hg22
    go_wp2_with fail
    refine (same_texts sg sg A A2 8516 8516 ca ca2 w12 SL.out SL.out SA12.out SB12.out SB.out SB.out).mono ?_
    rintro e w' ⟨rfl, rfl⟩
    rw [show decide (sg = sg) = true from decide_eq_true rfl]
    have he := eql_same p PL.out
    have he2 := eql_same r RL.out
    by_cases hst : I = J ∧ seed = sd
    · have hpr := HPQ.out hst
      have hne : ∀ W, (binOp .neq 26 (.agg (u8s (I ++ seed)).toArray) (.agg (u8s (J ++ sd)).toArray)).run Tryd.prog W = .ok (.bool false) W := fun W => by
        rw [neq_secret I seed J sd HI.out HJ.out HS.out HT.out W]; simp [hst.1, hst.2]
      subst hpr
      clear hst he2
      go_wp2_with (first
        | ((with_reducible refine load_blk_g 24 (.tmp 14) g14 24 (u8s r) _ ?_ rfl ?_ Tryd.underlying24 ?_ ?_ ?_ ?_); kernel_rfl; exact P12.out; exact rfl; exact size32 _ PL.out; exact rfl)
        | ((with_reducible refine load_blk_g 24 (.tmp 16) g16 24 (u8s r) _ ?_ rfl ?_ Tryd.underlying24 ?_ ?_ ?_ ?_); kernel_rfl; exact Q12.out; exact rfl; exact size32 _ PL.out; exact rfl)
        | ((with_reducible refine load_blk_g 24 (.tmp 20) g20 24 (u8s r) _ ?_ rfl ?_ Tryd.underlying24 ?_ ?_ ?_ ?_); kernel_rfl; exact T12.out; exact rfl; exact size32 _ RL.out; exact rfl)
        | ((with_reducible refine load_blk_g 24 (.tmp 22) g22 24 (u8s r) _ ?_ rfl ?_ Tryd.underlying24 ?_ ?_ ?_ ?_); kernel_rfl; exact U12.out; exact rfl; exact size32 _ RL.out; exact rfl)
        | ((with_reducible refine load_blk_g 26 (.tmp 4) w.heap.size 26 (u8s (I ++ seed)) _ ?_ rfl ?_ Tryd.underlying26 ?_ ?_ ?_ ?_); kernel_rfl; exact C12.out.s1; exact rfl; exact size48 _ HIS.out; exact rfl)
        | ((with_reducible refine load_blk_g 26 (.tmp 5) (w.heap.size + 1) 26 (u8s (J ++ sd)) _ ?_ rfl ?_ Tryd.underlying26 ?_ ?_ ?_ ?_); kernel_rfl; exact C12.out.s2; exact rfl; exact size48 _ HJS.out; exact rfl))
      go_ret
      exact ⟨rfl, C12.out.bel⟩
    · have hne : ∀ W, (binOp .neq 26 (.agg (u8s (I ++ seed)).toArray) (.agg (u8s (J ++ sd)).toArray)).run Tryd.prog W = .ok (.bool true) W := fun W => by
        rw [neq_secret I seed J sd HI.out HJ.out HS.out HT.out W]
        have : (decide (I = J) && decide (seed = sd)) = false := by rw [← Bool.decide_and]; exact decide_eq_false hst
        rw [this]; rfl
      clear hst
      go_wp2_with (first
        | ((with_reducible refine load_blk_gd 118 24 (.tmp 14) g14 24 (u8s p) _ ?_ ?_ rfl ?_ Tryd.underlying24 ?_ ?_ ?_ ?_); exact rfl; kernel_rfl; exact P12.out; exact rfl; exact size32 _ PL.out; exact rfl)
        | ((with_reducible refine load_blk_g 24 (.tmp 16) g16 24 (u8s p) _ ?_ rfl ?_ Tryd.underlying24 ?_ ?_ ?_ ?_); kernel_rfl; exact Q12.out; exact rfl; exact size32 _ PL.out; exact rfl)
        | ((with_reducible refine load_blk_g 24 (.tmp 20) g20 24 (u8s r) _ ?_ rfl ?_ Tryd.underlying24 ?_ ?_ ?_ ?_); kernel_rfl; exact T12.out; exact rfl; exact size32 _ RL.out; exact rfl)
        | ((with_reducible refine load_blk_gd 124 24 (.tmp 22) g22 24 (u8s r) _ ?_ ?_ rfl ?_ Tryd.underlying24 ?_ ?_ ?_ ?_); exact rfl; kernel_rfl; exact U12.out; exact rfl; exact size32 _ RL.out; exact rfl)
        | ((with_reducible refine load_blk_g 26 (.tmp 4) w.heap.size 26 (u8s (I ++ seed)) _ ?_ rfl ?_ Tryd.underlying26 ?_ ?_ ?_ ?_); kernel_rfl; exact C12.out.s1; exact rfl; exact size48 _ HIS.out; exact rfl)
        | ((with_reducible refine load_blk_g 26 (.tmp 5) (w.heap.size + 1) 26 (u8s (J ++ sd)) _ ?_ rfl ?_ Tryd.underlying26 ?_ ?_ ?_ ?_); kernel_rfl; exact C12.out.s2; exact rfl; exact size48 _ HJS.out; exact rfl))
      go_ret
      exact ⟨rfl, C12.out.bel⟩
end Go.Proofs.YtbffbglbclkadaaDoor
