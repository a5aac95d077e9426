/-
  OtsWide walked.
-/
import Derived.Test.YtbffbglbclkadaaDoorOtN
namespace Go.Proofs.YtbffbglbclkadaaDoor
open Go Go.RowKit Sh

theorem mod_of (m : Nat) (hm : 0 < m) (hm2 : m ≤ 1000) (n : Int) : ∃ k : Nat, k < m ∧ wrap64 ((IntKind.u64.wrap n).tmod (m : Int)) = (k : Int) := by
  have h0 : 0 ≤ IntKind.u64.wrap n := by simp [IntKind.wrap, IntKind.bits, IntKind.signed]; omega
  rw [Int.tmod_eq_emod_of_nonneg h0]
  generalize IntKind.u64.wrap n = x at *
  have h3 : 0 ≤ x % (m : Int) := Int.emod_nonneg _ (by omega)
  have h4 : x % (m : Int) < (m : Int) := Int.emod_lt_of_pos _ (by omega)
  refine ⟨(x % (m : Int)).toNat, by omega, ?_⟩
  generalize x % (m : Int) = y at *
  unfold wrap64
  omega
/-- What a law has laid down: its secret, in a block of its own. -/
structure LCap (w0 w : World) (gs : Nat) (I seed : List Nat) : Prop where
  sec : Blk w gs 26 (u8s (I ++ seed))
  bel : Below w0.heap.size w0 w
theorem LCap.below {w0 w w' : World} {gs : Nat} {I seed : List Nat} (h : LCap w0 w gs I seed) (hb : Below w.heap.size w w') : LCap w0 w' gs I seed :=
  ⟨h.sec.below hb h.sec.lt, h.bel.trans (hb.mono h.bel.size)⟩
theorem LCap.part {w0 w : World} {gs : Nat} {I seed : List Nat} (h : LCap w0 w gs I seed) : Blk w gs 26 ([] ++ (u8s I ++ u8s seed)) := by
  rw [List.nil_append, ← u8s_app]; exact h.sec
theorem below_store (w : World) (cs : List Value) (t : TypeId) (ds : Array Value) : Below w.heap.size w ((w.alloc (.cells cs.toArray t)).setRow w.heap.size ds) := below_setRow ((Below.refl _ _).alloc (Nat.le_refl _) _) (Nat.le_refl _) _
/-- A row of the call's own, taken apart. -/
theorem fresh_open {w w' : World} {v : Value} {l : List Nat} (h : Fresh 5 w w' v l) : ∃ A c, v = .slice A l.length c ∧ l.length ≤ c ∧ Sr w' A l ∧ Below w.heap.size w w' := by
  obtain ⟨A, c, e, hc⟩ := own_form h.1
  subst e
  exact ⟨A, c, rfl, hc, Sr.of_own h.1, h.2⟩
set_option maxRecDepth 100000 in
set_option maxHeartbeats 2000000 in
theorem wide_t (I seed xs : List Nat) (q : Int) (P : Option Addr) (m cc : Nat) (w : World) (hI : I.length = 16) (hIb : Bytes I) (hs : seed.length = 32) (hsb : Bytes seed) (hx : xs.length = m) (hp : Sr w P xs) (hxb : Bytes xs) (hcc : m ≤ cc) (hml : m ≤ 9223372036854775807) (hk : KAt w) (hki : KI w) :
    Calls Tryd.prog 10 #[.agg (u8s (I ++ seed)).toArray, .int .i64 q, .slice P m cc] w fun e w' => e = .returned (.bool true) ∧ Below w.heap.size w w' := by
  have HI := Lib.hid hI; have HIB := Lib.hid hIb; have HS := Lib.hid hs; have HSB := Lib.hid hsb; have HX := Lib.hid hx; have HP := Lib.hid hp; have HXB := Lib.hid hxb; have HCC := Lib.hid hcc
  have B0 := Lib.hid ((Below.refl w.heap.size w).alloc (Nat.le_refl _) (.cells (u8s (I ++ seed)).toArray 26))
  have KI0 := Lib.hid (hki.kept B0.out); have KA0 := Lib.hid (hk.below B0.out hk.lt)
  have C0 := Lib.hid (show LCap w (w.alloc (.cells (u8s (I ++ seed)).toArray 26)) w.heap.size I seed from ⟨Blk.new w _ _, B0.out⟩)
  clear hI hIb hs hsb hx hp hxb hcc hk hki
  by_cases hbig : 40 < m
  · go_enter Tryd.func10, Tryd.ntmps10
    go_wp2_with fail
    refine (told_t _ KI0.out).mono ?_
    rintro e w2 ⟨rfl, b2⟩
    go_wp2_with fail
    go_ret
    exact ⟨rfl, B0.out.trans (b2.mono B0.out.size)⟩
  · have m1 : (m : Int) ≤ 40 := by omega
    have hS48 := Lib.hid (show (I ++ seed).length = 48 by rw [List.length_append, HI.out, HS.out])
    obtain ⟨k, hk32, hke⟩ := mod_of 32 (by decide) (by decide) q
    rw [show ((32 : Nat) : Int) = 32 from rfl] at hke
    clear hbig
    go_enter Tryd.func10, Tryd.ntmps10
    go_wp2_with ((with_reducible refine load_blk 26 (.tmp 3) w.heap.size 26 (u8s (I ++ seed)) _ rfl rfl ?_ Tryd.underlying26 ?_ ?_ ?_ ?_); exact C0.out.sec; exact rfl; exact size48 _ hS48.out; exact rfl)
    clear hke
    refine (public_t I seed k 3 8 _ rfl HI.out HIB.out HS.out HSB.out hk32 (by decide) KA0.out KI0.out).mono ?_
    rintro e w1 ⟨rfl, b1⟩
    have C1 := Lib.hid (C0.out.below b1); have KI1 := Lib.hid (KI0.out.kept b1); have KA1 := Lib.hid (KA0.out.below b1 KA0.out.lt)
    clear b1 C0 KI0 KA0 B0
    have PL := Lib.hid (pubN_length I seed k 3)
    have HCS := Lib.hid (cand_sign I seed k 3 xs)
    obtain ⟨p, hp⟩ : ∃ p, pubN I seed k 3 = p := ⟨_, rfl⟩
    rw [hp] at PL HCS ⊢
    have HZP := Lib.hid (show (u8s z32).length = (u8s p).length by rw [u8s_length, u8s_length, PL.out]; rfl)
    have R1 := Lib.hid (Blk.new w1 24 (u8s z32))
    have P2 := Lib.hid (R1.out.setRow (u8s p))
    have b2 := below_store w1 (u8s z32) 24 (u8s p).toArray
    have C2 := Lib.hid (C1.out.below b2); have KI2 := Lib.hid (KI1.out.kept b2); have KA2 := Lib.hid (KA1.out.below b2 KA1.out.lt)
    clear b2 hp C1 KI1 KA1
    go_wp2_with (first
      | ((with_reducible refine store_blk 24 (.tmp 8) (.tmp 26) w1.heap.size 24 (u8s z32) (u8s p) rfl rfl ?_ ?_ ?_ ?_ ?_ ?_ ?_); exact R1.out; exact HZP.out; exact size32 _ PL.out; exact u8s_one _; exact rfl; exact rfl)
      | ((with_reducible refine load_blk 26 (.tmp 3) w.heap.size 26 (u8s (I ++ seed)) _ rfl rfl ?_ Tryd.underlying26 ?_ ?_ ?_ ?_); exact C2.out.sec; exact rfl; exact size48 _ hS48.out; exact rfl))
    refine (sign_t I seed xs k 3 8 P m cc _ rfl HI.out HIB.out HS.out HSB.out hk32 (by decide) HX.out (HP.out.below C2.out.bel) HXB.out HCC.out (by omega) KA2.out KI2.out).mono ?_
    rintro e w3 ⟨v, rfl, f3⟩
    obtain ⟨A, ca, rfl, hca, sr3, b3⟩ := fresh_open f3
    have SL := Lib.hid (sigN_length I seed k 3 xs)
    have SB := Lib.hid (sigN_bytes I seed k 3 xs (by decide) HIB.out HSB.out)
    have SV := Lib.hid (sig_code I seed k 3 xs (by decide))
    obtain ⟨sg, hsg⟩ : ∃ s, sigN I seed k 3 xs = s := ⟨_, rfl⟩
    rw [hsg] at SL SB SV HCS hca sr3 ⊢
    rw [SL.out, show 36 + 32 * (kd 3).p = 1124 from rfl] at hca ⊢
    have HCA := Lib.hid hca; have SR3 := Lib.hid sr3
    have C3 := Lib.hid (C2.out.below b3); have KI3 := Lib.hid (KI2.out.kept b3); have KA3 := Lib.hid (KA2.out.below b3 KA2.out.lt); have P3 := Lib.hid (P2.out.below b3 P2.out.lt)
    obtain ⟨gp, hgp⟩ : ∃ g, w1.heap.size = g := ⟨_, rfl⟩
    rw [hgp] at P3 ⊢
    clear f3 hca sr3 b3 hsg C2 KI2 KA2 P2 R1 hgp
    go_wp2_with ((with_reducible refine load_part 22 (.tmp 36) w.heap.size 0 26 [] (u8s I) (u8s seed) _ rfl rfl ?_ rfl Tryd.underlying22 ?_ ?_ ?_ ?_); exact C3.out.part; exact rfl; exact size16 _ HI.out; exact rfl)
    refine (cand_t I sg xs k 3 8 P A m cc 1124 ca w3 rfl HI.out HIB.out hk32 (by decide) HX.out (HP.out.below C3.out.bel) HXB.out HCC.out (by omega) SL.out SR3.out SB.out HCA.out rfl SV.out KA3.out KI3.out).mono ?_
    rintro e w4 ⟨rfl, b4⟩
    rw [HCS.out]
    have C4 := Lib.hid (C3.out.below b4); have KI4 := Lib.hid (KI3.out.kept b4); have P4 := Lib.hid (P3.out.below b4 P3.out.lt)
    clear b4 C3 KI3 KA3 P3 SR3
    have R4 := Lib.hid (Blk.new w4 24 (u8s z32))
    have Q5 := Lib.hid (R4.out.setRow (u8s p))
    have b5 := below_store w4 (u8s z32) 24 (u8s p).toArray
    have C5 := Lib.hid (C4.out.below b5); have KI5 := Lib.hid (KI4.out.kept b5); have P5 := Lib.hid (P4.out.below b5 P4.out.lt)
    clear b5 C4 KI4 P4
    go_wp2_with ((with_reducible refine store_blk 24 (.tmp 12) (.tmp 42) w4.heap.size 24 (u8s z32) (u8s p) rfl rfl ?_ ?_ ?_ ?_ ?_ ?_ ?_); exact R4.out; exact HZP.out; exact size32 _ PL.out; exact u8s_one _; exact rfl; exact rfl)
    refine (told_t _ KI5.out).mono ?_
    rintro e w6 ⟨rfl, b6⟩
    have C6 := Lib.hid (C5.out.below b6); have P6 := Lib.hid (P5.out.below b6 P5.out.lt); have Q6 := Lib.hid (Q5.out.below b6 Q5.out.lt)
    obtain ⟨gq, hgq⟩ : ∃ g, w4.heap.size = g := ⟨_, rfl⟩
    rw [hgq] at Q6 ⊢
    clear b6 C5 KI5 P5 Q5 R4 hgq
    have he := eql_same p PL.out
    go_wp2_with (first
      | ((with_reducible refine load_blk_g 24 (.tmp 12) gq 24 (u8s p) _ ?_ rfl ?_ Tryd.underlying24 ?_ ?_ ?_ ?_); kernel_rfl; exact Q6.out; exact rfl; exact size32 _ PL.out; exact rfl)
      | ((with_reducible refine load_blk_g 24 (.tmp 8) gp 24 (u8s p) _ ?_ rfl ?_ Tryd.underlying24 ?_ ?_ ?_ ?_); kernel_rfl; exact P6.out; exact rfl; exact size32 _ PL.out; exact rfl))
    go_ret
    exact ⟨rfl, C6.out.bel⟩
end Go.Proofs.YtbffbglbclkadaaDoor
