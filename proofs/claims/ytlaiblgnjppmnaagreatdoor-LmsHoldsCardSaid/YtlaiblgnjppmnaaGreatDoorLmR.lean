/-
  LmsHolds walked.
-/
import Derived.Test.YtlaiblgnjppmnaaGreatDoorLmQ
namespace Go.Proofs.YtlaiblgnjppmnaaGreatDoor
open Go Go.RowKit Sh

/-- A signature of another length than one that holds does not. -/
theorem verN_len {P M S M' S' : List Nat} (h : verN P M S = 0) (hl : S'.length ≠ S.length) : verN P M' S' = 3 := by
  have hf := form_of_sign h
  unfold verN at h ⊢
  rw [if_pos hf] at h ⊢
  split at h
  · rename_i hc
    have hlen : S.length = lszN (val ((P.drop 4).take 4) - 1) := by
      unfold lcandN at hc
      split at hc
      · rename_i hx
        exact hx.1
      · cases hc
    rw [if_neg]
    intro hc'
    unfold lcandN at hc'
    split at hc'
    · rename_i hx
      exact hl (hx.1.trans hlen.symm)
    · cases hc'
  · cases h
/-- Key, two signatures, two messages. -/
structure HFive (w0 w : World) (A B C D E : Option Addr) (pub sa sb xs ys : List Nat) : Prop where
  p : Sr w A pub
  a : Sr w B sa
  b : Sr w C sb
  x : Sr w D xs
  y : Sr w E ys
  bel : Below w0.heap.size w0 w
theorem HFive.below {w0 w w' : World} {A B C D E : Option Addr} {pub sa sb xs ys : List Nat} (h : HFive w0 w A B C D E pub sa sb xs ys) (hb : Below w.heap.size w w') : HFive w0 w' A B C D E pub sa sb xs ys :=
  ⟨h.p.below hb, h.a.below hb, h.b.below hb, h.x.below hb, h.y.below hb, h.bel.trans (hb.mono h.bel.size)⟩
set_option maxRecDepth 100000 in
set_option maxHeartbeats 4000000 in
theorem lholds_t (I seed xs ys : List Nat) (p0 q0 at_ : Int) (x : Nat) (P0 R0 : Option Addr) (m cc m2 cc2 : Nat) (w : World) (hI : I.length = 16) (hIb : Bytes I) (hs : seed.length = 32) (hsb : Bytes seed) (hx : xs.length = m) (hp : Sr w P0 xs) (hxb : Bytes xs) (hcc : m ≤ cc) (hml : m ≤ 9223372036854775807)
    (hy : ys.length = m2) (hr : Sr w R0 ys) (hyb : Bytes ys) (hcc2 : m2 ≤ cc2) (hml2 : m2 ≤ 9223372036854775807) (hx8 : x < 256) (hk : KAt w) (hki : KI w) :
    Calls Tryz.prog 5 #[.agg (u8s (I ++ seed)).toArray, .int .i64 p0, .int .i64 q0, .slice P0 m cc, .slice R0 m2 cc2, .int .i64 at_, .int .u8 (x : Int)] w fun e w' => e = .returned (.bool true) ∧ Below w.heap.size w w' := by
  have HI := Lib.hid hI
  have HIS := Lib.hid (show (I ++ seed).length = 48 by rw [List.length_append, hI, hs])
  have S0 := Lib.hid (Blk.new w 26 (u8s (I ++ seed)))
  have B0 := Lib.hid ((Below.refl w.heap.size w).alloc (Nat.le_refl _) (.cells (u8s (I ++ seed)).toArray 26))
  have TO := Lib.hid (fun W (h : Below w.heap.size w W) => ltold_t W (hki.kept h))
  by_cases hbig : 60 < m ∨ 60 < m2
  · clear hI hIb hs hsb hx hp hxb hcc hk hki hy hr hyb hcc2
    by_cases h1 : 60 < m
    · clear hbig
      go_enter Tryz.func5, Tryz.ntmps5
      go_wp2_with fail
      refine (TO.out _ B0.out).mono ?_
      rintro e w2 ⟨rfl, b2⟩
      go_wp2_with fail
      go_ret
      exact ⟨rfl, B0.out.trans (b2.mono B0.out.size)⟩
    · have h2 : 60 < m2 := by omega
      have h3 : m ≤ 60 := by omega
      clear hbig h1
      go_enter Tryz.func5, Tryz.ntmps5
      go_wp2_with fail
      refine (TO.out _ B0.out).mono ?_
      rintro e w2 ⟨rfl, b2⟩
      go_wp2_with fail
      go_ret
      exact ⟨rfl, B0.out.trans (b2.mono B0.out.size)⟩
  · have m1 : (m : Int) ≤ 60 := by omega
    have m21 : (m2 : Int) ≤ 60 := by omega
    obtain ⟨k, hk32, hke⟩ := mod_of 32 (by decide) (by decide) p0
    obtain ⟨l, hl32, hle⟩ := mod_of 32 (by decide) (by decide) q0
    rw [show ((32 : Nat) : Int) = 32 from rfl] at hke hle
    obtain ⟨j, hj, hje⟩ := mod_big 4460 (by decide) (by decide) at_
    rw [show ((4460 : Nat) : Int) = 4460 from rfl] at hje
    have NW := Lib.hid (fun W (h : Below w.heap.size w W) => new_ok I seed 2 1 W hI hs (by decide) rfl (hk.below h hk.lt) (hki.kept h))
    have SG := Lib.hid (fun W gs g (h : LPCap w W gs g I seed) => tree_sign_t I seed xs 2 1 g k P0 m cc W hI hIb hs hsb (by decide) rfl hk32 hx (hp.below h.bel) hxb hcc (by omega) h.st (hk.below h.bel hk.lt) (hki.kept h.bel))
    have SH := Lib.hid (fun W gs g (h : LPCap w W gs g I seed) => tree_sign_t I seed ys 2 1 g l R0 m2 cc2 W hI hIb hs hsb (by decide) rfl hl32 hy (hr.below h.bel) hyb hcc2 (by omega) h.st (hk.below h.bel hk.lt) (hki.kept h.bel))
    have PBL := Lib.hid (fun W gs g (h : LPCap w W gs g I seed) => tree_pub_t I seed 2 1 g W hI hIb hs hsb (by decide) rfl h.st (hk.below h.bel hk.lt) (hki.kept h.bel))
    have LL := Lib.hid (show (lsigN I seed 1 k xs).length = 4460 from lsigN_length I seed 1 k xs hk32)
    have LB := Lib.hid (lsigN_bytes I seed 1 k xs (by decide) hIb hsb)
    have ML := Lib.hid (show (lsigN I seed 1 l ys).length = 4460 from lsigN_length I seed 1 l ys hl32)
    have MB := Lib.hid (lsigN_bytes I seed 1 l ys (by decide) hIb hsb)
    have UL := Lib.hid (lpubN_length I seed 1 hI)
    have UB := Lib.hid (lpubN_bytes I seed 1 (by decide) hIb hsb)
    have VS := Lib.hid (verN_sign I seed 1 k xs (by decide) hk32 hI)
    have VT := Lib.hid (verN_sign I seed 1 l ys (by decide) hl32 hI)
    have HXL := Lib.hid hx; have HXB := Lib.hid hxb; have HCC := Lib.hid hcc; have HYL := Lib.hid hy; have HYB := Lib.hid hyb; have HCC2 := Lib.hid hcc2
    have HPX := Lib.hid (fun W (h : Below w.heap.size w W) => hp.below h)
    have HPY := Lib.hid (fun W (h : Below w.heap.size w W) => hr.below h)
    have VF := Lib.hid (fun W (A B C : Option Addr) (P M S : List Nat) (n0 c0 n1 c1 n2 c2 : Nat) (h : Trio w W A B C P M S) (h1 : P.length = n0) (h2 : Bytes P) (h3 : M.length = n1) (h4 : Bytes M) (h5 : n1 ≤ c1) (h6 : n1 ≤ 100000) (h7 : S.length = n2) (h8 : Bytes S) (h9 : n0 ≤ 100000 ∧ n2 ≤ 100000) =>
      verify_t P M S A B C n0 c0 n1 c1 n2 c2 W h1 h.p h2 (by omega) h3 h.m h4 h5 (by omega) h7 h.s h8 (by omega) (hk.below h.bel hk.lt) (hki.kept h.bel))
    have RV := Lib.hid (fun W (A B C : Option Addr) (P M S : List Nat) (n0 c0 n1 c1 n2 c2 : Nat) (h : Trio w W A B C P M S) (h1 : P.length = n0) (h2 : Bytes P) (h3 : n0 ≤ c0) (h4 : M.length = n1) (h5 : Bytes M) (h6 : n1 ≤ 100000) (h7 : S.length = n2) (h8 : Bytes S) (h9 : n2 ≤ c2) (h10 : n0 ≤ 100000 ∧ n2 ≤ 100000) =>
      refver_any P M S A B C n0 c0 n1 c1 n2 c2 W h1 h.p h2 h3 (by omega) h4 h.m h5 h6 h7 h.s h8 h9 (by omega))
    have l1 := Lib.hid (show m ≤ 100000 by omega); have l2 := Lib.hid (show m2 ≤ 100000 by omega); have l3 := Lib.hid (show 56 ≤ 100000 ∧ 4460 ≤ 100000 by decide)
    rw [show 204 + 32 * (kd 1).p = 4460 from rfl] at SG SH
    obtain ⟨sa, hsa⟩ : ∃ x, lsigN I seed 1 k xs = x := ⟨_, rfl⟩
    obtain ⟨sb, hsb2⟩ : ∃ x, lsigN I seed 1 l ys = x := ⟨_, rfl⟩
    obtain ⟨pub, hpub⟩ : ∃ x, lpubN I seed 1 = x := ⟨_, rfl⟩
    rw [hsa] at SG LL LB VS
    rw [hsb2] at SH ML MB VT
    rw [hpub] at PBL UL UB VS VT
    clear hI hIb hs hsb hx hp hxb hcc hk hki hsa hsb2 hpub hbig hy hr hyb hcc2
    go_enter Tryz.func5, Tryz.ntmps5
    go_wp2_with ((with_reducible refine load_blk 26 (.tmp 7) w.heap.size 26 (u8s (I ++ seed)) _ rfl rfl ?_ Tryz.underlying26 ?_ ?_ ?_ ?_); exact S0.out; exact rfl; exact size48 _ HIS.out; exact rfl)
    refine (NW.out _ B0.out).mono ?_
    rintro e w1 ⟨g, rfl, st1, hg, b1⟩
    have C1 := Lib.hid (show LPCap w w1 w.heap.size g I seed from ⟨S0.out.below b1 S0.out.lt, st1, B0.out.trans (b1.mono B0.out.size), Nat.le_refl _, by have := S0.out.lt; omega⟩)
    clear st1 hg b1 S0 B0 NW
    go_wp2_with fail
    simp only [hke]
    clear hke
    refine (SG.out _ _ _ C1.out).mono ?_
    rintro e w2 ⟨u, rfl, o2, st2, b2⟩
    obtain ⟨ga, ca, rest, rfl, hca, hga, ba2⟩ := own_blkp o2 (by decide)
    have hgw := C1.out.st.lt
    have hne : ga ≠ g := by omega
    have C2 := Lib.hid (C1.out.but b2 st2); have O2 := Lib.hid o2; have HCA := Lib.hid hca
    have hgl2 : ga < w2.heap.size := ba2.lt
    clear o2 st2 b2 ba2 hca C1 SG rest
    go_wp2_with fail
    simp only [hle]
    clear hle
    refine (SH.out _ _ _ C2.out).mono ?_
    rintro e w3 ⟨u, rfl, o3, st3, b3⟩
    obtain ⟨gb, cb, rest, rfl, hcb, hgb, ba3⟩ := own_blkp o3 (by decide)
    have hg2 := C2.out.st.lt
    have hneb : gb ≠ g := by omega
    have C3 := Lib.hid (C2.out.but b3 st3); have O3 := Lib.hid (own_of_but O2.out b3 hgl2 hne); have Q3 := Lib.hid o3; have HCB := Lib.hid hcb
    have hgl3 : gb < w3.heap.size := ba3.lt
    have hgl4 : ga < w3.heap.size := by have := b3.size; omega
    clear o3 st3 b3 ba3 hcb C2 SH rest O2
    go_wp2_with fail
    refine (PBL.out w3 _ _ C3.out).mono ?_
    rintro e w4 ⟨u, rfl, o4, st4, b4⟩
    obtain ⟨gp, cp, rest, rfl, hcp, hgp, bp4⟩ := own_blkp o4 (by decide)
    have C4 := Lib.hid (C3.out.but b4 st4).bel
    have H4 := Lib.hid (show HFive w w4 (some ⟨gp, 0, none⟩) (some ⟨ga, 0, none⟩) (some ⟨gb, 0, none⟩) P0 R0 pub sa sb xs ys from
      ⟨Sr.of_own o4, Sr.of_own (own_of_but O3.out b4 hgl4 hne), Sr.of_own (own_of_but Q3.out b4 hgl3 hneb), HPX.out _ C4.out, HPY.out _ C4.out, C4.out⟩)
    have HCP := Lib.hid hcp
    clear o4 st4 b4 bp4 hcp hgp hga hgb rest C3 C4 O3 Q3 PBL hne hneb hgl2 hgl3 hgl4 hgw hg2 HPX HPY
    go_wp2_with fail
    refine (VF.out w4 _ _ _ _ _ _ _ _ _ _ _ _ ⟨H4.out.p, H4.out.x, H4.out.a, H4.out.bel⟩ UL.out UB.out HXL.out HXB.out HCC.out l1.out LL.out LB.out l3.out).mono ?_
    rintro e w5 ⟨rfl, b⟩
    rw [VS.out]
    have H5 := Lib.hid (H4.out.below b)
    clear b H4
    go_wp2_with fail
    refine (VF.out w5 _ _ _ _ _ _ _ _ _ _ _ _ ⟨H5.out.p, H5.out.y, H5.out.b, H5.out.bel⟩ UL.out UB.out HYL.out HYB.out HCC2.out l2.out ML.out MB.out l3.out).mono ?_
    rintro e w6 ⟨rfl, b⟩
    rw [VT.out]
    have H6 := Lib.hid (H5.out.below b)
    clear b H5
    go_wp2_with fail
    refine (VF.out w6 _ _ _ _ _ _ _ _ _ _ _ _ ⟨H6.out.p, H6.out.y, H6.out.a, H6.out.bel⟩ UL.out UB.out HYL.out HYB.out HCC2.out l2.out LL.out LB.out l3.out).mono ?_
    rintro e w7 ⟨rfl, b⟩
    have H7 := Lib.hid (H6.out.below b)
    clear b H6
    go_wp2_with fail
    refine (RV.out w7 _ _ _ _ _ _ _ _ _ _ _ _ ⟨H7.out.p, H7.out.y, H7.out.a, H7.out.bel⟩ UL.out UB.out HCP.out HYL.out HYB.out l2.out LL.out LB.out HCA.out l3.out).mono ?_
    rintro e w8 ⟨rfl, b⟩
    have H8 := Lib.hid (H7.out.below b)
    obtain ⟨z1, hz1⟩ : ∃ z, verN pub ys sa = z := ⟨_, rfl⟩
    rw [hz1]
    clear b H7 hz1
    go_wp2_with fail
    refine (VF.out w8 _ _ _ _ _ _ _ _ _ _ _ _ ⟨H8.out.p, H8.out.x, H8.out.b, H8.out.bel⟩ UL.out UB.out HXL.out HXB.out HCC.out l1.out ML.out MB.out l3.out).mono ?_
    rintro e w9 ⟨rfl, b⟩
    have H9 := Lib.hid (H8.out.below b)
    clear b H8
    go_wp2_with fail
    refine (RV.out w9 _ _ _ _ _ _ _ _ _ _ _ _ ⟨H9.out.p, H9.out.x, H9.out.b, H9.out.bel⟩ UL.out UB.out HCP.out HXL.out HXB.out l1.out ML.out MB.out HCB.out l3.out).mono ?_
    rintro e wa ⟨rfl, b⟩
    have HA := Lib.hid (H9.out.below b)
    obtain ⟨z2, hz2⟩ : ∃ z, verN pub xs sb = z := ⟨_, rfl⟩
    rw [hz2]
    clear b H9 hz2 ML MB HCB VT HYL HYB HCC2 l2
    by_cases hx0 : x = 0
    · have tx : ((x : Int) == 0) = true := by rw [beq_iff_eq]; omega
      clear hx0 hje
      go_wp2_with fail
      refine (TO.out _ HA.out.bel).mono ?_
      rintro e wb ⟨rfl, b⟩
      have HB := Lib.hid (HA.out.below b)
      clear b
      go_wp2_with fail
      go_ret
      exact ⟨rfl, HB.out.bel⟩
    · have tx : ((x : Int) == 0) = false := by rw [beq_eq_false_iff_ne]; omega
      have VN := Lib.hid (verN_len (M' := xs) (S' := sa.take j) VS.out (by rw [List.length_take, LL.out]; omega))
      have SA := Lib.hid (HA.out.a.below ((Below.refl wa.heap.size wa).alloc (Nat.le_refl _) (.cells #[] 5)))
      clear hx0 VS
      go_upto_region 16 with ((with_reducible refine at_op (.call { callee := .builtin .append, args := #[.tmp 114, .tmp 115], argTypes := #[27, 27] }) rfl ?_); go_must (refine append_bytes (.tmp 114) (.tmp 115) 27 rfl rfl 5 Tryz.underlying27 byte_info wa.heap.size (.slice (some ⟨wa.heap.size, 0, none⟩) 0 0) 0 [] sa rfl (own_empty _ _ _ (Nat.le_refl _) rfl) (some ⟨ga, 0, none⟩) 4460 ca rfl LL.out SA.out (by decide) (by simp) ?_); intro v1 wb a1 a2 a3)
      have bk : Below wa.heap.size wa wb := ((Below.refl wa.heap.size wa).alloc (Nat.le_refl _) (.cells #[] 5)).grown a2.out (by simp) (fun k e => by have := Option.some.inj e; simp at this; omega)
      have o1 := a1.out
      rw [List.nil_append, Nat.zero_add] at o1
      obtain ⟨gc, cc1, rest, rfl, hcc1, hgc, bc⟩ := own_blkp o1 (by decide)
      have HBK := Lib.hid bk; have OB := Lib.hid o1; have HCC1 := Lib.hid hcc1
      have cj : wb.cell? ⟨gc, j, none⟩ = some (.int .u8 ((gt sa j : Nat) : Int)) := by rw [o1.cellAt j (by omega), u8s_get _ _ (by rw [LL.out]; exact hj)]
      have fj := o1.frozenAt j
      have hxx := xor_u8n (gt sa j) x (LB.out j) hx8
      have i1 : (j : Int) < 4460 := by omega
      clear bk o1 a1 a2 a3 hcc1 bc rest SA
      go_upto_region 18 with (fail)
      rw [hje]
      clear cj fj hje hxx
      have TL := Lib.hid (show (sa.set j (gt sa j ^^^ x)).length = 4460 by rw [List.length_set, LL.out])
      have TB := Lib.hid (set_bytes LB.out j x hx8)
      have hs1 := slice_high (P := Tryz.prog) (t := 27) (e := 5) Tryz.underlying27 byte_size (some ⟨ga, 0, none⟩) 4460 ca .i64 j (by have := HCA.out; omega)
      refine world_is (fun Y => HFive w Y (some ⟨gp, 0, none⟩) (some ⟨ga, 0, none⟩) (some ⟨gb, 0, none⟩) P0 R0 pub sa sb xs ys ∧ Sr Y (some ⟨gc, 0, none⟩) (sa.set j (gt sa j ^^^ x)))
        ⟨HA.out.below (HBK.out.setCell (p := ⟨gc, j, none⟩) hgc _), Sr.of_own (own_turn OB.out j _)⟩ ?_
      clear HA HBK OB
      rintro Y ⟨h, hc⟩
      have HY := Lib.hid h; have SC := Lib.hid hc
      obtain ⟨T, hT⟩ : ∃ T, sa.set j (gt sa j ^^^ x) = T := ⟨_, rfl⟩
      rw [hT] at TL TB SC
      clear h hc hT
      go_wp2_with fail
      refine (TO.out _ HY.out.bel).mono ?_
      rintro e v1 ⟨rfl, b⟩
      have H1 := Lib.hid (HY.out.below b); have S1 := Lib.hid (SC.out.below b)
      clear b HY SC
      go_wp2_with fail
      refine (VF.out v1 _ _ _ _ _ _ _ _ _ _ _ _ ⟨H1.out.p, H1.out.x, S1.out, H1.out.bel⟩ UL.out UB.out HXL.out HXB.out HCC.out l1.out TL.out TB.out l3.out).mono ?_
      rintro e v2 ⟨rfl, b⟩
      have H2 := Lib.hid (H1.out.below b); have S2 := Lib.hid (S1.out.below b)
      clear b H1 S1
      go_wp2_with fail
      refine (RV.out v2 _ _ _ _ _ _ _ _ _ _ _ _ ⟨H2.out.p, H2.out.x, S2.out, H2.out.bel⟩ UL.out UB.out HCP.out HXL.out HXB.out l1.out TL.out TB.out HCC1.out l3.out).mono ?_
      rintro e v3 ⟨rfl, b⟩
      have H3 := Lib.hid (H2.out.below b)
      obtain ⟨z3, hz3⟩ : ∃ z, verN pub xs T = z := ⟨_, rfl⟩
      rw [hz3]
      clear b H2 S2 hz3
      have HTL := Lib.hid (show (sa.take j).length = j by rw [List.length_take, LL.out]; omega)
      go_wp2_with fail
      refine (VF.out v3 _ _ _ _ _ _ _ _ _ _ _ _ ⟨H3.out.p, H3.out.x, H3.out.a.take j, H3.out.bel⟩ UL.out UB.out HXL.out HXB.out HCC.out l1.out HTL.out (bytes_take LB.out j) (by omega)).mono ?_
      rintro e v4 ⟨rfl, b⟩
      rw [VN.out]
      have H4 := Lib.hid (H3.out.below b)
      clear b H3
      go_wp2_with fail
      go_ret
      exact ⟨by simp, H4.out.bel⟩
end Go.Proofs.YtlaiblgnjppmnaaGreatDoor
