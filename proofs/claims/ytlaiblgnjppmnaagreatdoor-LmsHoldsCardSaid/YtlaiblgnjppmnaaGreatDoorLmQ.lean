/-
  LmsVerifies walked.
-/
import Derived.Test.YtlaiblgnjppmnaaGreatDoorLmT
import Derived.Test.YtlaiblgnjppmnaaGreatDoorRgV
import Derived.Test.YtlaiblgnjppmnaaGreatDoorLmP
import Derived.Test.YtlaiblgnjppmnaaGreatDoorOtHolds
namespace Go.Proofs.YtlaiblgnjppmnaaGreatDoor
open Go Go.RowKit Sh

/-- Three texts that lie somewhere: a key, a message, a signature. -/
structure Trio (w0 w : World) (A B C : Option Addr) (P M S : List Nat) : Prop where
  p : Sr w A P
  m : Sr w B M
  s : Sr w C S
  bel : Below w0.heap.size w0 w
theorem Trio.below {w0 w w' : World} {A B C : Option Addr} {P M S : List Nat} (h : Trio w0 w A B C P M S) (hb : Below w.heap.size w w') : Trio w0 w' A B C P M S :=
  ⟨h.p.below hb, h.m.below hb, h.s.below hb, h.bel.trans (hb.mono h.bel.size)⟩
/-- What the law has laid down ahead of its turn. -/
structure VCap (w0 w : World) (gp cp ga ca : Nat) (pub sg : List Nat) (vm : Value) (n : Nat) (xs : List Nat) : Prop where
  op : w.ownsRow w0.heap.size 5 1 (.slice (some ⟨gp, 0, none⟩) 56 cp) 56 (u8s pub)
  oa : w.ownsRow w0.heap.size 5 1 (.slice (some ⟨ga, 0, none⟩) 4460 ca) 4460 (u8s sg)
  om : w.ownsRow w0.heap.size 5 1 vm n (u8s xs)
  ne : ga ≠ gp
  n1 : vm.ownBlock ≠ some gp
  n2 : vm.ownBlock ≠ some ga
  bel : Below w0.heap.size w0 w
theorem VCap.below {w0 w w' : World} {gp cp ga ca : Nat} {pub sg : List Nat} {vm : Value} {n : Nat} {xs : List Nat} (h : VCap w0 w gp cp ga ca pub sg vm n xs) (hb : Below w.heap.size w w') : VCap w0 w' gp cp ga ca pub sg vm n xs :=
  ⟨own_below h.op hb, own_below h.oa hb, own_below h.om hb, h.ne, h.n1, h.n2, h.bel.trans (hb.mono h.bel.size)⟩
theorem own_mono {w : World} {base base' : Nat} {e : TypeId} {size : Nat} {v : Value} {n : Nat} {xs : List Value} (h : w.ownsRow base e size v n xs) (hb : base' ≤ base) : w.ownsRow base' e size v n xs := own_base h (fun k hk => Nat.le_trans hb (h.lt k hk).1)
theorem own_sr {w : World} {base : Nat} {v : Value} {n : Nat} {l : List Nat} (h : w.ownsRow base 5 1 v n (u8s l)) : ∃ A c, v = .slice A n c ∧ n ≤ c ∧ Sr w A l := by
  obtain ⟨A, c, rfl, hc⟩ := own_form h
  exact ⟨A, c, rfl, hc, Sr.of_own h⟩
/-- A cell of an own row of bytes is turned. -/
theorem own_turn {w : World} {base g c n : Nat} {l : List Nat} (h : w.ownsRow base 5 1 (.slice (some ⟨g, 0, none⟩) n c) n (u8s l)) (j y : Nat) :
    (w.setCell ⟨g, j, none⟩ (.int .u8 (y : Int))).ownsRow base 5 1 (.slice (some ⟨g, 0, none⟩) n c) n (u8s (l.set j y)) := by
  rw [← u8s_set]
  exact (h.stored j _).1
theorem set_bytes {l : List Nat} (hb : Bytes l) (j x : Nat) (hx : x < 256) : Bytes (l.set j (gt l j ^^^ x)) := sl_bytes (fun y hy => by
    rcases List.mem_or_eq_of_mem_set hy with h | rfl
    · obtain ⟨q, hq, rfl⟩ := List.getElem_of_mem h
      have := hb q
      rwa [gt_of_lt hq] at this
    · exact Nat.xor_lt_two_pow (n := 8) (hb j) hx)
theorem form_of_sign {P M S : List Nat} (h : verN P M S = 0) : formN P = true := by
  unfold verN at h
  split at h
  · assumption
  · cases h
theorem own_of_but {w w' : World} {base g ga c n : Nat} {e : TypeId} {l : List Value} (h : w.ownsRow base e 1 (.slice (some ⟨ga, 0, none⟩) n c) n l) (hb : But w.heap.size g w w') (hl : ga < w.heap.size) (hne : ga ≠ g) : w'.ownsRow base e 1 (.slice (some ⟨ga, 0, none⟩) n c) n l := by
  refine ⟨h.1, ?_⟩
  rcases h.2 with ⟨e0, _⟩ | ⟨g', cap, cur, e0, hb', hh, r⟩
  · cases e0
  · have eg : ga = g' := by
      injection e0 with e1; injection e1 with e2; injection e2
    subst eg
    exact .inr ⟨ga, cap, cur, e0, hb', (hb.block ga hl hne).trans hh, r⟩
theorem one_bytes (x : Nat) (hx : x < 256) : Bytes [x] := sl_bytes (fun y hy => by obtain rfl := List.mem_singleton.1 hy; exact hx)
section
variable {w0 w : World} {gp cp ga ca n c : Nat} {pub sg xs : List Nat} {A : Option Addr}
theorem VCap.trio (h : VCap w0 w gp cp ga ca pub sg (.slice A n c) n xs) : Trio w0 w (some ⟨gp, 0, none⟩) A (some ⟨ga, 0, none⟩) pub xs sg := ⟨Sr.of_own h.op, Sr.of_own h.om, Sr.of_own h.oa, h.bel⟩
theorem VCap.turnP (h : VCap w0 w gp cp ga ca pub sg (.slice A n c) n xs) (j y : Nat) : Trio w0 (w.setCell ⟨gp, j, none⟩ (.int .u8 (y : Int))) (some ⟨gp, 0, none⟩) A (some ⟨ga, 0, none⟩) (pub.set j y) xs sg := by
  have hg := (h.op.stored j (.int .u8 (y : Int))).2
  exact ⟨Sr.of_own (own_turn h.op j y), Sr.of_own (h.om.kept hg (.inr h.n1)), Sr.of_own (h.oa.kept hg (.inr (by simpa [Value.ownBlock] using h.ne))), h.bel.setCell (p := ⟨gp, j, none⟩) (h.op.lt gp rfl).1 _⟩
theorem VCap.turnS (h : VCap w0 w gp cp ga ca pub sg (.slice A n c) n xs) (j y : Nat) : Trio w0 (w.setCell ⟨ga, j, none⟩ (.int .u8 (y : Int))) (some ⟨gp, 0, none⟩) A (some ⟨ga, 0, none⟩) pub xs (sg.set j y) := by
  have hg := (h.oa.stored j (.int .u8 (y : Int))).2
  exact ⟨Sr.of_own (h.op.kept hg (.inr (by simpa [Value.ownBlock] using h.ne.symm))), Sr.of_own (h.om.kept hg (.inr h.n2)), Sr.of_own (own_turn h.oa j y), h.bel.setCell (p := ⟨ga, j, none⟩) (h.oa.lt ga rfl).1 _⟩
theorem VCap.growM (h : VCap w0 w gp cp ga ca pub sg (.slice A n c) n xs) {w' : World} {A' : Option Addr} {n' c' : Nat} {xs' : List Nat} (hg : w.grownBy w' (Value.slice A n c).ownBlock) (ho : w'.ownsRow w0.heap.size 5 1 (.slice A' n' c') n' (u8s xs')) :
    Trio w0 w' (some ⟨gp, 0, none⟩) A' (some ⟨ga, 0, none⟩) pub xs' sg :=
  ⟨Sr.of_own (h.op.kept hg (.inr h.n1.symm)), Sr.of_own ho, Sr.of_own (h.oa.kept hg (.inr h.n2.symm)), h.bel.grown hg h.bel.size (fun k e => (h.om.lt k e).1)⟩
theorem VCap.growS (h : VCap w0 w gp cp ga ca pub sg (.slice A n c) n xs) {w' : World} {A' : Option Addr} {n' c' : Nat} {sg' : List Nat} (hg : w.grownBy w' (Value.slice (some ⟨ga, 0, none⟩) 4460 ca).ownBlock) (ho : w'.ownsRow w0.heap.size 5 1 (.slice A' n' c') n' (u8s sg')) :
    Trio w0 w' (some ⟨gp, 0, none⟩) A A' pub xs sg' :=
  ⟨Sr.of_own (h.op.kept hg (.inr (by simpa [Value.ownBlock] using h.ne.symm))), Sr.of_own (h.om.kept hg (.inr h.n2)), Sr.of_own ho, h.bel.grown hg h.bel.size (fun k e => (h.oa.lt k e).1)⟩
end
set_option maxRecDepth 100000 in
set_option maxHeartbeats 4000000 in
theorem verifies_t (I seed xs : List Nat) (q wh at_ : Int) (x : Nat) (P0 : Option Addr) (m cc : Nat) (w : World) (hI : I.length = 16) (hIb : Bytes I) (hs : seed.length = 32) (hsb : Bytes seed) (hx : xs.length = m) (hp : Sr w P0 xs) (hxb : Bytes xs) (hcc : m ≤ cc) (hml : m ≤ 9223372036854775807) (hx8 : x < 256) (hk : KAt w) (hki : KI w) :
    Calls Tryz.prog 4 #[.agg (u8s (I ++ seed)).toArray, .int .i64 q, .slice P0 m cc, .int .i64 wh, .int .i64 at_, .int .u8 (x : Int)] w fun e w' => e = .returned (.bool true) ∧ Below w.heap.size w w' := by
  have HI := Lib.hid hI
  have HIS := Lib.hid (show (I ++ seed).length = 48 by rw [List.length_append, hI, hs])
  have S0 := Lib.hid (Blk.new w 26 (u8s (I ++ seed)))
  have B0 := Lib.hid ((Below.refl w.heap.size w).alloc (Nat.le_refl _) (.cells (u8s (I ++ seed)).toArray 26))
  have TO := Lib.hid (fun W (h : Below w.heap.size w W) => ltold_t W (hki.kept h))
  by_cases hbig : 100 < m
  · clear hI hIb hs hsb hx hp hxb hcc hk hki
    go_enter Tryz.func4, Tryz.ntmps4
    go_wp2_with fail
    refine (TO.out _ B0.out).mono ?_
    rintro e w2 ⟨rfl, b2⟩
    go_wp2_with fail
    go_ret
    exact ⟨rfl, B0.out.trans (b2.mono B0.out.size)⟩
  · have m1 : (m : Int) ≤ 100 := by omega
    have m2 : m ≤ 100 := by omega
    obtain ⟨k, hk32, hke⟩ := mod_of 32 (by decide) (by decide) q
    rw [show ((32 : Nat) : Int) = 32 from rfl] at hke
    obtain ⟨kk, hk5, hke5⟩ := mod_of 5 (by decide) (by decide) wh
    rw [show ((5 : Nat) : Int) = 5 from rfl] at hke5
    obtain ⟨j0, hj0, hje0⟩ := mod_of 56 (by decide) (by decide) at_
    rw [show ((56 : Nat) : Int) = 56 from rfl] at hje0
    obtain ⟨j1, hj1, hje1⟩ := mod_big 4460 (by decide) (by decide) at_
    rw [show ((4460 : Nat) : Int) = 4460 from rfl] at hje1
    have NW := Lib.hid (fun W (h : Below w.heap.size w W) => new_ok I seed 2 1 W hI hs (by decide) rfl (hk.below h hk.lt) (hki.kept h))
    have SG := Lib.hid (fun W gs g (h : LPCap w W gs g I seed) => tree_sign_t I seed xs 2 1 g k P0 m cc W hI hIb hs hsb (by decide) rfl hk32 hx (hp.below h.bel) hxb hcc (by omega) h.st (hk.below h.bel hk.lt) (hki.kept h.bel))
    have PBL := Lib.hid (fun W gs g (h : LPCap w W gs g I seed) => tree_pub_t I seed 2 1 g W hI hIb hs hsb (by decide) rfl h.st (hk.below h.bel hk.lt) (hki.kept h.bel))
    have LL := Lib.hid (show (lsigN I seed 1 k xs).length = 4460 from lsigN_length I seed 1 k xs hk32)
    have LB := Lib.hid (lsigN_bytes I seed 1 k xs (by decide) hIb hsb)
    have UL := Lib.hid (lpubN_length I seed 1 hI)
    have UB := Lib.hid (lpubN_bytes I seed 1 (by decide) hIb hsb)
    have VS := Lib.hid (verN_sign I seed 1 k xs (by decide) hk32 hI)
    have UF := Lib.hid (show formN (lpubN I seed 1) = true from form_of_sign (verN_sign I seed 1 k xs (by decide) hk32 hI))
    have HXL := Lib.hid hx; have HXB := Lib.hid hxb; have HCC := Lib.hid hcc
    have HPX := Lib.hid (fun W (h : Below w.heap.size w W) => hp.below h)
    have VF := Lib.hid (fun W (A B C : Option Addr) (P M S : List Nat) (n0 c0 n1 c1 n2 c2 : Nat) (h : Trio w W A B C P M S) (h1 : P.length = n0) (h2 : Bytes P) (h3 : M.length = n1) (h4 : Bytes M) (h5 : n1 ≤ c1) (h6 : n1 ≤ 100000) (h7 : S.length = n2) (h8 : Bytes S) (h9 : n0 ≤ 100000 ∧ n2 ≤ 100000) =>
      verify_t P M S A B C n0 c0 n1 c1 n2 c2 W h1 h.p h2 (by omega) h3 h.m h4 h5 (by omega) h7 h.s h8 (by omega) (hk.below h.bel hk.lt) (hki.kept h.bel))
    have RV := Lib.hid (fun W (A B C : Option Addr) (P M S : List Nat) (n0 c0 n1 c1 n2 c2 : Nat) (h : Trio w W A B C P M S) (h1 : P.length = n0) (h2 : Bytes P) (h3 : n0 ≤ c0) (h4 : M.length = n1) (h5 : Bytes M) (h6 : n1 ≤ 100000) (h7 : S.length = n2) (h8 : Bytes S) (h9 : n2 ≤ c2) (h10 : n0 ≤ 100000 ∧ n2 ≤ 100000) =>
      refver_any P M S A B C n0 c0 n1 c1 n2 c2 W h1 h.p h2 h3 (by omega) h4 h.m h5 h6 h7 h.s h8 h9 (by omega))
    have FF := Lib.hid (fun W (A B C : Option Addr) (P M S : List Nat) (c0 : Nat) (h : Trio w W A B C P M S) (h1 : P.length = 56) (h2 : Bytes P) => form_t P A 56 c0 W h1 h.p h2 (by decide) (hki.kept h.bel))
    have RF := Lib.hid (fun W (A B C : Option Addr) (P M S : List Nat) (c0 : Nat) (h : Trio w W A B C P M S) (h1 : P.length = 56) (h2 : Bytes P) (h3 : 56 ≤ c0) => refform_t P A 56 c0 W h1 h.p h2 (by decide) h3)
    rw [show 204 + 32 * (kd 1).p = 4460 from rfl] at SG
    obtain ⟨sg, hsg⟩ : ∃ x, lsigN I seed 1 k xs = x := ⟨_, rfl⟩
    obtain ⟨pub, hpub⟩ : ∃ x, lpubN I seed 1 = x := ⟨_, rfl⟩
    rw [hsg] at SG LL LB VS
    rw [hpub] at PBL UL UB VS UF
    clear hI hIb hs hsb hx hp hxb hcc hk hki hsg hpub hbig
    go_enter Tryz.func4, Tryz.ntmps4
    go_wp2_with ((with_reducible refine load_blk 26 (.tmp 6) w.heap.size 26 (u8s (I ++ seed)) _ rfl rfl ?_ Tryz.underlying26 ?_ ?_ ?_ ?_); exact S0.out; exact rfl; exact size48 _ HIS.out; exact rfl)
    refine (NW.out _ B0.out).mono ?_
    rintro e w1 ⟨g, rfl, st1, hg, b1⟩
    have C1 := Lib.hid (show LPCap w w1 w.heap.size g I seed from ⟨S0.out.below b1 S0.out.lt, st1, B0.out.trans (b1.mono B0.out.size), Nat.le_refl _, by have := S0.out.lt; omega⟩)
    clear st1 hg b1 S0 B0 NW
    go_wp2_with fail
    simp only [hke]
    clear hke
    refine (SG.out _ _ _ C1.out).mono ?_
    rintro e w2 ⟨u, rfl, o2, st2, b2⟩
    obtain ⟨ga, ca, rest, rfl, hca, hga, ba2⟩ := own_blkp o2 (by decide)
    have hgw := C1.out.st.lt
    have hne : ga ≠ g := by omega
    have C2 := Lib.hid (C1.out.but b2 st2); have O2 := Lib.hid (own_mono o2 C1.out.bel.size); have HCA := Lib.hid hca
    have hgl2 : ga < w2.heap.size := ba2.lt
    clear o2 st2 b2 ba2 hca C1 SG hgw rest
    go_wp2_with fail
    refine (PBL.out w2 _ _ C2.out).mono ?_
    rintro e w3 ⟨u, rfl, o3, st3, b3⟩
    obtain ⟨gp, cp, rest, rfl, hcp, hgp, bp3⟩ := own_blkp o3 (by decide)
    have C3 := Lib.hid (C2.out.but b3 st3)
    have O3 := Lib.hid (own_of_but (O2.out) b3 hgl2 hne); have U3 := Lib.hid (own_mono o3 C2.out.bel.size)
    have hgl3 : gp < w3.heap.size := bp3.lt
    have hnp : ga ≠ gp := by omega
    have HCP := Lib.hid hcp
    clear o3 st3 b3 bp3 hcp hgp hga rest C2 O2 PBL hne
    have SA := Lib.hid ((HPX.out _ C3.out.bel).below ((Below.refl w3.heap.size w3).alloc (Nat.le_refl _) (.cells #[] 5)))
    have m64 : m ≤ 70368744177664 := by omega
    go_upto_region 11 with ((with_reducible refine at_op (.call { callee := .builtin .append, args := #[.tmp 52, .tmp 53], argTypes := #[27, 27] }) rfl ?_); go_must (refine append_bytes (.tmp 52) (.tmp 53) 27 rfl rfl 5 Tryz.underlying27 byte_info w3.heap.size (.slice (some ⟨w3.heap.size, 0, none⟩) 0 0) 0 [] xs rfl (own_empty _ _ _ (Nat.le_refl _) rfl) P0 m cc rfl HXL.out SA.out (by omega) (by simp) ?_); intro v1 w4 a1 a2 a3)
    have bk : Below w3.heap.size w3 w4 := ((Below.refl w3.heap.size w3).alloc (Nat.le_refl _) (.cells #[] 5)).grown a2.out (by simp) (fun k e => by have := Option.some.inj e; simp at this; omega)
    have o4 := a1.out
    rw [List.nil_append, Nat.zero_add] at o4
    have n1 : v1.ownBlock ≠ some gp := fun e => by have := (o4.lt gp e).1; omega
    have n2 : v1.ownBlock ≠ some ga := fun e => by have := (o4.lt ga e).1; have := (O3.out.lt ga rfl).2; omega
    have V4 := Lib.hid (show VCap w w4 gp cp ga ca pub sg v1 m xs from ⟨own_below U3.out bk, own_below O3.out bk, own_mono o4 C3.out.bel.size, hnp, n1, n2, C3.out.bel.trans (bk.mono C3.out.bel.size)⟩)
    clear bk o4 n1 n2 a1 a2 a3 U3 O3 C3 SA m64 hgl2 hgl3 HPX
    obtain ⟨A, c1, rfl, hc1, _⟩ := own_sr V4.out.om
    have HC1 := Lib.hid hc1
    have m5 : m ≤ 100000 := by omega
    clear hc1 hnp
    go_wp2_with fail
    refine (VF.out w4 _ _ _ _ _ _ _ _ _ _ _ _ V4.out.trio UL.out UB.out HXL.out HXB.out HC1.out m5 LL.out LB.out (by decide)).mono ?_
    rintro e w5 ⟨rfl, b5⟩
    rw [VS.out]
    have V5 := Lib.hid (V4.out.below b5)
    clear b5 V4 VS
    go_wp2_with fail
    refine (FF.out w5 _ _ _ _ _ _ _ V5.out.trio UL.out UB.out).mono ?_
    rintro e w6 ⟨rfl, b6⟩
    rw [UF.out]
    have V6 := Lib.hid (V5.out.below b6)
    clear b6 V5 UF
    go_upto_region 13 with (fail)
    have hkc : kk = 0 ∨ kk = 1 ∨ kk = 2 ∨ kk = 3 ∨ kk = 4 := by omega
    have SL := LL
    clear hk5 LL
    rcases hkc with rfl | rfl | rfl | rfl | rfl
    · rw [show ((0 : Nat) : Int) = 0 from rfl] at hke5
      have cj : w6.cell? ⟨gp, j0, none⟩ = some (.int .u8 ((gt pub j0 : Nat) : Int)) := by rw [V6.out.op.cellAt j0 (by omega), u8s_get _ _ (by rw [UL.out]; exact hj0)]
      have fj := V6.out.op.frozenAt j0
      have hxx := xor_u8n (gt pub j0) x (UB.out j0) hx8
      have i1 : (j0 : Int) < 56 := by omega
      have M1 := Lib.hid m5
      have S1 := Lib.hid (show 56 ≤ 100000 ∧ 4460 ≤ 100000 by decide)
      clear hje1 hj1
      go_upto_region 25 with (fail)
      clear cj fj hxx
      have PL := Lib.hid (show (pub.set j0 (gt pub j0 ^^^ x)).length = 56 by rw [List.length_set, UL.out])
      have PB := Lib.hid (set_bytes UB.out j0 x hx8)
      refine world_is (fun Y => Trio w Y (some ⟨gp, 0, none⟩) A (some ⟨ga, 0, none⟩) (pub.set j0 (gt pub j0 ^^^ x)) xs sg) (V6.out.turnP j0 _) ?_
      rintro Y qt
      have QT := Lib.hid qt
      obtain ⟨P, hP⟩ : ∃ P, pub.set j0 (gt pub j0 ^^^ x) = P := ⟨_, rfl⟩
      rw [hP] at QT PL PB
      have PC := HCP; have ML := HXL; have MB := HXB; have MC := HC1; have SB := LB; have SC := HCA
      clear qt V6 hP UL UB HCP HXL HXB HC1 LB HCA hje0 hke5
      go_wp2_with fail
      refine (TO.out _ QT.out.bel).mono ?_
      rintro e v1 ⟨rfl, b1⟩
      have Q1 := Lib.hid (QT.out.below b1)
      clear b1 QT
      go_wp2_with fail
      refine (VF.out v1 _ _ _ _ _ _ _ _ _ _ _ _ Q1.out PL.out PB.out ML.out MB.out MC.out M1.out SL.out SB.out S1.out).mono ?_
      rintro e v2 ⟨rfl, b2⟩
      have Q2 := Lib.hid (Q1.out.below b2)
      clear b2 Q1
      go_wp2_with fail
      refine (RV.out v2 _ _ _ _ _ _ _ _ _ _ _ _ Q2.out PL.out PB.out PC.out ML.out MB.out M1.out SL.out SB.out SC.out S1.out).mono ?_
      rintro e v3 ⟨rfl, b3⟩
      have Q3 := Lib.hid (Q2.out.below b3)
      clear b3 Q2
      obtain ⟨zz, hzz⟩ : ∃ z, verN P xs sg = z := ⟨_, rfl⟩
      rw [hzz]
      clear hzz
      go_wp2_with fail
      refine (FF.out v3 _ _ _ _ _ _ _ Q3.out PL.out PB.out).mono ?_
      rintro e v4 ⟨rfl, b4⟩
      have Q4 := Lib.hid (Q3.out.below b4)
      clear b4 Q3
      go_wp2_with fail
      refine (RF.out v4 _ _ _ _ _ _ _ Q4.out PL.out PB.out PC.out).mono ?_
      rintro e v5 ⟨rfl, b5⟩
      have Q5 := Lib.hid (Q4.out.below b5)
      clear b5 Q4
      obtain ⟨fb, hfb⟩ : ∃ z, formN P = z := ⟨_, rfl⟩
      rw [hfb]
      clear hfb
      go_wp2_with fail
      go_ret
      exact ⟨by simp, Q5.out.bel⟩
    · rw [show ((1 : Nat) : Int) = 1 from rfl] at hke5
      have AL := (Below.refl w6.heap.size w6).alloc (Nat.le_refl _) (.cells #[.int .u8 (x : Int)] 5)
      have VA := Lib.hid (V6.out.below AL)
      have SX := Lib.hid (Sr.made [x] w6 5 (0, 0))
      have S1 := Lib.hid (show 56 ≤ 100000 ∧ 4460 ≤ 100000 by decide)
      have hbz := VA.out.bel.size
      clear hje1 hj1 hje0 hj0 V6 AL
      go_upto_region 25 with ((with_reducible refine at_op (.call { callee := .builtin .append, args := #[.tmp 100, .tmp 102], argTypes := #[27, 27] }) rfl ?_); go_must (refine append_bytes (.tmp 100) (.tmp 102) 27 rfl rfl 5 Tryz.underlying27 byte_info w.heap.size (.slice A m c1) m xs [x] rfl VA.out.om (some ⟨w6.heap.size, 0, none⟩) 1 1 rfl rfl SX.out (by omega) hbz ?_); intro v2 w7 a1 a2 a3)
      obtain ⟨A', c', rfl, hc', _⟩ := own_sr a1.out
      have QT := Lib.hid (VA.out.growM a2.out a1.out)
      have ML := Lib.hid (show (xs ++ [x]).length = m + 1 by rw [List.length_append, HXL.out]; rfl)
      have MB := Lib.hid (app_bytes HXB.out (one_bytes x hx8))
      have MC := Lib.hid hc'
      have M1 := Lib.hid (show m + 1 ≤ 100000 by omega)
      obtain ⟨M, hM⟩ : ∃ P, xs ++ [x] = P := ⟨_, rfl⟩
      rw [hM] at QT ML MB
      have PL := UL; have PB := UB; have PC := HCP; have SB := LB; have SC := HCA
      clear a1 a2 a3 hc' hM VA SX UL UB HCP HXL HXB HC1 LB HCA hbz hke5
      go_wp2_with fail
      refine (TO.out _ QT.out.bel).mono ?_
      rintro e v1 ⟨rfl, b1⟩
      have Q1 := Lib.hid (QT.out.below b1)
      clear b1 QT
      go_wp2_with fail
      refine (VF.out v1 _ _ _ _ _ _ _ _ _ _ _ _ Q1.out PL.out PB.out ML.out MB.out MC.out M1.out SL.out SB.out S1.out).mono ?_
      rintro e v2 ⟨rfl, b2⟩
      have Q2 := Lib.hid (Q1.out.below b2)
      clear b2 Q1
      go_wp2_with fail
      refine (RV.out v2 _ _ _ _ _ _ _ _ _ _ _ _ Q2.out PL.out PB.out PC.out ML.out MB.out M1.out SL.out SB.out SC.out S1.out).mono ?_
      rintro e v3 ⟨rfl, b3⟩
      have Q3 := Lib.hid (Q2.out.below b3)
      clear b3 Q2
      obtain ⟨zz, hzz⟩ : ∃ z, verN pub M sg = z := ⟨_, rfl⟩
      rw [hzz]
      clear hzz
      go_wp2_with fail
      refine (FF.out v3 _ _ _ _ _ _ _ Q3.out PL.out PB.out).mono ?_
      rintro e v4 ⟨rfl, b4⟩
      have Q4 := Lib.hid (Q3.out.below b4)
      clear b4 Q3
      go_wp2_with fail
      refine (RF.out v4 _ _ _ _ _ _ _ Q4.out PL.out PB.out PC.out).mono ?_
      rintro e v5 ⟨rfl, b5⟩
      have Q5 := Lib.hid (Q4.out.below b5)
      clear b5 Q4
      obtain ⟨fb, hfb⟩ : ∃ z, formN pub = z := ⟨_, rfl⟩
      rw [hfb]
      clear hfb
      go_wp2_with fail
      go_ret
      exact ⟨by simp, Q5.out.bel⟩
    · rw [show ((2 : Nat) : Int) = 2 from rfl] at hke5
      have cj : w6.cell? ⟨ga, j1, none⟩ = some (.int .u8 ((gt sg j1 : Nat) : Int)) := by rw [V6.out.oa.cellAt j1 (by omega), u8s_get _ _ (by rw [SL.out]; exact hj1)]
      have fj := V6.out.oa.frozenAt j1
      have hxx := xor_u8n (gt sg j1) x (LB.out j1) hx8
      have i1 : (j1 : Int) < 4460 := by omega
      have M1 := Lib.hid m5
      have S1 := Lib.hid (show 56 ≤ 100000 ∧ 4460 ≤ 100000 by decide)
      clear hje0 hj0
      go_upto_region 25 with (fail)
      clear cj fj hxx
      have SL2 := Lib.hid (show (sg.set j1 (gt sg j1 ^^^ x)).length = 4460 by rw [List.length_set, SL.out])
      have SB := Lib.hid (set_bytes LB.out j1 x hx8)
      refine world_is (fun Y => Trio w Y (some ⟨gp, 0, none⟩) A (some ⟨ga, 0, none⟩) pub xs (sg.set j1 (gt sg j1 ^^^ x))) (V6.out.turnS j1 _) ?_
      rintro Y qt
      have QT := Lib.hid qt
      obtain ⟨P, hP⟩ : ∃ P, sg.set j1 (gt sg j1 ^^^ x) = P := ⟨_, rfl⟩
      rw [hP] at QT SL2 SB
      clear SL
      have SL := SL2
      have PL := UL; have PB := UB; have PC := HCP; have ML := HXL; have MB := HXB; have MC := HC1; have SC := HCA
      clear qt V6 hP UL UB HCP HXL HXB HC1 LB HCA hje1 hke5 SL2
      go_wp2_with fail
      refine (TO.out _ QT.out.bel).mono ?_
      rintro e v1 ⟨rfl, b1⟩
      have Q1 := Lib.hid (QT.out.below b1)
      clear b1 QT
      go_wp2_with fail
      refine (VF.out v1 _ _ _ _ _ _ _ _ _ _ _ _ Q1.out PL.out PB.out ML.out MB.out MC.out M1.out SL.out SB.out S1.out).mono ?_
      rintro e v2 ⟨rfl, b2⟩
      have Q2 := Lib.hid (Q1.out.below b2)
      clear b2 Q1
      go_wp2_with fail
      refine (RV.out v2 _ _ _ _ _ _ _ _ _ _ _ _ Q2.out PL.out PB.out PC.out ML.out MB.out M1.out SL.out SB.out SC.out S1.out).mono ?_
      rintro e v3 ⟨rfl, b3⟩
      have Q3 := Lib.hid (Q2.out.below b3)
      clear b3 Q2
      obtain ⟨zz, hzz⟩ : ∃ z, verN pub xs P = z := ⟨_, rfl⟩
      rw [hzz]
      clear hzz
      go_wp2_with fail
      refine (FF.out v3 _ _ _ _ _ _ _ Q3.out PL.out PB.out).mono ?_
      rintro e v4 ⟨rfl, b4⟩
      have Q4 := Lib.hid (Q3.out.below b4)
      clear b4 Q3
      go_wp2_with fail
      refine (RF.out v4 _ _ _ _ _ _ _ Q4.out PL.out PB.out PC.out).mono ?_
      rintro e v5 ⟨rfl, b5⟩
      have Q5 := Lib.hid (Q4.out.below b5)
      clear b5 Q4
      obtain ⟨fb, hfb⟩ : ∃ z, formN pub = z := ⟨_, rfl⟩
      rw [hfb]
      clear hfb
      go_wp2_with fail
      go_ret
      exact ⟨by simp, Q5.out.bel⟩
    · rw [show ((3 : Nat) : Int) = 3 from rfl] at hke5
      have hs1 := slice_high (P := Tryz.prog) (t := 27) (e := 5) Tryz.underlying27 byte_size (some ⟨ga, 0, none⟩) 4460 ca .i64 j1 (by have := HCA.out; omega)
      have M1 := Lib.hid m5
      have S1 := Lib.hid (show 56 ≤ 100000 ∧ j1 ≤ 100000 by omega)
      clear hje0 hj0
      go_upto_region 25 with (fail)
      have QT := Lib.hid (show Trio w w6 (some ⟨gp, 0, none⟩) A (some ⟨ga, 0, none⟩) pub xs (sg.take j1) from ⟨V6.out.trio.p, V6.out.trio.m, V6.out.trio.s.take j1, V6.out.bel⟩)
      have SL2 := Lib.hid (show (sg.take j1).length = j1 by rw [List.length_take, SL.out]; omega)
      have SB := Lib.hid (bytes_take LB.out j1)
      have SC := Lib.hid (show j1 ≤ ca by have := HCA.out; omega)
      obtain ⟨P, hP⟩ : ∃ P, sg.take j1 = P := ⟨_, rfl⟩
      rw [hP] at QT SL2 SB
      clear SL
      have SL := SL2
      have PL := UL; have PB := UB; have PC := HCP; have ML := HXL; have MB := HXB; have MC := HC1
      clear hs1 V6 hP UL UB HCP HXL HXB HC1 LB HCA hje1 hke5 SL2
      go_wp2_with fail
      refine (TO.out _ QT.out.bel).mono ?_
      rintro e v1 ⟨rfl, b1⟩
      have Q1 := Lib.hid (QT.out.below b1)
      clear b1 QT
      go_wp2_with fail
      refine (VF.out v1 _ _ _ _ _ _ _ _ _ _ _ _ Q1.out PL.out PB.out ML.out MB.out MC.out M1.out SL.out SB.out S1.out).mono ?_
      rintro e v2 ⟨rfl, b2⟩
      have Q2 := Lib.hid (Q1.out.below b2)
      clear b2 Q1
      go_wp2_with fail
      refine (RV.out v2 _ _ _ _ _ _ _ _ _ _ _ _ Q2.out PL.out PB.out PC.out ML.out MB.out M1.out SL.out SB.out SC.out S1.out).mono ?_
      rintro e v3 ⟨rfl, b3⟩
      have Q3 := Lib.hid (Q2.out.below b3)
      clear b3 Q2
      obtain ⟨zz, hzz⟩ : ∃ z, verN pub xs P = z := ⟨_, rfl⟩
      rw [hzz]
      clear hzz
      go_wp2_with fail
      refine (FF.out v3 _ _ _ _ _ _ _ Q3.out PL.out PB.out).mono ?_
      rintro e v4 ⟨rfl, b4⟩
      have Q4 := Lib.hid (Q3.out.below b4)
      clear b4 Q3
      go_wp2_with fail
      refine (RF.out v4 _ _ _ _ _ _ _ Q4.out PL.out PB.out PC.out).mono ?_
      rintro e v5 ⟨rfl, b5⟩
      have Q5 := Lib.hid (Q4.out.below b5)
      clear b5 Q4
      obtain ⟨fb, hfb⟩ : ∃ z, formN pub = z := ⟨_, rfl⟩
      rw [hfb]
      clear hfb
      go_wp2_with fail
      go_ret
      exact ⟨by simp, Q5.out.bel⟩
    · rw [show ((4 : Nat) : Int) = 4 from rfl] at hke5
      have AL := (Below.refl w6.heap.size w6).alloc (Nat.le_refl _) (.cells #[.int .u8 (x : Int)] 5)
      have VA := Lib.hid (V6.out.below AL)
      have SX := Lib.hid (Sr.made [x] w6 5 (0, 0))
      have S1 := Lib.hid (show 56 ≤ 100000 ∧ 4461 ≤ 100000 by decide)
      have M1 := Lib.hid m5
      have hbz := VA.out.bel.size
      clear hje1 hj1 hje0 hj0 V6 AL
      go_upto_region 25 with ((with_reducible refine at_op (.call { callee := .builtin .append, args := #[.tmp 79, .tmp 81], argTypes := #[27, 27] }) rfl ?_); go_must (refine append_bytes (.tmp 79) (.tmp 81) 27 rfl rfl 5 Tryz.underlying27 byte_info w.heap.size (.slice (some ⟨ga, 0, none⟩) 4460 ca) 4460 sg [x] rfl VA.out.oa (some ⟨w6.heap.size, 0, none⟩) 1 1 rfl rfl SX.out (by omega) hbz ?_); intro v2 w7 a1 a2 a3)
      obtain ⟨A', c', rfl, hc', _⟩ := own_sr a1.out
      have QT := Lib.hid (VA.out.growS a2.out a1.out)
      have SL2 := Lib.hid (show (sg ++ [x]).length = 4461 by rw [List.length_append, SL.out]; rfl)
      have SB := Lib.hid (app_bytes LB.out (one_bytes x hx8))
      have SC := Lib.hid (show 4461 ≤ c' from hc')
      obtain ⟨M, hM⟩ : ∃ P, sg ++ [x] = P := ⟨_, rfl⟩
      rw [hM] at QT SL2 SB
      clear SL
      have SL := SL2
      have PL := UL; have PB := UB; have PC := HCP; have ML := HXL; have MB := HXB; have MC := HC1
      clear a1 a2 a3 hc' hM VA SX UL UB HCP HXL HXB HC1 LB HCA hbz hke5 SL2
      go_wp2_with fail
      refine (TO.out _ QT.out.bel).mono ?_
      rintro e v1 ⟨rfl, b1⟩
      have Q1 := Lib.hid (QT.out.below b1)
      clear b1 QT
      go_wp2_with fail
      refine (VF.out v1 _ _ _ _ _ _ _ _ _ _ _ _ Q1.out PL.out PB.out ML.out MB.out MC.out M1.out SL.out SB.out S1.out).mono ?_
      rintro e v2 ⟨rfl, b2⟩
      have Q2 := Lib.hid (Q1.out.below b2)
      clear b2 Q1
      go_wp2_with fail
      refine (RV.out v2 _ _ _ _ _ _ _ _ _ _ _ _ Q2.out PL.out PB.out PC.out ML.out MB.out M1.out SL.out SB.out SC.out S1.out).mono ?_
      rintro e v3 ⟨rfl, b3⟩
      have Q3 := Lib.hid (Q2.out.below b3)
      clear b3 Q2
      obtain ⟨zz, hzz⟩ : ∃ z, verN pub xs M = z := ⟨_, rfl⟩
      rw [hzz]
      clear hzz
      go_wp2_with fail
      refine (FF.out v3 _ _ _ _ _ _ _ Q3.out PL.out PB.out).mono ?_
      rintro e v4 ⟨rfl, b4⟩
      have Q4 := Lib.hid (Q3.out.below b4)
      clear b4 Q3
      go_wp2_with fail
      refine (RF.out v4 _ _ _ _ _ _ _ Q4.out PL.out PB.out PC.out).mono ?_
      rintro e v5 ⟨rfl, b5⟩
      have Q5 := Lib.hid (Q4.out.below b5)
      clear b5 Q4
      obtain ⟨fb, hfb⟩ : ∃ z, formN pub = z := ⟨_, rfl⟩
      rw [hfb]
      clear hfb
      go_wp2_with fail
      go_ret
      exact ⟨by simp, Q5.out.bel⟩
end Go.Proofs.YtlaiblgnjppmnaaGreatDoor
