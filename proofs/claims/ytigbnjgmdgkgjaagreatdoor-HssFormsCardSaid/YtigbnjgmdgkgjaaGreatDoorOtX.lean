/-
  PACKAGE ots: Sign, of what may be.
-/
import Derived.Test.YtigbnjgmdgkgjaaGreatDoorOtU
namespace Go.Proofs.YtigbnjgmdgkgjaaGreatDoor
open Go Go.RowKit Sh

/-- What Sign and Candidate have laid down ahead of their chains. -/
structure SCap (w0 w : World) (gs gk gl gc : Nat) (sec c : List Nat) (I : List Nat) (q i : Nat) : Prop where
  sec : Blk w gs 26 (u8s sec)
  kind : Blk w gk 124 (kv (kd i))
  leaf : Blk w gl 128 (lf I q)
  c : Blk w gc 24 (u8s c)
  bel : Below w0.heap.size w0 w
theorem SCap.below {w0 w w' : World} {gs gk gl gc : Nat} {sec c I : List Nat} {q i : Nat} (h : SCap w0 w gs gk gl gc sec c I q i) (hb : Below w.heap.size w w') : SCap w0 w' gs gk gl gc sec c I q i :=
  ⟨h.sec.below hb h.sec.lt, h.kind.below hb h.kind.lt, h.leaf.below hb h.leaf.lt, h.c.below hb h.c.lt, h.bel.trans (hb.mono h.bel.size)⟩
theorem SCap.belowg {w0 w w' : World} {B gs gk gl gc : Nat} {sec c I : List Nat} {q i : Nat} (h : SCap w0 w gs gk gl gc sec c I q i) (hb : Below B w w') (h1 : gs < B) (h2 : gk < B) (h3 : gl < B) (h4 : gc < B) (h5 : w0.heap.size ≤ B) : SCap w0 w' gs gk gl gc sec c I q i :=
  ⟨h.sec.below hb h1, h.kind.below hb h2, h.leaf.below hb h3, h.c.below hb h4, h.bel.trans (hb.mono h5)⟩
def digL (i : Nat) (Q : List Nat) : List Nat := dv (digN (kd i).w (kd i).ls Q) (kd i).p 265
theorem digL_length (i : Nat) (hi : i < 4) (Q : List Nat) : (digL i Q).length = 265 := dv_length _ (kd_p i hi)
theorem digL_get (i j : Nat) (hj : j < (kd i).p) (Q : List Nat) : gt (digL i Q) j = digN (kd i).w (kd i).ls Q j := dv_get _ hj
theorem digN_le (i j : Nat) (Q : List Nat) : digN (kd i).w (kd i).ls Q j ≤ 2 ^ (kd i).w - 1 := Nat.le_sub_one_of_lt (coefN_lt _ _ _)
def sigE (I seed : List Nat) (q i : Nat) (Q : List Nat) (j : Nat) : List Nat := walkN I q j 0 (digN (kd i).w (kd i).ls Q j) (secN I seed q j)
def sigC (I seed : List Nat) (q : Nat) : List Nat := secN I seed q 65533
def sigN (I seed : List Nat) (q i : Nat) (msg : List Nat) : List Nat := beN (kd i).code 4 ++ sigC I seed q ++ catN (sigE I seed q i (msgN I q (sigC I seed q) msg)) (kd i).p
theorem sigE_ok (I seed : List Nat) (q i : Nat) (Q : List Nat) (j : Nat) (hi : i < 4) (hI : Bytes I) (hs : Bytes seed) : (sigE I seed q i Q j).length = 32 ∧ Bytes (sigE I seed q i Q j) :=
  ⟨walkN_length _ _ _ _ _ _ rfl, walkN_bytes _ _ _ _ _ _ hI (secN_bytes _ _ _ _ hI hs) (by have := top_lt i hi; have := digN_le i j Q; omega)⟩
theorem sigN_length (I seed : List Nat) (q i : Nat) (msg : List Nat) : (sigN I seed q i msg).length = 36 + 32 * (kd i).p := by
  unfold sigN
  rw [List.length_append, List.length_append, beN_length, catN_length (sigE I seed q i _) _ (fun _ _ => walkN_length _ _ _ _ _ _ rfl), show (sigC I seed q).length = 32 from rfl]
theorem sigN_bytes (I seed : List Nat) (q i : Nat) (msg : List Nat) (hi : i < 4) (hI : Bytes I) (hs : Bytes seed) : Bytes (sigN I seed q i msg) :=
  app_bytes (app_bytes (beN_bytes _ _) (secN_bytes _ _ _ _ hI hs)) (catN_bytes _ _ (fun _ _ => (sigE_ok _ _ _ _ _ _ hi hI hs).2))
set_option maxRecDepth 100000 in
set_option maxHeartbeats 4000000 in
theorem sign_t (I seed xs : List Nat) (q i : Nat) (n : Int) (P : Option Addr) (m cc : Nat) (w : World) (hn : n = ((kd i).w : Int)) (hI : I.length = 16) (hIb : Bytes I) (hs : seed.length = 32) (hsb : Bytes seed) (hq : q < 32) (hi : i < 4) (hx : xs.length = m) (hp : Sr w P xs) (hxb : Bytes xs) (hcc : m ≤ cc) (hml : m ≤ 70368744177664) (hk : KAt w) (hki : KI w) :
    Calls Tryz.prog 41 #[.agg (u8s (I ++ seed)).toArray, .int .i64 (q : Int), .int .i64 n, .slice P m cc] w fun e w' => ∃ v, e = .returned (.tuple #[v, .int .i64 0]) ∧ Fresh 5 w w' v (sigN I seed q i xs) := by
  have HI := Lib.hid hI; have HIB := Lib.hid hIb; have HS := Lib.hid hs; have HSB := Lib.hid hsb; have HK := Lib.hid hk; have HG := Lib.hid hk.lt; have HN := Lib.hid hn; have HX := Lib.hid hx; have HP := Lib.hid hp; have HXB := Lib.hid hxb; have HCC := Lib.hid hcc
  have B0 := Lib.hid ((Below.refl w.heap.size w).alloc (Nat.le_refl _) (.cells (u8s (I ++ seed)).toArray 26))
  have K0 := Lib.hid (hki.kept B0.out)
  have S0 := Lib.hid (Blk.new w 26 (u8s (I ++ seed)))
  have hz := (zero_of_info zero265).1
  obtain ⟨Z, hZ⟩ : ∃ Z, List.replicate 265 0 = Z := ⟨_, rfl⟩
  rw [hZ] at hz
  have HZ := Lib.hid hZ
  clear hI hIb hs hsb hk hki hn hx hp hxb hcc hZ
  go_enter Tryz.func41, Tryz.ntmps41
  go_wp2_with fail
  refine find_t n _ K0.out _ (fun i' w1 hi' hn b1 => ?_) (fun _ hn _ => absurd HN.out (hn i hi))
  obtain rfl := kd_inj hi hi' (by have := HN.out; omega)
  have B1 := Lib.hid (B0.out.trans (b1.mono B0.out.size)); have S1 := Lib.hid (S0.out.below b1 S0.out.lt); have R1 := Lib.hid (Blk.new w1 124 kz)
  have g1l := S1.out.lt
  clear hn b1 hi' B0 K0 S0
  go_upto_region 4 with (first
    | ((with_reducible refine store_blk 124 (.tmp 10) (.tmp 23) w1.heap.size 124 kz (kv (kd i)) rfl rfl ?_ ?_ ?_ ?_ ?_ ?_ ?_); exact R1.out; exact rfl; exact kv_size _; exact kv_one _; exact rfl; exact rfl)
    | (go_at_call 70; refine (isLeaf_yes q _ hq).mono ?_; rintro e w2 ⟨rfl, rfl⟩))
  refine world_is (fun W => Blk W w.heap.size 26 (u8s (I ++ seed)) ∧ Blk W w1.heap.size 124 (kv (kd i)) ∧ Below w.heap.size w W)
    ⟨(S1.out.alloc _).setRow_far (by omega) _, R1.out.setRow _, below_setRow (B1.out.alloc B1.out.size _) B1.out.size _⟩ ?_
  rintro W ⟨s0, k0, bw⟩
  have S0 := Lib.hid s0; have K0 := Lib.hid k0; have BW := Lib.hid bw
  obtain ⟨gk, hgk⟩ : ∃ g, w1.heap.size = g := ⟨_, rfl⟩
  rw [hgk] at K0 g1l ⊢
  have gW : gk < W.heap.size := K0.out.lt
  clear s0 k0 bw R1 S1 B1 hgk
  go_upto_region 5 with (first
    | ((with_reducible refine load_part 22 (.tmp 32) w.heap.size 0 26 [] (u8s I) (u8s seed) _ rfl rfl ?_ rfl Tryz.underlying22 ?_ ?_ ?_ ?_); (rw [List.nil_append, ← u8s_app]; exact S0.out); exact rfl; exact size16 _ HI.out; exact rfl)
    | ((with_reducible refine build_two rfl 128 (.tmp 33) (.tmp 34) rfl (lf I q) (.agg (u8s I).toArray) (.int .i64 (q : Int)) ?_ ?_ ?_ ?_); exact rfl; exact rfl; exact built_leaf I q HI.out)
    | ((with_reducible refine store_blk 128 (.tmp 12) (.tmp 35) W.heap.size 128 (lf (List.replicate 16 0) 0) (lf I q) rfl rfl ?_ ?_ ?_ ?_ ?_ ?_ ?_); exact Blk.new W _ _; exact (by rw [lf_length _ _ HI.out]; rfl); exact lf_size _ _ HI.out; exact lf_one _ _; exact rfl; exact rfl))
  refine world_is (fun V => Blk V w.heap.size 26 (u8s (I ++ seed)) ∧ Blk V gk 124 (kv (kd i)) ∧ Blk V W.heap.size 128 (lf I q) ∧ Below w.heap.size w V)
    ⟨(S0.out.alloc _).setRow_far (by omega) _, (K0.out.alloc _).setRow_far (by omega) _, (Blk.new W 128 (lf (List.replicate 16 0) 0)).setRow _, below_setRow (BW.out.alloc BW.out.size _) BW.out.size _⟩ ?_
  rintro V ⟨s0, k0, l0, bw⟩
  have S1 := Lib.hid s0; have K1 := Lib.hid k0; have L1 := Lib.hid l0; have BV := Lib.hid bw
  obtain ⟨gl, hgl⟩ : ∃ g, W.heap.size = g := ⟨_, rfl⟩
  rw [hgl] at L1 gW ⊢
  have gV : gl < V.heap.size := L1.out.lt
  clear s0 k0 l0 bw S0 K0 BW hgl
  have SP := Lib.hid (show Blk V w.heap.size 26 (u8s I ++ (u8s seed ++ [])) by rw [List.append_nil, ← u8s_app]; exact S1.out)
  go_wp2_with (first
    | ((with_reducible refine load_blk 128 (.tmp 12) gl 128 (lf I q) _ rfl rfl ?_ Tryz.underlying128 ?_ ?_ ?_ ?_); exact L1.out; exact rfl; exact lf_size _ _ HI.out; exact rfl)
    | ((with_reducible refine load_part 24 (.tmp 37) w.heap.size 16 26 (u8s I) (u8s seed) [] _ rfl rfl ?_ ?_ Tryz.underlying24 ?_ ?_ ?_ ?_); exact SP.out; exact (by rw [u8s_length, HI.out]); exact rfl; exact size32 _ HS.out; exact rfl))
  refine (secret_t I seed q 65533 V HI.out HIB.out HS.out HSB.out hq (by decide) (HK.out.below BV.out HG.out)).mono ?_
  rintro e w3 ⟨rfl, b3⟩
  rw [show secN I seed q 65533 = sigC I seed q from rfl]
  have S2 := Lib.hid (S1.out.below b3 S1.out.lt); have K2 := Lib.hid (K1.out.below b3 K1.out.lt); have L2 := Lib.hid (L1.out.below b3 L1.out.lt); have B3 := Lib.hid (BV.out.trans (b3.mono BV.out.size))
  have l3 : gl < w3.heap.size := L2.out.lt
  clear b3 S1 K1 L1 BV SP
  have C1 := Lib.hid (show (sigC I seed q).length = 32 from rfl)
  obtain ⟨C, hC⟩ : ∃ C, sigC I seed q = C := ⟨_, rfl⟩
  have R3 := Lib.hid (Blk.new w3 24 (u8s z32))
  have HZC := Lib.hid (show (u8s z32).length = (u8s (sigC I seed q)).length by rw [u8s_length, u8s_length, C1.out]; rfl)
  clear hC
  go_upto_region 6 with ((with_reducible refine store_blk 24 (.tmp 13) (.tmp 39) w3.heap.size 24 (u8s z32) (u8s (sigC I seed q)) rfl rfl ?_ ?_ ?_ ?_ ?_ ?_ ?_); exact R3.out; exact HZC.out; exact size32 _ C1.out; exact u8s_one _; exact rfl; exact rfl)
  refine world_is (fun V => SCap w V w.heap.size gk gl w3.heap.size (I ++ seed) (sigC I seed q) I q i)
    ⟨(S2.out.alloc _).setRow_far (by omega) _, (K2.out.alloc _).setRow_far (by omega) _, (L2.out.alloc _).setRow_far (by omega) _, R3.out.setRow _, below_setRow (B3.out.alloc B3.out.size _) B3.out.size _⟩ ?_
  rintro W4 sc
  have SC := Lib.hid sc
  obtain ⟨gc, hgc⟩ : ∃ g, w3.heap.size = g := ⟨_, rfl⟩
  rw [hgc] at SC l3 ⊢
  clear sc hgc S2 K2 L2 B3 R3 HZC gW gV
  -- the digits
  have HQ1 := Lib.hid (show (msgN I q (sigC I seed q) xs).length = 32 ∧ Bytes (msgN I q (sigC I seed q) xs) from ⟨rfl, sum_bytes _ (app_bytes (app_bytes (headN_bytes _ _ _ HIB.out) (secN_bytes _ _ _ _ HIB.out HSB.out)) HXB.out)⟩)
  obtain ⟨Q, hQ⟩ : ∃ Q, msgN I q (sigC I seed q) xs = Q := ⟨_, rfl⟩
  rw [hQ] at HQ1
  have HQQ := Lib.hid hQ
  have HD1 := Lib.hid (digL_length i hi Q)
  obtain ⟨D, hD⟩ : ∃ D, digL i Q = D := ⟨_, rfl⟩
  rw [hD] at HD1
  have HDD := Lib.hid hD
  have HZD := Lib.hid (show (ints Z).length = (ints D).length by rw [ints_length, ints_length, HD1.out, ← HZ.out, List.length_replicate])
  clear hQ hD
  have rs : ∀ X, SCap w X w.heap.size gk gl gc (I ++ seed) (sigC I seed q) I q i → (X.rangeAt gk 0 (kv (kd i)) ∧ X.rangeAt gl 0 (lf I q) ∧ X.rangeAt gc 0 (u8s (sigC I seed q))) := fun X h => ⟨range_of_blk h.kind, range_of_blk h.leaf, range_of_blk h.c⟩
  have RS := Lib.hid rs
  clear rs
  dsimp only [Act.put]
  go_cut [14] (fun s14 wx => ∃ g : Nat, s14 = .pointer (some ⟨g, 0, none⟩) ∧ Blk wx g 130 (ints D) ∧ SCap w wx w.heap.size gk gl gc (I ++ seed) (sigC I seed q) I q i)
  case first =>
    have SC0 := Lib.hid (SC.out.below (show Below W4.heap.size W4 W4.drew from (Below.refl _ _).drew))
    have r1 := RS.out _ SC0.out
    refine wp_region_held (S := fun X => X.rangeAt gk 0 (kv (kd i)) ∧ X.rangeAt gl 0 (lf I q) ∧ X.rangeAt gc 0 (u8s (sigC I seed q))) (by kernel_rfl) ?_
    change wpAnyH _ _ _ _ _ _ _ _ W4.drew
    refine wpAnyH_take (i := 0) (v := .agg (kv (kd i)).toArray) rfl (by kernel_rfl) (by kernel_rfl) (by kernel_rfl) (fun _ _ _ h => h) (yieldsIf_load_mid (by kernel_rfl) 124 (.tmp 10) rfl gk 0 (by go_simp) (kv (kd i)) _ (fun _ h => h.1) Tryz.underlying124 rfl (kv_size _)) r1 ?_
    refine wpAnyH_take (i := 1) (v := .agg (lf I q).toArray) rfl (by kernel_rfl) (by kernel_rfl) (by kernel_rfl) (fun _ _ _ h => h) (yieldsIf_load_mid (by kernel_rfl) 128 (.tmp 12) rfl gl 0 (by go_simp) (lf I q) _ (fun _ h => h.2.1) Tryz.underlying128 rfl (lf_size _ _ HI.out)) r1 ?_
    refine wpAnyH_take (i := 2) (v := .agg (u8s (sigC I seed q)).toArray) rfl (by kernel_rfl) (by kernel_rfl) (by kernel_rfl) (fun _ _ _ h => h) (yieldsIf_load_mid (by kernel_rfl) 24 (.tmp 13) rfl gc 0 (by go_simp) (u8s (sigC I seed q)) _ (fun _ h => h.2.2) Tryz.underlying24 rfl (size32 _ C1.out)) r1 ?_
    refine wpAnyH_take (i := 3) (v := ?_) rfl (by kernel_rfl) (by kernel_rfl) (by kernel_rfl) (fun _ _ _ h => h) (Or.inl ⟨by kernel_rfl, ?_⟩) r1 ?_
    rotate_left 1
    · (intro w hS; clear hS; go_simp; try (with_reducible rfl))
    clear r1
    refine wpAnyH_ready (rs := [4, 6]) (by kernel_rfl) (by simp) ?_
    refine AllReadyH.cons rfl (fun K hK => ?_) (AllReadyH.cons rfl (fun K hK => ?_) AllReadyH.nil)
    · skip
      go_simp
      refine (message_t I (sigC I seed q) xs q P m cc W4.drew HI.out HIB.out rfl (secN_bytes _ _ _ _ HIB.out HSB.out) hq HX.out (HP.out.below SC0.out.bel) HXB.out HCC.out hml (HK.out.below SC0.out.bel HG.out)).mono ?_
      rintro e wa ⟨rfl, b⟩
      rw [HQQ.out]
      have SCa := Lib.hid (SC0.out.below b)
      have r := RS.out _ SCa.out
      skip
      clear b
      refine hK.out _ _ r (fun _ => ?_)
      clear hK K
      refine wpAnyH_ready (rs := [5, 6]) (by kernel_rfl) (by simp) ?_
      refine AllReadyH.cons rfl (fun K hK => ?_) (AllReadyH.cons rfl (fun K hK => ?_) AllReadyH.nil)
      · skip
        go_simp
        refine (digits_t i hi Q wa HQ1.out.1 HQ1.out.2).mono ?_
        rintro e wb ⟨rfl, b⟩
        rw [show dv (digN (kd i).w (kd i).ls Q) (kd i).p 265 = digL i Q from rfl, HDD.out]
        have SCb := Lib.hid (SCa.out.below b)
        have r := RS.out _ SCb.out
        skip
        clear b
        refine hK.out _ _ r (fun _ => ?_)
        clear hK K
        refine wpAnyH_ready (rs := [6]) (by kernel_rfl) (by simp) ?_
        refine AllReadyH.cons rfl (fun K hK => ?_) AllReadyH.nil
        go_simp
        have b := (Below.refl (wb).heap.size wb).alloc (Nat.le_refl _) (.cells (ints Z).toArray 130)
        have SCc := Lib.hid (SCb.out.below b)
        have D0 := Lib.hid (Blk.new wb 130 (ints Z))
        have n1 := SCb.out.sec.lt; have n2 := SCb.out.kind.lt; have n3 := SCb.out.leaf.lt; have n4 := SCb.out.c.lt
        have r := RS.out _ SCc.out
        clear b
        refine hK.out _ _ r (fun _ => ?_)
        clear hK K
        refine wpAnyH_ready (rs := [7]) (by kernel_rfl) (by simp) ?_
        refine AllReadyH.cons rfl (fun K hK => ?_) AllReadyH.nil
        rw [if_pos (by kernel_rfl)]
        refine wstore_part 130 (.tmp 14) (.tmp 45) wb.heap.size 0 130 [] (ints Z) [] (ints D) rfl (by rw [List.nil_append, List.append_nil]; exact D0.out) rfl HZD.out (size265 _ HD1.out) (ints_one _) rfl rfl ?_
        intro wz a1 a2 a3
        have DZ0 := Lib.hid (show Blk wz wb.heap.size 130 (ints D) by have := a1.out; rwa [List.nil_append, List.append_nil] at this)
        have CZ := Lib.hid (show SCap w wz w.heap.size gk gl gc (I ++ seed) (sigC I seed q) I q i from ⟨SCc.out.sec.but a2.out SCc.out.sec.lt (by omega), SCc.out.kind.but a2.out SCc.out.kind.lt (by omega), SCc.out.leaf.but a2.out SCc.out.leaf.lt (by omega), SCc.out.c.but a2.out SCc.out.c.lt (by omega), SCc.out.bel.trans (a2.out.below (by omega) SCc.out.bel.size)⟩)
        refine hK.out _ _ (RS.out _ CZ.out) (fun _ => ?_)
        clear hK K
        refine wpAnyH_done (by kernel_rfl) ?_ _
        go_simp
        go_wp2_with fail
        go_meet
        exact ⟨wb.heap.size, rfl, DZ0.out, CZ.out⟩
      · skip
        go_simp
        have b := (Below.refl (wa).heap.size wa).alloc (Nat.le_refl _) (.cells (ints Z).toArray 130)
        have SCb := Lib.hid (SCa.out.below b)
        have D0 := Lib.hid (Blk.new wa 130 (ints Z))
        have n1 := SCa.out.sec.lt; have n2 := SCa.out.kind.lt; have n3 := SCa.out.leaf.lt; have n4 := SCa.out.c.lt
        have r := RS.out _ SCb.out
        clear b
        refine hK.out _ _ r (fun _ => ?_)
        clear hK K
        refine wpAnyH_ready (rs := [5]) (by kernel_rfl) (by simp) ?_
        refine AllReadyH.cons rfl (fun K hK => ?_) AllReadyH.nil
        go_simp
        refine (digits_t i hi Q _ HQ1.out.1 HQ1.out.2).mono ?_
        rintro e wc ⟨rfl, b⟩
        rw [show dv (digN (kd i).w (kd i).ls Q) (kd i).p 265 = digL i Q from rfl, HDD.out]
        have SCc := Lib.hid (SCb.out.below b)
        have r := RS.out _ SCc.out
        have D0 := Lib.hid (D0.out.below b D0.out.lt)
        clear b
        refine hK.out _ _ r (fun _ => ?_)
        clear hK K
        refine wpAnyH_ready (rs := [7]) (by kernel_rfl) (by simp) ?_
        refine AllReadyH.cons rfl (fun K hK => ?_) AllReadyH.nil
        rw [if_pos (by kernel_rfl)]
        refine wstore_part 130 (.tmp 14) (.tmp 45) wa.heap.size 0 130 [] (ints Z) [] (ints D) rfl (by rw [List.nil_append, List.append_nil]; exact D0.out) rfl HZD.out (size265 _ HD1.out) (ints_one _) rfl rfl ?_
        intro wz a1 a2 a3
        have DZ0 := Lib.hid (show Blk wz wa.heap.size 130 (ints D) by have := a1.out; rwa [List.nil_append, List.append_nil] at this)
        have CZ := Lib.hid (show SCap w wz w.heap.size gk gl gc (I ++ seed) (sigC I seed q) I q i from ⟨SCc.out.sec.but a2.out SCc.out.sec.lt (by omega), SCc.out.kind.but a2.out SCc.out.kind.lt (by omega), SCc.out.leaf.but a2.out SCc.out.leaf.lt (by omega), SCc.out.c.but a2.out SCc.out.c.lt (by omega), SCc.out.bel.trans (a2.out.below (by omega) SCc.out.bel.size)⟩)
        refine hK.out _ _ (RS.out _ CZ.out) (fun _ => ?_)
        clear hK K
        refine wpAnyH_done (by kernel_rfl) ?_ _
        go_simp
        go_wp2_with fail
        go_meet
        exact ⟨wa.heap.size, rfl, DZ0.out, CZ.out⟩
    · skip
      go_simp
      have b := (Below.refl (W4.drew).heap.size W4.drew).alloc (Nat.le_refl _) (.cells (ints Z).toArray 130)
      have SCa := Lib.hid (SC0.out.below b)
      have D0 := Lib.hid (Blk.new W4.drew 130 (ints Z))
      have n1 := SC0.out.sec.lt; have n2 := SC0.out.kind.lt; have n3 := SC0.out.leaf.lt; have n4 := SC0.out.c.lt
      have r := RS.out _ SCa.out
      clear b
      refine hK.out _ _ r (fun _ => ?_)
      clear hK K
      refine wpAnyH_ready (rs := [4]) (by kernel_rfl) (by simp) ?_
      refine AllReadyH.cons rfl (fun K hK => ?_) AllReadyH.nil
      go_simp
      refine (message_t I (sigC I seed q) xs q P m cc _ HI.out HIB.out rfl (secN_bytes _ _ _ _ HIB.out HSB.out) hq HX.out (HP.out.below SCa.out.bel) HXB.out HCC.out hml (HK.out.below SCa.out.bel HG.out)).mono ?_
      rintro e wb ⟨rfl, b⟩
      rw [HQQ.out]
      have SCb := Lib.hid (SCa.out.below b)
      have r := RS.out _ SCb.out
      have D0 := Lib.hid (D0.out.below b D0.out.lt)
      clear b
      refine hK.out _ _ r (fun _ => ?_)
      clear hK K
      refine wpAnyH_ready (rs := [5]) (by kernel_rfl) (by simp) ?_
      refine AllReadyH.cons rfl (fun K hK => ?_) AllReadyH.nil
      go_simp
      refine (digits_t i hi Q wb HQ1.out.1 HQ1.out.2).mono ?_
      rintro e wc ⟨rfl, b⟩
      rw [show dv (digN (kd i).w (kd i).ls Q) (kd i).p 265 = digL i Q from rfl, HDD.out]
      have SCc := Lib.hid (SCb.out.below b)
      have r := RS.out _ SCc.out
      have D0 := Lib.hid (D0.out.below b D0.out.lt)
      clear b
      refine hK.out _ _ r (fun _ => ?_)
      clear hK K
      refine wpAnyH_ready (rs := [7]) (by kernel_rfl) (by simp) ?_
      refine AllReadyH.cons rfl (fun K hK => ?_) AllReadyH.nil
      rw [if_pos (by kernel_rfl)]
      refine wstore_part 130 (.tmp 14) (.tmp 45) W4.drew.heap.size 0 130 [] (ints Z) [] (ints D) rfl (by rw [List.nil_append, List.append_nil]; exact D0.out) rfl HZD.out (size265 _ HD1.out) (ints_one _) rfl rfl ?_
      intro wz a1 a2 a3
      have DZ0 := Lib.hid (show Blk wz W4.drew.heap.size 130 (ints D) by have := a1.out; rwa [List.nil_append, List.append_nil] at this)
      have CZ := Lib.hid (show SCap w wz w.heap.size gk gl gc (I ++ seed) (sigC I seed q) I q i from ⟨SCc.out.sec.but a2.out SCc.out.sec.lt (by omega), SCc.out.kind.but a2.out SCc.out.kind.lt (by omega), SCc.out.leaf.but a2.out SCc.out.leaf.lt (by omega), SCc.out.c.but a2.out SCc.out.c.lt (by omega), SCc.out.bel.trans (a2.out.below (by omega) SCc.out.bel.size)⟩)
      refine hK.out _ _ (RS.out _ CZ.out) (fun _ => ?_)
      clear hK K
      refine wpAnyH_done (by kernel_rfl) ?_ _
      go_simp
      go_wp2_with fail
      go_meet
      exact ⟨W4.drew.heap.size, rfl, DZ0.out, CZ.out⟩
  case rest =>
    obtain ⟨gd, rfl, hd, sc⟩ := hcut
    have SC1 := Lib.hid sc; have D1 := Lib.hid hd
    clear hd sc SC HQ1
    go_wp2_with ((with_reducible refine load_blk 128 (.tmp 12) gl 128 (lf I q) _ rfl rfl ?_ Tryz.underlying128 ?_ ?_ ?_ ?_); exact SC1.out.leaf; exact rfl; exact lf_size _ _ HI.out; exact rfl)
    refine (walker_t I q _ HI.out hq).mono ?_
    rintro e w5 ⟨gB, rfl, bg, hgB, b5⟩
    have SC2 := Lib.hid (SC1.out.below b5); have D2 := Lib.hid (D1.out.below b5 D1.out.lt); have G2 := Lib.hid bg
    have c0 : (w5.alloc (.cells #[.pointer none, .int .i64 0] 81)).cell? ⟨gk, 0, none⟩ = some (.int .u64 ((kd i).code : Int)) := (SC2.out.kind.alloc _).cell 0
    clear bg b5 SC1 D1 hgB
    have W0 := Lib.hid (Wr.new (w := w5))
    have A5 := Lib.hid ((Below.refl w5.heap.size w5).alloc (Nat.le_refl _) (.cells #[.pointer none, .int .i64 0] 81))
    have hcode : (kd i).code < 5 := by
      have : i = 0 ∨ i = 1 ∨ i = 2 ∨ i = 3 := by omega
      rcases this with rfl | rfl | rfl | rfl <;> decide
    obtain ⟨code, hco⟩ : ∃ c, (kd i).code = c := ⟨_, rfl⟩
    rw [hco] at c0 hcode
    have HCO := Lib.hid hco
    clear hco
    go_wp2_with fail
    refine (num_s code 4 W0.out (Below.refl _ _) (by simp) (by omega) (by decide) (by decide) (by simp)).mono ?_
    rintro e w6 ⟨rfl, x6, b6⟩
    rw [List.nil_append] at x6
    have X6 := Lib.hid x6; have B6 := Lib.hid (A5.out.trans (b6.mono (Nat.le_refl _)))
    have SC6 := Lib.hid (SC2.out.below B6.out); have D6 := Lib.hid (D2.out.below B6.out D2.out.lt); have G6 := Lib.hid (G2.out.below B6.out G2.out.lt)
    obtain ⟨gw, hgw⟩ : ∃ g, w5.heap.size = g := ⟨_, rfl⟩
    have gwl : gw < w6.heap.size := by have := x6.lt; omega
    have dl : gd < gw := by have := D2.out.lt; omega
    have sl : w.heap.size < gw := by have := SC2.out.sec.lt; omega
    have kl : gk < gw := by have := SC2.out.kind.lt; omega
    have ll : gl < gw := by have := SC2.out.leaf.lt; omega
    have cl : gc < gw := by have := SC2.out.c.lt; omega
    have bl : gB < gw := by have := G2.out.lt; omega
    rw [hgw] at X6 ⊢
    have HBW := Lib.hid (fun (V : World) (h : Below gw w6 V) => show Below w5.heap.size w6 V from hgw ▸ h)
    clear x6 b6 hgw W0 A5 c0 SC2 D2 G2 B6 HBW
    go_wp2_with fail
    refine (raw_s (sigC I seed q) (some ⟨gc, 0, none⟩) 32 32 X6.out (Below.refl _ _) (by omega) C1.out (Sr.of_blk (rest := []) SC6.out.c (by simp)) (by simp [beN_length])).mono ?_
    rintro e w7 ⟨rfl, x7, b7⟩
    have X7 := Lib.hid x7
    have SC7 := Lib.hid (SC6.out.belowg b7 sl kl ll cl (by omega)); have D7 := Lib.hid (D6.out.below b7 dl); have G7 := Lib.hid (G6.out.below b7 bl)
    clear x7 b7 X6 SC6 D6 G6
    obtain ⟨p, hpp⟩ : ∃ p, (kd i).p = p := ⟨_, rfl⟩
    have hp265 := kd_p i hi
    rw [hpp] at hp265
    have cp : w7.cell? ⟨gk, 2, none⟩ = some (.int .i64 (p : Int)) := by rw [← hpp]; exact SC7.out.kind.cell 2
    have HPP := Lib.hid hpp
    have hsl := sliceAt_high (P := Tryz.prog) (t := 130) (e := 3) (n := 265) Tryz.underlying130 int_size gd 0 .i64 p hp265
    clear hpp
    go_wp2_with fail
    clear cp hsl
    go_loopw [57] (fun s wr => ∃ k : Nat, k ≤ p ∧ s = .int .i64 (k : Int) ∧ Wr wr (fun x => gw ≤ x) gw (beN code 4 ++ sigC I seed q ++ catN (sigE I seed q i Q) k) ∧ SCap w wr w.heap.size gk gl gc (I ++ seed) (sigC I seed q) I q i ∧ Blk wr gd 130 (ints D) ∧ Blk wr gB 155 (u8s (begN I q))) (fun s _ => p - (intOf s).toNat)
    case atStart => exact ⟨0, by omega, rfl, by rw [catN, List.append_nil]; exact X7.out, SC7.out, D7.out, G7.out⟩
    case round =>
      clear X7 SC7 D7 G7
      obtain ⟨k, hk, rfl, x, sc, d, g⟩ := hrel
      have HCL := Lib.hid (catN_length (sigE I seed q i Q) k (fun j _ => (sigE_ok I seed q i Q j hi HIB.out HSB.out).1))
      have gwr : gw < wr.heap.size := x.lt
      have X := Lib.hid x; have SC := Lib.hid sc; have D0 := Lib.hid d; have G0 := Lib.hid g
      by_cases hlt : k < p
      · have SP := Lib.hid (show Blk wr w.heap.size 26 (u8s I ++ (u8s seed ++ [])) by rw [List.append_nil, ← u8s_app]; exact sc.sec)
        have EK := Lib.hid (sigE_ok I seed q i Q k hi HIB.out HSB.out)
        have hdk : digN (kd i).w (kd i).ls Q k = gt D k := by rw [← HDD.out, digL_get i k (by rw [HPP.out]; exact hlt)]
        have hdle := digN_le i k Q
        have htop := top_lt i hi
        have ck : wr.cell? ⟨gd, k, none⟩ = some (.int .i64 ((digN (kd i).w (kd i).ls Q k : Nat) : Int)) := by
          rw [d.cell, ints_get _ _ (by rw [HD1.out]; omega), hdk]
        obtain ⟨dk, hdk2⟩ : ∃ x, digN (kd i).w (kd i).ls Q k = x := ⟨_, rfl⟩
        rw [hdk2] at ck hdle
        have HDK := Lib.hid (show sigE I seed q i Q k = walkN I q k 0 dk (secN I seed q k) by unfold sigE; rw [hdk2])
        have dk255 : dk < 256 := by omega
        clear x sc d g hdk hdle htop hdk2
        go_wp2_with (first
          | ((with_reducible refine load_blk 128 (.tmp 12) gl 128 (lf I q) _ rfl rfl ?_ Tryz.underlying128 ?_ ?_ ?_ ?_); exact SC.out.leaf; exact rfl; exact lf_size _ _ HI.out; exact rfl)
          | ((with_reducible refine load_part 24 (.tmp 67) w.heap.size 16 26 (u8s I) (u8s seed) [] _ rfl rfl ?_ ?_ Tryz.underlying24 ?_ ?_ ?_ ?_); exact SP.out; exact (by rw [u8s_length, HI.out]); exact rfl; exact size32 _ HS.out; exact rfl))
        clear ck
        refine (secret_t I seed q k wr HI.out HIB.out HS.out HSB.out hq (by omega) (HK.out.below SC.out.bel HG.out)).mono ?_
        rintro e w8 ⟨rfl, b8⟩
        have SC8 := Lib.hid (SC.out.below b8); have D8 := Lib.hid (D0.out.below b8 D0.out.lt); have G8 := Lib.hid (G0.out.below b8 G0.out.lt); have B8 := Lib.hid b8
        clear b8 SP
        go_wp2_with fail
        refine (walk_t I (secN I seed q k) q k 0 dk gB w8 HI.out HIB.out rfl (secN_bytes _ _ _ _ HIB.out HSB.out) (by omega) (Nat.zero_le _) dk255 G8.out (HK.out.below SC8.out.bel HG.out)).mono ?_
        rintro e w9 ⟨rfl, b9⟩
        rw [Nat.sub_zero, ← HDK.out]
        have SC9 := Lib.hid (SC8.out.below b9); have D9 := Lib.hid (D8.out.below b9 D8.out.lt); have G9 := Lib.hid (G8.out.below b9 G8.out.lt); have B9 := Lib.hid (B8.out.trans (b9.mono B8.out.size))
        clear b9 SC8 D8 G8 B8 HDK
        obtain ⟨E, hE⟩ : ∃ E, sigE I seed q i Q k = E := ⟨_, rfl⟩
        rw [hE] at EK ⊢
        have HE := Lib.hid hE
        clear hE
        have HZE := Lib.hid (show (u8s z32).length = (u8s E).length by rw [u8s_length, u8s_length, EK.out.1]; rfl)
        have R9 := Lib.hid (Blk.new w9 24 (u8s z32))
        have E9 := Lib.hid (R9.out.setRow (u8s E))
        have b10 := below_setRow ((Below.refl w9.heap.size w9).alloc (Nat.le_refl _) (.cells (u8s z32).toArray 24)) (Nat.le_refl _) (u8s E).toArray
        have SC10 := Lib.hid (SC9.out.below b10); have D10 := Lib.hid (D9.out.below b10 D9.out.lt); have G10 := Lib.hid (G9.out.below b10 G9.out.lt); have B10 := Lib.hid (B9.out.trans (b10.mono B9.out.size))
        clear b10 SC9 D9 G9 B9 SC D0 G0
        go_wp2_with ((with_reducible refine store_blk 24 (.tmp 19) (.tmp 70) w9.heap.size 24 (u8s z32) (u8s E) rfl rfl ?_ ?_ ?_ ?_ ?_ ?_ ?_); exact R9.out; exact HZE.out; exact size32 _ EK.out.1; exact u8s_one _; exact rfl; exact rfl)
        refine (raw_s E (some ⟨w9.heap.size, 0, none⟩) 32 32 X.out B10.out (by omega) EK.out.1 (Sr.of_blk (rest := []) E9.out (by simp)) (by rw [List.length_append, List.length_append, beN_length, HCL.out, C1.out]; omega)).mono ?_
        rintro e w11 ⟨rfl, x11, b11⟩
        have X11 := Lib.hid x11; have SC11 := Lib.hid (SC10.out.belowg b11 sl kl ll cl (by omega)); have D11 := Lib.hid (D10.out.below b11 dl); have G11 := Lib.hid (G10.out.below b11 bl)
        clear x11 b11 X SC10 D10 G10 B10 R9 E9
        go_wp2_with fail
        go_roundw
        case rel => exact ⟨k + 1, by omega, by go_num, by rw [catN, HE.out, ← List.append_assoc]; exact X11.out, SC11.out, D11.out, G11.out⟩
        case measure => simp [intOf]; omega
      · obtain rfl : k = p := by omega
        clear x sc d g
        go_wp2_with fail
        refine (wbytes_t _ _ _ wr X.out (by rw [List.length_append, List.length_append, beN_length, HCL.out, C1.out]; omega)).mono ?_
        rintro e w12 ⟨v, rfl, o12, b12⟩
        have O12 := Lib.hid o12; have B12 := Lib.hid (SC.out.bel.trans (b12.mono SC.out.bel.size))
        have SB := Lib.hid SC.out.bel.size
        clear o12 b12 X SC D0 G0
        go_wp2_with fail
        go_ret2
        refine ⟨v, rfl, ?_, B12.out⟩
        have h := own_base O12.out (base' := w.heap.size) (fun k e => Nat.le_trans SB.out (O12.out.lt k e).1)
        unfold sigN
        rw [HQQ.out, HCO.out, HPP.out]
        exact h
end Go.Proofs.YtigbnjgmdgkgjaaGreatDoor
