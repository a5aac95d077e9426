/-
  PACKAGE ots, THE CHAINS: walker, and the closure that it makes.
-/
import Derived.Test.YtigbnjgmdgkgjaaGreatDoorOtS
import Derived.Laws.CopyOwn
import Derived.Deep.DeepCutAuto
namespace Go.Proofs.YtigbnjgmdgkgjaaGreatDoor
open Go Go.RowKit Sh

/-- copy into a block that is known whole, as one operation of a region. -/
theorem wcopy_part {P : Program} {o : Oper} {a : Act} {w : World} {K : Act → World → Prop} {Q : Exit → Act → World → Prop} (d s : Operand) (dT sT elem : TypeId) (g off dLen dCap sLen sCap nn : Nat) (dp sp : Option Addr) (t : TypeId) (A M C M' : List Value)
    (ho : o.op = .call { callee := .builtin .copy, args := #[d, s], argTypes := #[dT, sT] }) (hu : P.underlying dT = some (.slice elem)) (hsz : (P.info? elem).map (·.size) = some 1)
    (hg : Blk w g t (A ++ (M ++ C))) (hoff : off = A.length) (hl : M.length = M'.length) (hn : M'.length = Nat.min sLen dLen) (hd : a.eval d = .slice dp dLen dCap) (hs : a.eval s = .slice sp sLen sCap)
    (hpos : 0 < M'.length → dp = some ⟨g, off, none⟩ ∧ ∃ ad, sp = some ad ∧ ∀ j v, M'[j]? = some v → w.cell? (ad.add j) = some v) (h1 : ∀ v ∈ M', v.oneCell' = true) (hnn : M'.length = nn)
    (h : ∀ w', Hid (Blk w' g t (A ++ (M' ++ C))) → Hid (But w.heap.size g w w') → Hid (w'.heap.size = w.heap.size) → K (a.put o.dst (.int .i64 (nn : Int))) w') : o.wp P a w K Q := by
  subst hnn
  by_cases h0 : M'.length = 0
  · obtain rfl : M' = [] := List.eq_nil_of_length_eq_zero h0
    obtain rfl : M = [] := List.eq_nil_of_length_eq_zero hl
    have hrun := run_copy_none (P := P) w dT sT o.type elem dp sp dLen dCap sLen sCap hu hsz (by simpa using hn.symm)
    unfold Oper.wp
    simp [execOp, ho, resolve, invoke, builtin, hd, hs, hrun, Result.andThen]
    exact h w (Lib.hid hg) (Lib.hid (But.refl _ _ _)) (Lib.hid rfl)
  · obtain ⟨rfl, ad, rfl, hsrc⟩ := hpos (by omega)
    subst hoff
    have hrun := run_copy_row (P := P) w dT sT o.type elem g A.length dLen dCap ad sLen sCap (A ++ (M ++ C)).toArray t M' hu hsz hg hn hsrc (by simp; omega) h1
    unfold Oper.wp
    simp [execOp, ho, resolve, invoke, builtin, hd, hs, hrun, Result.andThen]
    refine h _ ?_ ?_ ?_
    · have e : (A ++ (M ++ C)).take A.length ++ (M' ++ (A ++ (M ++ C)).drop (A.length + M'.length)) = A ++ (M' ++ C) := by
        rw [← hl, ← List.drop_drop, List.take_left, List.drop_left, List.drop_left]
      have hb := hg.setRow ((A ++ (M ++ C)).take A.length ++ (M' ++ (A ++ (M ++ C)).drop (A.length + M'.length)))
      rw [e] at hb
      rw [← e] at hb ⊢
      exact Lib.hid (by simpa using hb)
    · exact Lib.hid ((But.refl _ _ _).setRow _)
    · exact Lib.hid (by simp)
def stepN (I : List Nat) (q i j : Nat) (x : List Nat) : List Nat := sum (headN I q i ++ [j] ++ x)
/-- k steps along chain i, from the step 'from_' on. -/
def walkN (I : List Nat) (q i from_ : Nat) : Nat → List Nat → List Nat
  | 0, x => x
  | k + 1, x => stepN I q i (from_ + k) (walkN I q i from_ k x)
theorem walkN_length (I : List Nat) (q i from_ k : Nat) (x : List Nat) (hx : x.length = 32) : (walkN I q i from_ k x).length = 32 := by
  cases k with
  | zero => exact hx
  | succ k => rfl
theorem walkN_bytes (I : List Nat) (q i from_ k : Nat) (x : List Nat) (hI : Bytes I) (hx : Bytes x) (hf : from_ + k ≤ 256) : Bytes (walkN I q i from_ k x) := by
  induction k with
  | zero => exact hx
  | succ k ih =>
    unfold walkN stepN
    exact sum_bytes _ (app_bytes (app_bytes (headN_bytes _ _ _ hI) (sl_bytes (by simp; omega))) (ih (by omega)))
theorem walkN_add (I : List Nat) (q i from_ k m : Nat) (x : List Nat) : walkN I q i (from_ + k) m (walkN I q i from_ k x) = walkN I q i from_ (k + m) x := by
  induction m with
  | zero => rfl
  | succ m ih => rw [walkN, ih, ← Nat.add_assoc, walkN, Nat.add_assoc]
/-- What a walker keeps. -/
def begN (I : List Nat) (q : Nat) : List Nat := headN I q 0 ++ List.replicate 33 0
theorem begN_length (I : List Nat) (q : Nat) (hI : I.length = 16) : (begN I q).length = 55 := by simp [begN, headN_length I q 0 hI]
theorem size55 (l : List Nat) (h : l.length = 55) : (Tryz.prog.info? 155).map (·.size) = some (u8s l).length := by
  rw [u8s_length, h]
  kernel_rfl
set_option maxRecDepth 100000 in
set_option maxHeartbeats 1000000 in
theorem walker_t (I : List Nat) (q : Nat) (w : World) (hI : I.length = 16) (hq : q < 32) :
    Calls Tryz.prog 74 #[.agg (lf I q).toArray] w fun e w' => ∃ g, e = .returned (.func (.func 99) #[] #[.pointer (some ⟨g, 0, none⟩)]) ∧ Blk w' g 155 (u8s (begN I q)) ∧ w.heap.size ≤ g ∧ Below w.heap.size w w' := by
  have HI := Lib.hid hI
  have hmf : ∀ (fn : Fn) (first cap : Array Value) (w : World), (Instr.makeFunc fn first cap).run Tryz.prog w = .ok (.func fn first cap) w := fun _ _ _ _ => rfl
  clear hI
  go_enter Tryz.func74, Tryz.ntmps74
  go_wp2_with fail
  refine world_is (fun W => Blk W w.heap.size 128 (lf I q) ∧ Blk W (w.heap.size + 1) 155 (u8s (List.replicate 55 0)) ∧ Below w.heap.size w W ∧ W.heap.size = w.heap.size + 2) ⟨(Blk.new _ _ (lf I q)).alloc _, Blk.new2 _ _ _ (u8s (List.replicate 55 0)), ((Below.refl _ _).alloc (Nat.le_refl _) _).alloc (by simp) _, by simp⟩ ?_
  rintro W ⟨k0, k1, bw, hz⟩
  have K1 := Lib.hid (show Blk W.drew (w.heap.size + 1) 155 ([] ++ (u8s (List.replicate 22 0) ++ u8s (List.replicate 33 0))) from k1)
  have K0 := Lib.hid k0.drew; have BW := Lib.hid bw.drew
  have r1 : W.drew.rangeAt w.heap.size 0 (lf I q) := range_of_blk k0.drew
  have hz2 : W.drew.heap.size = w.heap.size + 2 := hz
  have HZ := Lib.hid hz2
  clear k0 k1 bw hz hz2
  refine wp_region_held (S := fun V => V.rangeAt w.heap.size 0 (lf I q)) (by kernel_rfl) ?_
  change wpAnyH _ _ _ _ _ _ _ _ W.drew
  refine wpAnyH_take (i := 0) (v := ?_) rfl (by kernel_rfl) (by kernel_rfl) (by kernel_rfl) (fun _ _ _ h => h) (Or.inl ⟨by kernel_rfl, ?_⟩) r1 ?_
  rotate_left 1
  · (intro w hS; clear hS; go_simp; try (with_reducible rfl))
  refine wpAnyH_take (i := 1) (v := .agg (lf I q).toArray) rfl (by kernel_rfl) (by kernel_rfl) (by kernel_rfl) (fun _ _ _ h => h) (yieldsIf_load_mid (by kernel_rfl) 128 (.tmp 1) rfl w.heap.size 0 (by go_simp) (lf I q) _ (fun _ h => h) Tryz.underlying128 rfl (lf_size _ _ HI.out)) r1 ?_
  refine wpAnyH_ready (rs := [2]) (by kernel_rfl) (by simp) ?_
  refine AllReadyH.cons rfl (fun K hK => ?_) AllReadyH.nil
  go_simp
  refine (head_t I q 0 W.drew HI.out hq (by decide)).mono ?_
  rintro e w2 ⟨v, rfl, o2, b2⟩
  obtain ⟨A, n, c, rfl, hn, hc⟩ : ∃ A n c, v = .slice A n c ∧ n = 22 ∧ n ≤ c := by
    obtain ⟨A, c, e, h⟩ := own_form o2
    exact ⟨A, _, c, e, headN_length I q 0 HI.out, h⟩
  subst hn
  rw [headN_length I q 0 HI.out] at o2
  have S2 := Lib.hid (Sr.of_own o2); have M1 := Lib.hid (K1.out.below b2 K1.out.lt); have M0 := Lib.hid (K0.out.below b2 K0.out.lt); have B2 := Lib.hid (BW.out.trans (b2.mono BW.out.size))
  have r2 : w2.rangeAt w.heap.size 0 (lf I q) := range_of_blk M0.out
  clear o2 b2 K0 K1 BW HZ
  refine hK.out _ _ r2 (fun _ => ?_)
  clear hK K
  refine wpAnyH_ready (rs := [3]) (by kernel_rfl) (by simp) ?_
  refine AllReadyH.cons rfl (fun K hK => ?_) AllReadyH.nil
  rw [if_pos (by kernel_rfl)]
  have HL1 := Lib.hid (show (u8s (List.replicate 22 0)).length = (u8s (headN I q 0)).length by rw [u8s_length, u8s_length, headN_length I q 0 HI.out, List.length_replicate])
  have HL2 := Lib.hid (show (u8s (headN I q 0)).length = 22 by rw [u8s_length, headN_length I q 0 HI.out])
  refine wcopy_part (.tmp 4) (.tmp 6) 27 27 5 (w.heap.size + 1) 0 55 55 22 c 22 (some ⟨w.heap.size + 1, 0, none⟩) A 155 [] (u8s (List.replicate 22 0)) (u8s (List.replicate 33 0)) (u8s (headN I q 0)) rfl Tryz.underlying27 byte_size M1.out rfl HL1.out HL2.out rfl rfl (fun _ => ⟨rfl, S2.out.cells (by rw [headN_length I q 0 HI.out]; decide)⟩) (u8s_each _) HL2.out ?_
  intro w3 a1 a2 a3
  have r3 : w3.rangeAt w.heap.size 0 (lf I q) := range_of_blk (M0.out.but a2.out M0.out.lt (by omega))
  have B3 := Lib.hid (B2.out.trans (a2.out.below (B' := w.heap.size) (by omega) B2.out.size))
  have K3 := Lib.hid (show Blk w3 (w.heap.size + 1) 155 (u8s (begN I q)) by unfold begN; rw [u8s_app]; exact a1.out)
  clear a1 a2 a3 M0 M1 B2 S2
  refine hK.out _ _ r3 (fun _ => ?_)
  clear hK K
  refine wpAnyH_done (by kernel_rfl) ?_ _
  go_simp
  go_wp2_with fail
  go_ret
  exact ⟨_, rfl, K3.out, by omega, B3.out⟩
theorem beN_two (v : Nat) : beN v 2 = [v / 256 % 256, v % 256] := by simp [beN, List.range_succ]
theorem beg_set (I : List Nat) (q i : Nat) (hI : I.length = 16) (hi : i < 65536) : ((begN I q).set 20 (i / 256)).set 21 (i % 256) = headN I q i ++ List.replicate 33 0 := by
  have hP : (I ++ beN q 4).length = 20 := by simp [beN_length, hI]
  unfold begN headN
  rw [beN_two, beN_two, Nat.mod_eq_of_lt (show i / 256 < 256 by omega)]
  simp only [List.append_assoc]
  rw [← List.append_assoc, List.set_append_right _ _ (by omega), hP, List.set_append_right _ _ (by omega), hP]
  simp
set_option maxRecDepth 100000 in
set_option maxHeartbeats 1000000 in
theorem walk_t (I x : List Nat) (q i a b gB : Nat) (w : World) (hI : I.length = 16) (hIb : Bytes I) (hx : x.length = 32) (hxb : Bytes x) (hi : i < 265) (hab : a ≤ b) (hb : b < 256) (hB : Blk w gB 155 (u8s (begN I q))) (hk : KAt w) :
    Calls Tryz.prog 99 #[.int .i64 (i : Int), .int .i64 (a : Int), .int .i64 (b : Int), .agg (u8s x).toArray, .pointer (some ⟨gB, 0, none⟩)] w fun e w' => e = .returned (.agg (u8s (walkN I q i a (b - a) x)).toArray) ∧ Below w.heap.size w w' := by
  have HI := Lib.hid hI; have HIB := Lib.hid hIb; have HX := Lib.hid hx; have HXB := Lib.hid hxb; have HB := Lib.hid hB; have HK := Lib.hid hk; have HG := Lib.hid hk.lt
  have i1 : (i : Int) < 265 := by omega
  have a1 : (a : Int) ≤ b := by omega
  have b1 : (b : Int) < 256 := by omega
  clear hI hIb hx hxb hB hk
  go_enter Tryz.func99, Tryz.ntmps99
  have lB := HB.out.lt
  have B1 := Lib.hid ((HB.out.alloc (.cells (u8s x).toArray 24)).alloc (.cells (u8s z32).toArray 24))
  have B2 := Lib.hid (blk_at (w := (w.alloc (.cells (u8s x).toArray 24)).alloc (.cells (u8s z32).toArray 24)) (g := w.heap.size + 1 + 1) (by simp) (.cells (u8s (List.replicate 55 0)).toArray 155) 155 (u8s (List.replicate 55 0)))
  have HL := Lib.hid (show (u8s (List.replicate 55 0)).length = (u8s (begN I q)).length by rw [u8s_length, u8s_length, begN_length I q HI.out, List.length_replicate])
  go_upto_region 2 with (first
    | ((with_reducible refine load_blk 155 (.tmp 4) gB 155 (u8s (begN I q)) _ rfl rfl ?_ Tryz.underlying155 ?_ ?_ ?_ ?_); exact B1.out; exact rfl; exact size55 _ (begN_length I q HI.out); exact rfl)
    | ((with_reducible refine store_blk 155 (.tmp 10) (.tmp 12) (w.heap.size + 1 + 1) 155 (u8s (List.replicate 55 0)) (u8s (begN I q)) rfl rfl ?_ ?_ ?_ ?_ ?_ ?_ ?_); exact B2.out; exact HL.out; exact size55 _ (begN_length I q HI.out); exact u8s_one _; exact rfl; exact rfl))
  refine world_is (fun W => Blk W w.heap.size 24 (u8s x) ∧ Blk W (w.heap.size + 1) 24 (u8s z32) ∧ Blk W (w.heap.size + 1 + 1) 155 (u8s (begN I q)) ∧ Below w.heap.size w W)
    ⟨(((Blk.new _ _ (u8s x)).alloc _).alloc _).setRow_far (by omega) _, ((Blk.new2 _ _ _ (u8s z32)).alloc _).setRow_far (by omega) _, B2.out.setRow _, below_setRow ((((Below.refl _ _).alloc (Nat.le_refl _) _).alloc (by simp) _).alloc (by simp; omega) _) (by omega) _⟩ ?_
  rintro W ⟨k0, k1, k2, bw⟩
  obtain ⟨g1, hg1⟩ : ∃ g, w.heap.size + 1 = g := ⟨_, rfl⟩
  rw [hg1] at k1 k2 ⊢
  obtain ⟨g2, hg2⟩ : ∃ g, g1 + 1 = g := ⟨_, rfl⟩
  rw [hg2] at k2 ⊢
  have l1 : w.heap.size < g1 := by omega
  have l2 : g1 < g2 := by omega
  have hex : ∀ j, j < 55 → ∃ v, W.cell? ⟨g2, j, none⟩ = some v := fun j hj => by
    rw [k2.cell]
    exact ⟨_, List.getElem?_eq_getElem (by rw [u8s_length, begN_length I q HI.out]; exact hj)⟩
  obtain ⟨v20, e20⟩ := hex 20 (by decide)
  obtain ⟨v21, e21⟩ := hex 21 (by decide)
  have f20 := k2.frozen 20
  have f21 := k2.frozen 21
  have K0 := Lib.hid k0; have K1 := Lib.hid k1; have K2 := Lib.hid k2; have BW := Lib.hid bw
  clear hex k0 k1 k2 bw hg1 hg2 B1 B2 HL HB
  go_wp2_with fail
  clear e20 e21 f20 f21 v20 v21
  have m2 := (K2.out.store 20 (.int .u8 ((i / 256 : Nat) : Int))).store 21 (.int .u8 ((i % 256 : Nat) : Int))
  rw [u8s_set, u8s_set, beg_set I q i HI.out (by omega)] at m2
  refine world_is (fun V => Blk V w.heap.size 24 (u8s x) ∧ Blk V g1 24 (u8s z32) ∧ Blk V g2 155 (u8s (headN I q i ++ List.replicate 33 0)) ∧ Below w.heap.size w V)
    ⟨(K0.out.far (by show w.heap.size ≠ g2; omega) _).far (by show w.heap.size ≠ g2; omega) _, (K1.out.far (by show g1 ≠ g2; omega) _).far (by show g1 ≠ g2; omega) _, m2, (BW.out.setCell (by show w.heap.size ≤ g2; omega) _).setCell (by show w.heap.size ≤ g2; omega) _⟩ ?_
  clear m2 K0 K1 K2 BW
  rintro W2 ⟨k0, k1, k2, bw⟩
  have K0 := Lib.hid k0; have K1 := Lib.hid k1; have K2 := Lib.hid k2; have BW := Lib.hid bw
  clear k0 k1 k2 bw
  go_loopw [11] (fun s wr => ∃ (k : Nat) (L : List Nat), a + k ≤ b ∧ s = .int .i64 ((a + k : Nat) : Int) ∧ L.length = 33 ∧ Blk wr g2 155 (u8s (headN I q i ++ L)) ∧ Blk wr w.heap.size 24 (u8s (walkN I q i a k x)) ∧ Blk wr g1 24 (u8s z32) ∧ Below w.heap.size w wr) (fun s _ => b - (intOf s).toNat)
  case atStart => exact ⟨0, List.replicate 33 0, by omega, rfl, List.length_replicate, K2.out, K0.out, K1.out, BW.out⟩
  case round =>
    clear K0 K1 K2 BW
    obtain ⟨k, L, hk, rfl, hL, k2, k0, k1, bw⟩ := hrel
    obtain ⟨j, hj⟩ : ∃ j, a + k = j := ⟨_, rfl⟩
    have hjb : j ≤ b := by omega
    rw [hj]
    match L, hL with
    | l0 :: L, hL =>
      have hL2 : L.length = 32 := by simpa using hL
      have X1 := Lib.hid (walkN_length I q i a k x HX.out)
      have X2 := Lib.hid (walkN_bytes I q i a k x HIB.out HXB.out (by omega))
      have XS := Lib.hid (show walkN I q i a (k + 1) x = sum (headN I q i ++ [j] ++ walkN I q i a k x) by rw [walkN, hj, stepN])
      have XE := Lib.hid (fun (h : a + k = b) => show walkN I q i a (b - a) x = walkN I q i a k x by rw [show b - a = k from by omega])
      obtain ⟨X, hX⟩ : ∃ X, walkN I q i a k x = X := ⟨_, rfl⟩
      rw [hX] at X1 X2 XS k0
      simp only [hX] at XE
      have HJ := Lib.hid hj; have HL2 := Lib.hid hL2
      clear hX hL hL2 hk hj
      by_cases hlt : j < b
      · have j1 : (j : Int) < b := by omega
        have j2 : (j : Int) < 256 := by omega
        have e22 : wr.cell? ⟨g2, 22, none⟩ = some (.int .u8 ((l0 : Nat) : Int)) := by
          rw [k2.cell, u8s_get _ _ (by simp [headN_length I q i HI.out]), gt_app_right (by rw [headN_length I q i HI.out]; exact Nat.le_refl _), headN_length I q i HI.out]; rfl
        have f22 := k2.frozen 22
        have K0 := Lib.hid k0; have K1 := Lib.hid k1; have K2 := Lib.hid k2; have BW := Lib.hid bw
        clear k0 k1 k2 bw
        go_upto_region 7 with (fail)
        clear e22 f22
        have m2 := K2.out.store 22 (.int .u8 (j : Int))
        rw [u8s_set, show (headN I q i ++ l0 :: L).set 22 j = headN I q i ++ j :: L from by rw [List.set_append_right _ _ (by rw [headN_length I q i HI.out]; exact Nat.le_refl _), headN_length I q i HI.out]; rfl] at m2
        refine world_is (fun V => Blk V w.heap.size 24 (u8s X) ∧ Blk V g1 24 (u8s z32) ∧ Blk V g2 155 (u8s (headN I q i ++ [j]) ++ (u8s L ++ [])) ∧ Below w.heap.size w V)
          ⟨K0.out.far (by show w.heap.size ≠ g2; omega) _, K1.out.far (by show g1 ≠ g2; omega) _, by rw [List.append_nil, ← u8s_app, List.append_assoc]; exact m2, BW.out.setCell (by show w.heap.size ≤ g2; omega) _⟩ ?_
        clear m2 K0 K1 K2 BW
        rintro W3 ⟨k0, k1, k2, bw⟩
        have K0 := Lib.hid k0; have K1 := Lib.hid k1; have K2 := Lib.hid k2; have BW := Lib.hid bw
        clear k0 k1 k2 bw
        refine wp_region_still_tail 2 (by kernel_rfl) (by kernel_rfl) ?_
        simp only [List.take_succ_cons, List.take_zero, List.drop_succ_cons, List.drop_zero]
        repeat (refine wpStill_step (fun K hK => ?_); go_simp; (try go_bits); refine hK _ ?_; clear hK K)
        refine wpStill_nil ?_
        have HLL := Lib.hid (show (u8s L).length = (u8s X).length by rw [u8s_length, u8s_length, HL2.out, X1.out])
        have HXL := Lib.hid (show (u8s X).length = 32 by rw [u8s_length, X1.out])
        refine copy_part (.tmp 29) (.tmp 30) 27 27 5 g2 23 32 32 32 32 32 (some ⟨g2, 23, none⟩) (some ⟨w.heap.size, 0, none⟩) 155 (u8s (headN I q i ++ [j])) (u8s L) [] (u8s X) rfl rfl Tryz.underlying27 byte_size K2.out.drew (by rw [u8s_length, List.length_append, headN_length I q i HI.out]; rfl) HLL.out HXL.out rfl rfl (fun _ => ⟨rfl, _, rfl, fun j v hv => by rw [Addr.add_mid, Nat.zero_add]; exact (K0.out.drew.cell j).trans hv⟩) (u8s_each _) HXL.out ?_
        intro w4 a1' a2' a3'
        have bt := a2'.out
        have M0 := Lib.hid (K0.out.drew.but bt K0.out.lt (by omega)); have M1 := Lib.hid (K1.out.drew.but bt K1.out.lt (by omega))
        have B4 := Lib.hid (BW.out.drew.trans (bt.below (B' := w.heap.size) (by omega) BW.out.size))
        have M2 := Lib.hid (show Blk w4 g2 155 (u8s (headN I q i ++ [j] ++ X) ++ []) by rw [List.append_nil, u8s_app]; have := a1'.out; rwa [List.append_nil] at this)
        clear a1' a2' a3' bt K0 K1 K2 BW
        have hT : (headN I q i ++ [j] ++ X).length = 55 := by simp [headN_length I q i HI.out, X1.out]
        have HT := Lib.hid hT
        have hTb : Bytes (headN I q i ++ [j] ++ X) := app_bytes (app_bytes (headN_bytes _ _ _ HIB.out) (sl_bytes (by simp; omega))) X2.out
        have HTB := Lib.hid hTb
        clear hT hTb
        go_wp2_with fail
        refine (sum_u (headN I q i ++ [j] ++ X) (some ⟨g2, 0, none⟩) 55 55 w4 HTB.out (Sr.of_blk M2.out rfl) HT.out (Nat.le_refl _) (by decide) (HK.out.below B4.out HG.out)).mono ?_
        rintro e w5 ⟨rfl, b5⟩
        rw [← XS.out]
        have N0 := Lib.hid (M0.out.below b5 M0.out.lt); have N1 := Lib.hid (M1.out.below b5 M1.out.lt); have N2 := Lib.hid (M2.out.below b5 M2.out.lt); have B5 := Lib.hid (B4.out.trans (b5.mono B4.out.size))
        clear b5 M0 M1 M2 B4
        obtain ⟨Y, hY⟩ : ∃ Y, walkN I q i a (k + 1) x = Y := ⟨_, rfl⟩
        have Y1 := Lib.hid (show Y.length = 32 by rw [← hY, XS.out]; rfl)
        rw [hY]
        have HY := Lib.hid hY
        clear hY
        have HYL := Lib.hid (show (u8s X).length = (u8s Y).length by rw [u8s_length, u8s_length, X1.out, Y1.out])
        go_wp2_with ((with_reducible refine store_blk 24 (.tmp 8) (.tmp 33) w.heap.size 24 (u8s X) (u8s Y) rfl rfl ?_ ?_ ?_ ?_ ?_ ?_ ?_); exact N0.out; exact HYL.out; exact size32 _ Y1.out; exact u8s_one _; exact rfl; exact rfl)
        go_roundw
        case rel =>
          have hj := HJ.out
          refine ⟨k + 1, j :: X, by omega, ?_, by simp [X1.out], ?_, ?_, N1.out.setRow_far (by omega) _, below_setRow B5.out (Nat.le_refl _) _⟩
          · rw [show a + (k + 1) = j + 1 from by omega]; go_num
          · have := N2.out.setRow_far (show g2 ≠ w.heap.size by omega) (u8s Y).toArray
            rw [List.append_nil, List.append_assoc] at this
            exact this
          · have := N0.out.setRow (u8s Y)
            rw [← HY.out] at this
            rw [← HY.out]
            exact this
        case measure => simp [intOf]; omega
      · have hjb2 : j = b := by omega
        have XE2 := Lib.hid (XE (by have := HJ.out; omega))
        have K0 := Lib.hid k0; have K1 := Lib.hid k1; have BW := Lib.hid bw
        have j1 : ¬ ((j : Int) < b) := by omega
        have HZL := Lib.hid (show (u8s z32).length = (u8s X).length by rw [u8s_length, u8s_length, X1.out]; rfl)
        clear k0 k1 k2 bw hlt hjb2 XE XS
        go_wp2_with (first
          | ((with_reducible refine load_blk 24 (.tmp 8) w.heap.size 24 (u8s X) _ rfl rfl ?_ Tryz.underlying24 ?_ ?_ ?_ ?_); exact K0.out; exact rfl; exact size32 _ X1.out; exact rfl)
          | ((with_reducible refine store_blk 24 (.tmp 9) (.tmp 34) g1 24 (u8s z32) (u8s X) rfl rfl ?_ ?_ ?_ ?_ ?_ ?_ ?_); exact K1.out; exact HZL.out; exact size32 _ X1.out; exact u8s_one _; exact rfl; exact rfl))
        exact ret_blk (p := 9) (ty := 24) rfl rfl g1 24 _ _ rfl (K1.out.setRow _) Tryz.underlying24 rfl (size32 _ X1.out) ⟨by rw [XE2.out], below_setRow BW.out (by omega) _⟩
end Go.Proofs.YtigbnjgmdgkgjaaGreatDoor
