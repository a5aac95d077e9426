/-
  KeyOnce walked.
-/
import Derived.Test.YtkcjiidimmefdaaDoorKyE
import Derived.Laws.Small
namespace Go.Proofs.YtkcjiidimmefdaaDoor
open Go Go.RowKit Sh

def bls (l : List Bool) : List Value := l.map Value.bool
theorem bls_get (l : List Bool) (j : Nat) : (bls l)[j]? = (l[j]?).map Value.bool := by simp [bls]
theorem bls_set (l : List Bool) (j : Nat) (b : Bool) : (bls l).set j (.bool b) = bls (l.set j b) := by simp [bls, List.map_set]
/-- What KeyOnce knows at a round's beginning: no index from the signer's next on has signed. -/
structure KO (w0 w : World) (g gt gs gu : Nat) (I S : List Nat) (n r : Nat) (U : List Bool) : Prop where
  kw : KW w0 w g gt I S n r
  sec : Blk w gs 30 (u8s (I ++ S))
  us : Blk w gu 40 (bls U)
  bu : w0.heap.size ≤ gu
  ul : U.length = 32
  free : ∀ j, n ≤ j → j < 32 → U[j]? = some false
section
variable {w0 w w' : World} {g gt gs gu n r : Nat} {I S : List Nat} {U : List Bool}
theorem KO.far (h : KO w0 w g gt gs gu I S n r U) (hk : Kept (fun q => q = g ∨ q = gt) w w') : Blk w' gs 30 (u8s (I ++ S)) ∧ Blk w' gu 40 (bls U) := by
  obtain ⟨m, _, t⟩ := h.kw.ks.t.is
  have s1 := h.sec.apart h.kw.ks.b (by decide); have s2 := h.sec.apart t (by decide)
  have u1 := h.us.apart h.kw.ks.b (by decide); have u2 := h.us.apart t (by decide)
  exact ⟨h.sec.kept hk (fun e => e.elim s1 s2), h.us.kept hk (fun e => e.elim u1 u2)⟩
theorem KO.below (h : KO w0 w g gt gs gu I S n r U) (hb : Below w.heap.size w w') : KO w0 w' g gt gs gu I S n r U :=
  ⟨h.kw.below hb, h.sec.below hb h.sec.lt, h.us.below hb h.us.lt, h.bu, h.ul, h.free⟩
end
/-- The numbers that the law is given. -/
def InB (w : World) (p : Option Addr) (q : Nat) (L : Nat → Int) : Prop := ∀ j, j < q → ∃ b o, p = some ⟨b, o, none⟩ ∧ b < w.heap.size ∧ w.cell? ⟨b, o + j, none⟩ = some (.int .i64 (L j)) ∧ -9223372036854775808 ≤ L j ∧ L j ≤ 9223372036854775807
theorem KW.farSet {w0 w : World} {g gt gu : Nat} {I S : List Nat} {n r : Nat} (h : KW w0 w g gt I S n r) (h1 : gu ≠ g) (h2 : gu ≠ gt) (hb : w0.heap.size ≤ gu) (k : Nat) (u : Value) : KW w0 (w.setCell ⟨gu, k, none⟩ u) g gt I S n r :=
  ⟨⟨(Below.heap_setCell w ⟨gu, k, none⟩ u g (fun e => h1 e.symm)).trans h.ks.b, h.ks.t.farS h2 k u, h.ks.k1, h.ks.k2, h.ks.le, h.ks.top⟩, h.b1, h.b2, h.bel.setCell (p := ⟨gu, k, none⟩) hb u⟩
theorem KO.mark {w0 w : World} {g gt gs gu : Nat} {I S : List Nat} {n r : Nat} {U : List Bool} (kw : KW w0 w g gt I S (n + 1) r) (sec : Blk w gs 30 (u8s (I ++ S))) (us : Blk w gu 40 (bls U)) (bu : w0.heap.size ≤ gu) (ul : U.length = 32) (free : ∀ j, n ≤ j → j < 32 → U[j]? = some false) :
    KO w0 (w.setCell ⟨gu, n, none⟩ (.bool true)) g gt gs gu I S (n + 1) r (U.set n true) := by
  obtain ⟨m, _, t⟩ := kw.ks.t.is
  refine ⟨kw.farSet (us.apart kw.ks.b (by decide)) (us.apart t (by decide)) bu n _, ?_, ?_, bu, by rw [List.length_set, ul], fun j h1 h2 => ?_⟩
  · have := us.apart sec (by decide)
    exact (Below.heap_setCell w ⟨gu, n, none⟩ _ gs (fun e => this e.symm)).trans sec
  · rw [← bls_set]
    exact us.store n _
  · rw [List.getElem?_set_ne (by omega)]
    exact free j (by omega) h2
theorem part_of (z : Int) (r : Nat) (hr : r ≤ 32) : ∃ d : Nat, d < 3 ∧ IntKind.i64.wrap (IntKind.i64.wrap ((r : Int) + 1) + IntKind.i64.wrap ((IntKind.u64.wrap ((IntKind.u64.wrap z).tdiv 4)).tmod 3)) = (r : Int) + 1 + (d : Int) := by
  have h0 : 0 ≤ IntKind.u64.wrap z ∧ IntKind.u64.wrap z < 18446744073709551616 := by simp [IntKind.wrap, IntKind.bits, IntKind.signed]; omega
  generalize IntKind.u64.wrap z = x at *
  rw [Int.tdiv_eq_ediv_of_nonneg h0.1, IntWalk.u64_in (x / 4) (by omega), Int.tmod_eq_emod_of_nonneg (by omega)]
  refine ⟨(x / 4 % 3).toNat, by omega, ?_⟩
  simp [IntKind.wrap, IntKind.bits, IntKind.signed]
  omega
set_option maxRecDepth 100000 in
set_option maxHeartbeats 4000000 in
theorem konce_t (a : Int) (p : Option Addr) (q cap : Nat) (L : Nat → Int) (w : World) (hX : InB w p q L) (hk : KAt w) (hki : KI w) :
    Calls Tryd.prog 4 #[.int .i64 a, .slice p q cap] w fun e w' => e = .returned (.bool true) ∧ Below w.heap.size w w' := by
  obtain ⟨x, hx⟩ := u64_natK a
  have SC := Lib.hid (fun W => ksec_t a 1 x 1 W hx rfl)
  have HI := Lib.hid (secI_length x 1); have HS := Lib.hid (secS_length x 1); have HIB := Lib.hid (secI_bytes x 1); have HSB := Lib.hid (secS_bytes x 1); have HIS := Lib.hid (sec_two x 1)
  obtain ⟨I, hI⟩ : ∃ z, secI x 1 = z := ⟨_, rfl⟩
  obtain ⟨S, hS⟩ : ∃ z, secS x 1 = z := ⟨_, rfl⟩
  rw [hI] at SC HI HIB HIS; rw [hS] at SC HS HSB HIS
  have TO := Lib.hid (fun W (h : Below w.heap.size w W) => ktold_t W (hk.below h hk.lt) (hki.kept h))
  have NW := Lib.hid (fun W n (h : Below w.heap.size w W) (hn : n ≤ 32) => kwNew (w0 := w) (w := W) n HI.out HS.out hn hk hki h)
  have SG := Lib.hid (fun W g gt n r xs P (h : KW w W g gt I S n r) (hn : n < r) (hx : xs.length = 1) (hp : Sr W P xs) (hxb : Bytes xs) => kwSign xs P 1 1 HI.out HIB.out HS.out HSB.out hk hki h hn hx hp hxb (Nat.le_refl _) (by decide))
  have HXX := Lib.hid hX
  have LL := Lib.hid (fun k xs (hk : k < 32) => show (lsigN I S 1 k xs).length = 4460 from lsigN_length I S 1 k xs hk)
  clear hx hI hS hk hki HIB HSB hX
  go_enter Tryd.func4, Tryd.ntmps4
  go_wp2_with fail
  refine (SC.out _).mono ?_
  rintro e w1 ⟨rfl, b1⟩
  have Z1 := Lib.hid (Blk.new w1 30 (u8s kz48))
  have B1 := Lib.hid b1
  have hs1 : w.heap.size ≤ w1.heap.size := b1.size
  clear b1 SC
  go_upto_region 2 with ((with_reducible refine store_blk 30 (.tmp 5) (.tmp 15) w1.heap.size 30 (u8s kz48) (u8s (I ++ S)) rfl rfl ?_ ?_ ?_ ?_ ?_ ?_ ?_); exact Z1.out; exact ksec_len _ HIS.out; exact size48 _ HIS.out; exact u8s_one _; exact rfl; exact rfl)
  refine world_is (fun W => Blk W w1.heap.size 30 (u8s (I ++ S)) ∧ Below w.heap.size w W) ⟨Z1.out.setRow _, below_setRow (B1.out.alloc B1.out.size _) B1.out.size _⟩ ?_
  rintro W ⟨s0, bw⟩
  obtain ⟨gs, hgs⟩ : ∃ z, w1.heap.size = z := ⟨_, rfl⟩
  rw [hgs] at s0 hs1 ⊢
  have S2 := Lib.hid s0; have B2 := Lib.hid bw
  clear s0 bw Z1 B1 hgs
  go_wp2_with ((with_reducible refine load_blk 30 (.tmp 5) gs 30 (u8s (I ++ S)) _ rfl rfl ?_ Tryd.underlying30 ?_ ?_ ?_ ?_); exact S2.out; exact rfl; exact size48 _ HIS.out; exact rfl)
  refine (NW.out _ 0 B2.out (by decide)).mono ?_
  rintro e w2 ⟨g, gt, rfl, kw, b2⟩
  have K2 := Lib.hid kw; have S3 := Lib.hid (S2.out.below b2 S2.out.lt)
  clear kw b2 S2 B2
  go_upto_region 6 with (fail)
  have bl0 := Blk.new w2 40 (bls (List.replicate 32 false))
  have HO := Lib.hid (show KO w (w2.alloc (.cells (bls (List.replicate 32 false)).toArray 40)) g gt gs w2.heap.size I S 0 0 (List.replicate 32 false) from
    ⟨K2.out.below ((Below.refl _ _).alloc (Nat.le_refl _) _), S3.out.alloc _, bl0, K2.out.bel.size, rfl, fun j _ hj => by rw [List.getElem?_replicate, if_pos hj]⟩)
  clear bl0 K2 S3
  refine world_is (fun W => KO w W g gt gs w2.heap.size I S 0 0 (List.replicate 32 false)) HO.out ?_
  rintro W2 ho
  obtain ⟨gu, hgu⟩ : ∃ z, w2.heap.size = z := ⟨_, rfl⟩
  rw [hgu] at ho ⊢
  have H2 := Lib.hid ho
  clear ho HO hgu
  go_wp2_with fail
  go_loopw [6, 9] (fun s6 s9 wr => ∃ (i g gt n r : Nat) (U : List Bool), i ≤ 60 ∧ s6 = .pointer (some ⟨g, 0, none⟩) ∧ s9 = .int .i64 (i : Int) ∧ KO w wr g gt gs gu I S n r U) (fun _ s _ => 60 - (intOf s).toNat)
  case atStart => exact ⟨0, g, gt, 0, 0, _, by omega, rfl, rfl, H2.out⟩
  case round =>
    clear H2
    obtain ⟨i, g, gt, n, r, U, hi, rfl, rfl, h0⟩ := hrel
    have H0 := Lib.hid h0
    clear h0
    by_cases hq1 : i < q
    · have q1 : (i : Int) < (q : Int) := by omega
      by_cases hq2 : i < 60
      · have q2 : (i : Int) < 60 := by omega
        obtain ⟨bb, oo, rfl, hbl, hbc, hz1, hz2⟩ := HXX.out i hq1
        have CX := Lib.hid (fun W (h : Below w.heap.size w W) => (h.cell (p := ⟨bb, oo + i, none⟩) hbl).trans hbc)
        obtain ⟨z, hz⟩ : ∃ z, L i = z := ⟨_, rfl⟩
        rw [hz] at CX hz1 hz2
        have c0 := CX.out _ H0.out.kw.bel
        obtain ⟨kc, hkc, hkce⟩ := mod_of 4 (by decide) (by decide) z
        rw [show ((4 : Nat) : Int) = 4 from rfl] at hkce
        clear hz hbc HXX
        go_upto_region 17 with (fail)
        rw [hkce]
        have hkc4 : kc = 0 ∨ kc = 1 ∨ 2 ≤ kc := by omega
        rcases hkc4 with rfl | rfl | hkc4
        · clear hkce hkc c0
          have H0 := Lib.hid (show KO w wr.drew g gt gs gu I S n r U from H0.out.below (Below.refl _ _).drew)
          have CV := Lib.hid (show wr.drew.cell? ⟨bb, oo + i, none⟩ = some (.int .i64 z) from CX.out _ H0.out.kw.bel)
          have hr := H0.out.kw.ks.top
          obtain ⟨d, hd, hde⟩ := part_of z r hr
          go_upto_region 18 with (fail)
          by_cases hm : (32 : Int) < (r : Int) + 1 + (d : Int)
          · have RV := Lib.hid (fun W (h : KW w W g gt I S n r) => kwReserve 32 h (by omega) (by omega))
            rw [show ((32 : Nat) : Int) = 32 from rfl] at RV
            refine wp_region_held (S := fun X => X.cell? ⟨bb, oo + i, none⟩ = some (.int .i64 z)) (by kernel_rfl) ?_
            change wpAnyH _ _ _ _ _ _ _ _ wr.drew
            obtain ⟨V, hV⟩ : ∃ V, wr.drew = V := ⟨_, rfl⟩
            rw [hV] at H0 CV ⊢
            clear hV
            have RS := Lib.hid (kReserved_t I S 2 1 n r g gt V H0.out.kw.ks)
            refine wpAnyH_take (i := 0) (v := ?_) rfl (by kernel_rfl) (by kernel_rfl) (by kernel_rfl) (fun _ _ _ h => h) (Or.inl ⟨by kernel_rfl, ?_⟩) CV.out ?_
            rotate_left 1
            · (intro w hS; clear hS; go_simp; try (with_reducible rfl))
            refine wpAnyH_take (i := 1) (v := ?_) rfl (by kernel_rfl) (by kernel_rfl) (by kernel_rfl) (fun _ _ _ h => h) (Or.inl ⟨by kernel_rfl, ?_⟩) CV.out ?_
            rotate_left 1
            · (intro w hS; clear hS; go_simp; try (with_reducible rfl))
            refine wpAnyH_take (i := 4) (v := ?_) rfl (by kernel_rfl) (by kernel_rfl) (by kernel_rfl) (fun _ _ _ h => h) (Or.inl ⟨by kernel_rfl, ?_⟩) CV.out ?_
            rotate_left 1
            · (intro w hS; clear hS; go_simp; try (with_reducible rfl))
            refine wpAnyH_take (i := 5) (v := ?_) rfl (by kernel_rfl) (by kernel_rfl) (by kernel_rfl) (fun _ _ _ h => h) (Or.inl ⟨by kernel_rfl, ?_⟩) CV.out ?_
            rotate_left 1
            · (intro w hS; clear hS; go_simp; try (with_reducible rfl))
            refine wpAnyH_take (i := 6) (v := ?_) rfl (by kernel_rfl) (by kernel_rfl) (by kernel_rfl) (fun _ _ _ h => h) (Or.inl ⟨by kernel_rfl, ?_⟩) CV.out ?_
            rotate_left 1
            · (intro w hS; clear hS; go_simp; try (with_reducible rfl))
            refine wpAnyH_take (i := 7) (v := ?_) rfl (by kernel_rfl) (by kernel_rfl) (by kernel_rfl) (fun _ _ _ h => h) (Or.inl ⟨by kernel_rfl, ?_⟩) CV.out ?_
            rotate_left 1
            · (intro w hS; have hs := hS; clear hS; go_simp; try (with_reducible rfl))
            refine wpAnyH_take (i := 8) (v := ?_) rfl (by kernel_rfl) (by kernel_rfl) (by kernel_rfl) (fun _ _ _ h => h) (Or.inl ⟨by kernel_rfl, ?_⟩) CV.out ?_
            rotate_left 1
            · (intro w hS; clear hS; go_simp; try (with_reducible rfl))
            refine wpAnyH_take (i := 9) (v := ?_) rfl (by kernel_rfl) (by kernel_rfl) (by kernel_rfl) (fun _ _ _ h => h) (Or.inl ⟨by kernel_rfl, ?_⟩) CV.out ?_
            rotate_left 1
            · (intro w hS; clear hS; go_simp; try (with_reducible rfl))
            refine wpAnyH_take (i := 10) (v := ?_) rfl (by kernel_rfl) (by kernel_rfl) (by kernel_rfl) (fun _ _ _ h => h) (Or.inl ⟨by kernel_rfl, ?_⟩) CV.out ?_
            rotate_left 1
            · (intro w hS; clear hS; go_simp; try (with_reducible rfl))
            refine wpAnyH_take (i := 11) (v := ?_) rfl (by kernel_rfl) (by kernel_rfl) (by kernel_rfl) (fun _ _ _ h => h) (Or.inl ⟨by kernel_rfl, ?_⟩) CV.out ?_
            rotate_left 1
            · (intro w hS; clear hS; go_simp; try (with_reducible rfl))
            refine wpAnyH_ready (rs := [2]) (by kernel_rfl) (by simp) ?_
            refine AllReadyH.cons rfl (fun K hK => ?_) AllReadyH.nil
            go_simp
            refine RS.out.mono ?_
            rintro e w3 ⟨rfl, rfl⟩
            refine hK.out _ _ CV.out (fun _ => ?_)
            clear hK K RS
            refine wpAnyH_take (i := 3) (v := ?_) rfl (by kernel_rfl) (by kernel_rfl) (by kernel_rfl) (fun _ _ _ h => h) (Or.inl ⟨by kernel_rfl, ?_⟩) CV.out ?_
            rotate_left 1
            · (intro w hS; clear hS; go_simp; try (with_reducible rfl))
            refine wpAnyH_take (i := 12) (v := ?_) rfl (by kernel_rfl) (by kernel_rfl) (by kernel_rfl) (fun _ _ _ h => h) (Or.inl ⟨by kernel_rfl, ?_⟩) CV.out ?_
            rotate_left 1
            · (intro w hS; clear hS; go_simp; try (with_reducible rfl))
            refine wpAnyH_take (i := 13) (v := ?_) rfl (by kernel_rfl) (by kernel_rfl) (by kernel_rfl) (fun _ _ _ h => h) (Or.inl ⟨by kernel_rfl, ?_⟩) CV.out ?_
            rotate_left 1
            · (intro w hS; clear hS; go_simp; try (with_reducible rfl))
            refine wpAnyH_ready (rs := [14]) (by kernel_rfl) (by simp) ?_
            refine AllReadyH.cons rfl (fun K hK => ?_) AllReadyH.nil
            go_simp
            refine (RV.out _ H0.out.kw).mono ?_
            rintro e w4 ⟨rfl, k4, b4, kp4⟩
            obtain ⟨s4, u4⟩ := H0.out.far kp4
            have H4 := Lib.hid (show KO w w4 g gt gs gu I S n 32 U from ⟨k4, s4, u4, H0.out.bu, H0.out.ul, H0.out.free⟩)
            have C4 := CX.out _ H4.out.kw.bel
            refine hK.out _ _ C4 (fun _ => ?_)
            clear hK K RV k4 b4 kp4 s4 u4 H0 CV
            refine wpAnyH_take (i := 15) (v := ?_) rfl (by kernel_rfl) (by kernel_rfl) (by kernel_rfl) (fun _ _ _ h => h) (Or.inl ⟨by kernel_rfl, ?_⟩) C4 ?_
            rotate_left 1
            · (intro w hS; clear hS; go_simp; try (with_reducible rfl))
            refine wpAnyH_done (by kernel_rfl) ?_ _
            go_simp
            go_wp2_with fail
            go_roundw
            case rel => exact ⟨i + 1, g, gt, n, 32, U, by omega, rfl, by go_num, H4.out⟩
            case measure => simp [intOf]; omega
          · have RV := Lib.hid (fun W (h : KW w W g gt I S n r) => kwReserve (r + 1 + d) h (by omega) (by omega))
            rw [show ((r + 1 + d : Nat) : Int) = (r : Int) + 1 + (d : Int) by omega] at RV
            refine wp_region_held (S := fun X => X.cell? ⟨bb, oo + i, none⟩ = some (.int .i64 z)) (by kernel_rfl) ?_
            change wpAnyH _ _ _ _ _ _ _ _ wr.drew
            obtain ⟨V, hV⟩ : ∃ V, wr.drew = V := ⟨_, rfl⟩
            rw [hV] at H0 CV ⊢
            clear hV
            have RS := Lib.hid (kReserved_t I S 2 1 n r g gt V H0.out.kw.ks)
            refine wpAnyH_take (i := 0) (v := ?_) rfl (by kernel_rfl) (by kernel_rfl) (by kernel_rfl) (fun _ _ _ h => h) (Or.inl ⟨by kernel_rfl, ?_⟩) CV.out ?_
            rotate_left 1
            · (intro w hS; clear hS; go_simp; try (with_reducible rfl))
            refine wpAnyH_take (i := 1) (v := ?_) rfl (by kernel_rfl) (by kernel_rfl) (by kernel_rfl) (fun _ _ _ h => h) (Or.inl ⟨by kernel_rfl, ?_⟩) CV.out ?_
            rotate_left 1
            · (intro w hS; clear hS; go_simp; try (with_reducible rfl))
            refine wpAnyH_take (i := 4) (v := ?_) rfl (by kernel_rfl) (by kernel_rfl) (by kernel_rfl) (fun _ _ _ h => h) (Or.inl ⟨by kernel_rfl, ?_⟩) CV.out ?_
            rotate_left 1
            · (intro w hS; clear hS; go_simp; try (with_reducible rfl))
            refine wpAnyH_take (i := 5) (v := ?_) rfl (by kernel_rfl) (by kernel_rfl) (by kernel_rfl) (fun _ _ _ h => h) (Or.inl ⟨by kernel_rfl, ?_⟩) CV.out ?_
            rotate_left 1
            · (intro w hS; clear hS; go_simp; try (with_reducible rfl))
            refine wpAnyH_take (i := 6) (v := ?_) rfl (by kernel_rfl) (by kernel_rfl) (by kernel_rfl) (fun _ _ _ h => h) (Or.inl ⟨by kernel_rfl, ?_⟩) CV.out ?_
            rotate_left 1
            · (intro w hS; clear hS; go_simp; try (with_reducible rfl))
            refine wpAnyH_take (i := 7) (v := ?_) rfl (by kernel_rfl) (by kernel_rfl) (by kernel_rfl) (fun _ _ _ h => h) (Or.inl ⟨by kernel_rfl, ?_⟩) CV.out ?_
            rotate_left 1
            · (intro w hS; have hs := hS; clear hS; go_simp; try (with_reducible rfl))
            refine wpAnyH_take (i := 8) (v := ?_) rfl (by kernel_rfl) (by kernel_rfl) (by kernel_rfl) (fun _ _ _ h => h) (Or.inl ⟨by kernel_rfl, ?_⟩) CV.out ?_
            rotate_left 1
            · (intro w hS; clear hS; go_simp; try (with_reducible rfl))
            refine wpAnyH_take (i := 9) (v := ?_) rfl (by kernel_rfl) (by kernel_rfl) (by kernel_rfl) (fun _ _ _ h => h) (Or.inl ⟨by kernel_rfl, ?_⟩) CV.out ?_
            rotate_left 1
            · (intro w hS; clear hS; go_simp; try (with_reducible rfl))
            refine wpAnyH_take (i := 10) (v := ?_) rfl (by kernel_rfl) (by kernel_rfl) (by kernel_rfl) (fun _ _ _ h => h) (Or.inl ⟨by kernel_rfl, ?_⟩) CV.out ?_
            rotate_left 1
            · (intro w hS; clear hS; go_simp; try (with_reducible rfl))
            refine wpAnyH_take (i := 11) (v := ?_) rfl (by kernel_rfl) (by kernel_rfl) (by kernel_rfl) (fun _ _ _ h => h) (Or.inl ⟨by kernel_rfl, ?_⟩) CV.out ?_
            rotate_left 1
            · (intro w hS; clear hS; go_simp; try (with_reducible rfl))
            refine wpAnyH_ready (rs := [2]) (by kernel_rfl) (by simp) ?_
            refine AllReadyH.cons rfl (fun K hK => ?_) AllReadyH.nil
            go_simp
            refine RS.out.mono ?_
            rintro e w3 ⟨rfl, rfl⟩
            refine hK.out _ _ CV.out (fun _ => ?_)
            clear hK K RS
            refine wpAnyH_take (i := 3) (v := ?_) rfl (by kernel_rfl) (by kernel_rfl) (by kernel_rfl) (fun _ _ _ h => h) (Or.inl ⟨by kernel_rfl, ?_⟩) CV.out ?_
            rotate_left 1
            · (intro w hS; clear hS; go_simp; try (with_reducible rfl))
            refine wpAnyH_take (i := 12) (v := ?_) rfl (by kernel_rfl) (by kernel_rfl) (by kernel_rfl) (fun _ _ _ h => h) (Or.inl ⟨by kernel_rfl, ?_⟩) CV.out ?_
            rotate_left 1
            · (intro w hS; clear hS; go_simp; try (with_reducible rfl))
            refine wpAnyH_take (i := 13) (v := ?_) rfl (by kernel_rfl) (by kernel_rfl) (by kernel_rfl) (fun _ _ _ h => h) (Or.inl ⟨by kernel_rfl, ?_⟩) CV.out ?_
            rotate_left 1
            · (intro w hS; clear hS; go_simp; try (with_reducible rfl))
            refine wpAnyH_ready (rs := [14]) (by kernel_rfl) (by simp) ?_
            refine AllReadyH.cons rfl (fun K hK => ?_) AllReadyH.nil
            go_simp
            refine (RV.out _ H0.out.kw).mono ?_
            rintro e w4 ⟨rfl, k4, b4, kp4⟩
            obtain ⟨s4, u4⟩ := H0.out.far kp4
            have H4 := Lib.hid (show KO w w4 g gt gs gu I S n (r + 1 + d) U from ⟨k4, s4, u4, H0.out.bu, H0.out.ul, H0.out.free⟩)
            have C4 := CX.out _ H4.out.kw.bel
            refine hK.out _ _ C4 (fun _ => ?_)
            clear hK K RV k4 b4 kp4 s4 u4 H0 CV
            refine wpAnyH_take (i := 15) (v := ?_) rfl (by kernel_rfl) (by kernel_rfl) (by kernel_rfl) (fun _ _ _ h => h) (Or.inl ⟨by kernel_rfl, ?_⟩) C4 ?_
            rotate_left 1
            · (intro w hS; clear hS; go_simp; try (with_reducible rfl))
            refine wpAnyH_done (by kernel_rfl) ?_ _
            go_simp
            go_wp2_with fail
            go_roundw
            case rel => exact ⟨i + 1, g, gt, n, (r + 1 + d), U, by omega, rfl, by go_num, H4.out⟩
            case measure => simp [intOf]; omega
        · clear hkce hkc c0
          have H0 := Lib.hid (show KO w wr.drew g gt gs gu I S n r U from H0.out.below (Below.refl _ _).drew)
          have hr := H0.out.kw.ks.top
          go_upto_region 21 with (fail)
          refine wp_region_held (S := fun X => X.rangeAt gs 0 (u8s (I ++ S))) (by kernel_rfl) ?_
          change wpAnyH _ _ _ _ _ _ _ _ wr.drew
          obtain ⟨V, hV⟩ : ∃ V, wr.drew = V := ⟨_, rfl⟩
          rw [hV] at H0 ⊢
          clear hV
          have RS := Lib.hid (kReserved_t I S 2 1 n r g gt V H0.out.kw.ks)
          have r1 := range_of_blk H0.out.sec
          refine wpAnyH_take (i := 0) (v := .agg (u8s (I ++ S)).toArray) rfl (by kernel_rfl) (by kernel_rfl) (by kernel_rfl) (fun _ _ _ h => h) (yieldsIf_load_mid (by kernel_rfl) 30 (.tmp 5) rfl gs 0 (by go_simp) (u8s (I ++ S)) _ (fun _ h => h) Tryd.underlying30 rfl (size48 _ HIS.out)) r1 ?_
          refine wpAnyH_take (i := 1) (v := ?_) rfl (by kernel_rfl) (by kernel_rfl) (by kernel_rfl) (fun _ _ _ h => h) (Or.inl ⟨by kernel_rfl, ?_⟩) r1 ?_
          rotate_left 1
          · (intro w hS; clear hS; go_simp; try (with_reducible rfl))
          refine wpAnyH_ready (rs := [2]) (by kernel_rfl) (by simp) ?_
          refine AllReadyH.cons rfl (fun K hK => ?_) AllReadyH.nil
          go_simp
          refine RS.out.mono ?_
          rintro e w3 ⟨rfl, rfl⟩
          refine hK.out _ _ r1 (fun _ => ?_)
          clear hK K RS
          refine wpAnyH_ready (rs := [3]) (by kernel_rfl) (by simp) ?_
          refine AllReadyH.cons rfl (fun K hK => ?_) AllReadyH.nil
          go_simp
          refine (NW.out _ r H0.out.kw.bel hr).mono ?_
          rintro e w4 ⟨g4, gt4, rfl, k4, b4⟩
          have H4 := Lib.hid (show KO w w4 g4 gt4 gs gu I S r r U from ⟨k4, H0.out.sec.below b4 H0.out.sec.lt, H0.out.us.below b4 H0.out.us.lt, H0.out.bu, H0.out.ul, fun j h1 h2 => H0.out.free j (Nat.le_trans H0.out.kw.ks.le h1) h2⟩)
          have r4 := range_of_blk H4.out.sec
          refine hK.out _ _ r4 (fun _ => ?_)
          clear hK K k4 b4 H0 r1
          refine wpAnyH_take (i := 4) (v := ?_) rfl (by kernel_rfl) (by kernel_rfl) (by kernel_rfl) (fun _ _ _ h => h) (Or.inl ⟨by kernel_rfl, ?_⟩) r4 ?_
          rotate_left 1
          · (intro w hS; clear hS; go_simp; try (with_reducible rfl))
          refine wpAnyH_take (i := 5) (v := ?_) rfl (by kernel_rfl) (by kernel_rfl) (by kernel_rfl) (fun _ _ _ h => h) (Or.inl ⟨by kernel_rfl, ?_⟩) r4 ?_
          rotate_left 1
          · (intro w hS; clear hS; go_simp; try (with_reducible rfl))
          refine wpAnyH_take (i := 6) (v := ?_) rfl (by kernel_rfl) (by kernel_rfl) (by kernel_rfl) (fun _ _ _ h => h) (Or.inl ⟨by kernel_rfl, ?_⟩) r4 ?_
          rotate_left 1
          · (intro w hS; clear hS; go_simp; try (with_reducible rfl))
          refine wpAnyH_take (i := 7) (v := ?_) rfl (by kernel_rfl) (by kernel_rfl) (by kernel_rfl) (fun _ _ _ h => h) (Or.inl ⟨by kernel_rfl, ?_⟩) r4 ?_
          rotate_left 1
          · (intro w hS; clear hS; go_simp; try (with_reducible rfl))
          refine wpAnyH_take (i := 8) (v := ?_) rfl (by kernel_rfl) (by kernel_rfl) (by kernel_rfl) (fun _ _ _ h => h) (Or.inl ⟨by kernel_rfl, ?_⟩) r4 ?_
          rotate_left 1
          · (intro w hS; clear hS; go_simp; try (with_reducible rfl))
          refine wpAnyH_done (by kernel_rfl) ?_ _
          go_simp
          clear r4
          go_wp2_with fail
          go_roundw
          case rel => exact ⟨i + 1, g4, gt4, r, r, U, by omega, rfl, by go_num, H4.out⟩
          case measure => simp [intOf]; omega
        · have hkc5 : (2 : Int) ≤ (kc : Int) := by omega
          clear hkce hkc hkc4
          have GA := Lib.hid (H0.out.below ((Below.refl wr.heap.size wr).alloc (Nat.le_refl _) (.cells #[.int .u8 (i : Int)] 5)))
          have SM := Lib.hid (Sr.one i i rfl wr 5 (0, 0))
          by_cases hn : n < r
          · have hn32 : n < 32 := Nat.lt_of_lt_of_le hn H0.out.kw.ks.top
            have SGk := Lib.hid (SG.out _ g gt n r [i] _ GA.out.kw hn rfl SM.out (sl_bytes (fun y hy => by obtain rfl := List.mem_singleton.1 hy; omega)))
            clear H0 SM
            go_upto_region 11 with (go_at_call 8; refine SGk.out.mono ?_; rintro e w5 ⟨ga, ca, rfl, hca, o5, k5, b5, kp5⟩)
            obtain ⟨s5, u5⟩ := GA.out.far kp5
            obtain ⟨b', o', e', _, hc'⟩ := Sr.of_own o5 (by rw [LL.out n [i] hn32]; decide)
            injection e' with e'
            injection e' with e1 e2 _
            subst e1; subst e2
            obtain ⟨l0, l1, l2, l3, _, _⟩ := lsig_at I S n [i] hn32
            have z0 := hc' 0 (by rw [LL.out n [i] hn32]; decide)
            have z1 := hc' 1 (by rw [LL.out n [i] hn32]; decide)
            have z2 := hc' 2 (by rw [LL.out n [i] hn32]; decide)
            have z3 := hc' 3 (by rw [LL.out n [i] hn32]; decide)
            rw [l0] at z0; rw [l1] at z1; rw [l2] at z2; rw [l3] at z3
            rw [Nat.zero_add] at z0 z1 z2 z3
            have zu : w5.cell? ⟨ga, 0, none⟩ = w5.cell? ⟨ga, 0, none⟩ := rfl
            have un : w5.cell? ⟨gu, n, none⟩ = some (.bool false) := by rw [u5.cell, bls_get, GA.out.free n (Nat.le_refl _) hn32]; rfl
            have uz : w5.frozen? ⟨gu, n, none⟩ = false := u5.frozen n
            have n1 : (n : Int) < 32 := by omega
            have HM := Lib.hid (KO.mark k5 s5 u5 GA.out.bu GA.out.ul GA.out.free)
            clear zu o5 k5 b5 kp5 s5 u5 hc' l0 l1 l2 l3 SGk GA
            have n0 : (0 : Int) ≤ (n : Int) := by omega
            have n2 : decide ((32 : Int) ≤ (n : Int)) = false := decide_eq_false (by omega)
            go_upto_region 14 with (fail)
            clear TO NW SG LL CX
            go_wp2_with fail
            go_roundw
            case rel => exact ⟨i + 1, g, gt, n + 1, r, U.set n true, by omega, rfl, by go_num, HM.out⟩
            case measure => simp [intOf]; omega
          · obtain rfl : n = r := by have := H0.out.kw.ks.le; omega
            have SN := Lib.hid (kSign_no I S 2 1 n g gt (.slice (some ⟨wr.heap.size, 0, none⟩) 1 1) _ GA.out.kw.ks)
            have t0 : (((noSign n : Nat) : Int) != 0) = true := by rw [bne_iff_ne]; unfold noSign; split <;> decide
            obtain ⟨E, hE⟩ : ∃ z, noSign n = z := ⟨_, rfl⟩
            rw [hE] at SN t0
            clear hE SM H0 hn
            go_wp2_with (go_at_call 8; with_reducible refine SN.out.mono ?_; rintro e w5 ⟨rfl, rfl⟩)
            go_roundw
            case rel => exact ⟨i + 1, g, gt, n, n, U, by omega, rfl, by go_num, GA.out⟩
            case measure => simp [intOf]; omega
      · have q2 : ¬ (i : Int) < 60 := by omega
        go_wp2_with fail
        refine (TO.out _ H0.out.kw.bel).mono ?_
        rintro e w5 ⟨rfl, b5⟩
        have K5 := Lib.hid (H0.out.kw.below b5)
        go_wp2_with fail
        go_ret
        exact ⟨rfl, K5.out.bel⟩
    · have q1 : ¬ (i : Int) < (q : Int) := by omega
      go_wp2_with fail
      refine (TO.out _ H0.out.kw.bel).mono ?_
      rintro e w5 ⟨rfl, b5⟩
      have K5 := Lib.hid (H0.out.kw.below b5)
      go_wp2_with fail
      go_ret
      exact ⟨rfl, K5.out.bel⟩
end Go.Proofs.YtkcjiidimmefdaaDoor
