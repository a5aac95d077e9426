/-
  PackShort walked.
-/
import Derived.Test.YthgfghphceikbaaPkT
import Derived.Test.YthgfghphceikbaaPkV
import Derived.Deep.RegionHeld3
namespace Go.Proofs.Ythgfghphceikbaa
open Go Go.RowKit Sh

theorem width_of (n : Int) (_ : -9223372036854775808 ≤ n ∧ n ≤ 9223372036854775807) : ∃ k : Nat, 1 ≤ k ∧ k ≤ 8 ∧ wrap64 (1 + wrap64 ((IntKind.u64.wrap n).tmod 8)) = (k : Int) := by
  have h0 : 0 ≤ IntKind.u64.wrap n := by simp [IntKind.wrap, IntKind.bits, IntKind.signed]; omega
  rw [Int.tmod_eq_emod_of_nonneg h0]
  generalize IntKind.u64.wrap n = m at *
  refine ⟨(1 + m % 8).toNat, by omega, by omega, ?_⟩
  unfold wrap64
  omega
theorem txtN_length (l : List Nat) : (txtN l).length = 4 + l.length := by simp [txtN, beN_length]
theorem bytes_app {l m : List Nat} (h1 : Bytes l) (h2 : Bytes m) : Bytes (l ++ m) := fun i => by
  rcases Nat.lt_or_ge i l.length with h | h
  · rw [gt_app_left h]; exact h1 i
  · rw [gt_app_right h]; exact h2 _
theorem txtN_bytes {l : List Nat} (h : Bytes l) : Bytes (txtN l) := bytes_app (beN_bytes _ _) h
theorem cut_of (N n : Nat) (m : Int) (h1 : 4 + n ≤ N) (h2 : N ≤ 1000) : ∃ j : Nat, j < 4 + n ∧ wrap64 (wrap64 ((N : Int) - 1) - wrap64 ((IntKind.u64.wrap m).tmod (4 + (n : Int)))) = ((N - 1 - j : Nat) : Int) := by
  have h0 : 0 ≤ IntKind.u64.wrap m := by simp [IntKind.wrap, IntKind.bits, IntKind.signed]; omega
  rw [Int.tmod_eq_emod_of_nonneg h0]
  generalize IntKind.u64.wrap m = x at *
  have h3 : 0 ≤ x % (4 + (n : Int)) := Int.emod_nonneg _ (by omega)
  have h4 : x % (4 + (n : Int)) < 4 + (n : Int) := Int.emod_lt_of_pos _ (by omega)
  refine ⟨(x % (4 + (n : Int))).toNat, by omega, ?_⟩
  generalize x % (4 + (n : Int)) = y at *
  unfold wrap64
  omega
/-- A text that ends too early. -/
theorem rtext_cut (g : Nat) (xs : List Nat) (m : Nat) (w : World) (x : Rd w g ((txtN xs).take m) false) (hb : Bytes xs) (hl : xs.length ≤ 1000) (hm : m < 4 + xs.length) :
    Calls Try.prog 10 #[.pointer (some ⟨g, 0, none⟩), .int .i64 60] w fun e w' => ∃ v, e = .returned v ∧ w'.ownsRow w.heap.size 5 1 v 0 (u8s []) ∧ Rd w' g [] true ∧ Kept (fun k => k = g) w w' := by
  have hlen : ((txtN xs).take m).length = m := by rw [List.length_take, txtN_length]; omega
  by_cases h4 : m < 4
  · exact rtext_short g _ false 60 w x (by omega) (by omega)
  · have hv : val (((txtN xs).take m).take 4) = xs.length := by rw [List.take_take, Nat.min_eq_left (by omega), txt_len' xs (by omega)]
    exact rtext_over g _ false 60 w x (bytes_take (txtN_bytes hb) m) (by omega) (by omega) (by omega) (.inr (by rw [hv]; omega))
/-- A text that is longer than what is asked, by one. -/
theorem rtext_less (g : Nat) (xs : List Nat) (n : Nat) (w : World) (x : Rd w g (txtN xs) false) (hb : Bytes xs) (hn : xs.length = n) (hl : n ≤ 1000) :
    Calls Try.prog 10 #[.pointer (some ⟨g, 0, none⟩), .int .i64 ((n : Int) - 1)] w fun e w' => ∃ v, e = .returned v ∧ w'.ownsRow w.heap.size 5 1 v 0 (u8s []) ∧ Rd w' g [] (decide (0 < n)) ∧ Kept (fun k => k = g) w w' := by
  have hv : val ((txtN xs).take 4) = n := by rw [txt_len' xs (by omega), hn]
  have hlen := txtN_length xs
  by_cases h0 : n = 0
  · have hx : xs = [] := List.eq_nil_of_length_eq_zero (by omega)
    refine (rtext_ok g _ false _ w x (txtN_bytes hb) (by omega) (by omega) (by omega) n hv (by omega) (by omega)).mono ?_
    rintro e w' ⟨v, rfl, o, y, k⟩
    subst h0
    rw [txt_rest'] at y o
    rw [List.drop_zero] at y
    rw [List.take_zero] at o
    subst hx
    exact ⟨v, rfl, o, y, k⟩
  · rw [show decide (0 < n) = true from by simp; omega]
    exact rtext_over g _ false _ w x (txtN_bytes hb) (by omega) (by omega) (by omega) (.inl (by rw [hv]; omega))
set_option maxRecDepth 100000 in
set_option maxHeartbeats 1000000 in
theorem short_t (v : Nat) (wide missing : Int) (A : Option Addr) (n c : Nat) (xs : List Nat) (w : World) (hv : v < 18446744073709551616) (hw : -9223372036854775808 ≤ wide ∧ wide ≤ 9223372036854775807) (_ : -9223372036854775808 ≤ missing ∧ missing ≤ 9223372036854775807)
    (hn : xs.length = n) (hs : Sr w A xs) (hb : Bytes xs) (hn2 : n ≤ 9223372036854775807) :
    Calls Try.prog 5 #[.int .u64 v, .int .i64 wide, .slice A n c, .int .i64 missing] w fun e w' => e = .returned (.bool true) ∧ Below w.heap.size w w' := by
  by_cases hlen : 60 < n
  · go_enter Try.func5, Try.ntmps5
    go_wp2_with (go_at_call 6; refine (told_t _).mono ?_; rintro e w2 ⟨rfl, b2⟩)
    go_ret
    exact ⟨rfl, b2⟩
  · have hl : n ≤ 60 := by omega
    have HS := Lib.hid hs; have HB := Lib.hid hb; have HN := Lib.hid hn
    clear hs hb hn hlen
    go_enter Try.func5, Try.ntmps5
    obtain ⟨k, hk1, hk8, hk⟩ := width_of wide hw
    have HK := Lib.hid hk
    clear hk hw
    go_wp2_with fail
    rw [HK.out]
    have hb0 : Below w.heap.size w (w.alloc (.cells #[.pointer none, .int .i64 0] 26)) := (Below.refl _ _).alloc (Nat.le_refl _) _
    refine (num_s (w0 := w.alloc (.cells #[.pointer none, .int .i64 0] 26)) v k Wr.new (Below.refl _ _) (by simp) hv hk1 hk8 (by simp; omega)).mono ?_
    rintro e w1 ⟨rfl, x1, b1⟩
    rw [List.nil_append] at x1
    have X1 := Lib.hid x1; have B1 := Lib.hid (hb0.trans b1)
    clear x1 b1 hb0 HK
    go_wp2_with fail
    refine (text_s (w0 := w1) xs A n c X1.out (Below.refl _ _) B1.out.size HN.out (HS.out.below B1.out) (fun hx a ha => .inl (HS.out.lt hx a ha)) (by rw [beN_length]; omega)).mono ?_
    rintro e w2 ⟨rfl, x2, b2⟩
    have X2 := Lib.hid x2; have B2 := Lib.hid (B1.out.trans b2)
    clear x2 b2 X1 B1
    have hlen : (beN v k ++ txtN xs).length = k + (4 + n) := by rw [List.length_append, beN_length, txtN_length, HN.out]
    have hbb : Bytes (beN v k ++ txtN xs) := bytes_app (beN_bytes _ _) (txtN_bytes HB.out)
    have HL := Lib.hid hlen; have HBB := Lib.hid hbb
    clear hlen hbb
    go_wp2_with fail
    refine (wbytes_t _ _ _ w2 X2.out (by rw [HL.out]; omega)).mono ?_
    rintro e w3 ⟨u, rfl, o3, b3⟩
    rw [HL.out] at o3
    obtain ⟨A3, c3, rfl, hc3⟩ := own_form o3
    have S3 := Lib.hid (Sr.of_own o3)
    have O3 := Lib.hid o3
    have B3 := Lib.hid (B2.out.trans (b3.mono B2.out.size))
    clear o3 b3 X2 B2
    have t1 : ((((k + (4 + n) : Nat) : Int)) != ((k : Int) + 4 + (n : Int))) = false := by rw [bne_eq_false_iff_eq]; omega
    obtain ⟨N, hN⟩ : ∃ N, k + (4 + n) = N := ⟨_, rfl⟩
    rw [hN] at O3 HL hc3 t1 ⊢
    have HNN := Lib.hid hN
    clear hN
    go_wp2_with fail
    rw [low_of v k hk1 hk8]
    have hval : val ((beN v k ++ txtN xs).take k) = v % 256 ^ k := by rw [List.take_append_of_le_length (by rw [beN_length]; exact Nat.le_refl _), List.take_of_length_le (by rw [beN_length]; exact Nat.le_refl _), val_beN]
    have hdrop : (beN v k ++ txtN xs).drop k = txtN xs := by rw [List.drop_append_of_le_length (by rw [beN_length]; exact Nat.le_refl _), List.drop_of_length_le (by rw [beN_length]; exact Nat.le_refl _), List.nil_append]
    obtain ⟨L, hL⟩ : ∃ L, v % 256 ^ k = L := ⟨_, rfl⟩
    rw [hL] at hval ⊢
    obtain ⟨all, hall⟩ : ∃ all, beN v k ++ txtN xs = all := ⟨_, rfl⟩
    rw [hall] at hval hdrop HL S3 HBB O3
    have HV := Lib.hid hval; have HD := Lib.hid hdrop; have HALL := Lib.hid hall; have HLL := Lib.hid hL
    clear hval hdrop hL hall t1
    refine (rnew_t all A3 N c3 w3 HL.out S3.out (by have := HNN.out; omega)).mono ?_
    rintro e w4 ⟨g, rfl, hg, x4, b4⟩
    have hg0 : w.heap.size ≤ g := Nat.le_trans B3.out.size hg
    have X4 := Lib.hid x4; have B4 := Lib.hid (B3.out.trans (b4.mono B3.out.size))
    have S4 := Lib.hid (S3.out.below b4)
    clear x4 b4 hg B3 S3
    go_wp2_with fail
    have s4 : (convert 27 9 (.slice A n c)).run Try.prog w4.drew = .ok (.string (str xs)) w4.drew := ((HS.out.below B4.out).below ((Below.refl _ _).drew)).conv HN.out c
    have t2 : ((L : Int) != (L : Int)) = false := bne_self_eq_false _
    have t3 : ((str xs).toList != (str xs).toList) = false := bne_self_eq_false _
    refine wp_region_held (S := fun W => (convert 27 9 (.slice A n c)).run Try.prog W = .ok (.string (str xs)) W) (by kernel_rfl) ?_
    change wpAnyH _ _ _ _ _ _ _ _ w4.drew
    refine wpAnyH_take (i := 0) (v := ?_) rfl (by kernel_rfl) (by kernel_rfl) (by kernel_rfl) (fun _ _ _ h => h) (Or.inl ⟨by kernel_rfl, ?_⟩) s4 ?_
    rotate_left 1
    · (intro w hS; go_simp; try (with_reducible rfl))
    refine wpAnyH_take (i := 1) (v := ?_) rfl (by kernel_rfl) (by kernel_rfl) (by kernel_rfl) (fun _ _ _ h => h) (Or.inl ⟨by kernel_rfl, ?_⟩) s4 ?_
    rotate_left 1
    · (intro w hS; go_simp; try (with_reducible rfl))
    refine wpAnyH_take (i := 3) (v := ?_) rfl (by kernel_rfl) (by kernel_rfl) (by kernel_rfl) (fun _ _ _ h => h) (Or.inl ⟨by kernel_rfl, ?_⟩) s4 ?_
    rotate_left 1
    · (intro w hS; go_simp; try (with_reducible rfl))
    refine wpAnyH_ready (rs := [2]) (by kernel_rfl) (by simp) ?_
    refine AllReadyH.cons rfl (fun K hK => ?_) AllReadyH.nil
    go_simp
    have x4d : Rd w4.drew g all false := X4.out.below ((Below.refl _ _).drew)
    have s4d : Sr w4.drew A3 all := S4.out.below ((Below.refl _ _).drew)
    have X4D := Lib.hid x4d; have S4D := Lib.hid s4d
    clear x4d s4d
    refine (rnum_ok g all false k w4.drew X4D.out HBB.out hk1 hk8 (by have := HL.out; have := HNN.out; omega) (by have := HL.out; have := HNN.out; omega)).mono ?_
    rintro e w5 ⟨rfl, x5, k5⟩
    rw [HV.out]
    rw [HD.out] at x5
    have B5 := Lib.hid (B4.out.trans ((Kept.trans ((Kept.refl (fun k => w.heap.size ≤ k) w4).drew) (k5.mono fun k e => by subst e; exact hg0)).to_below B4.out.size))
    have S5 := Lib.hid (X4D.out.leaves S4D.out k5)
    have X5 := Lib.hid x5
    have s5 : (convert 27 9 (.slice A n c)).run Try.prog w5 = .ok (.string (str xs)) w5 := (HS.out.below B5.out).conv HN.out c
    clear x5 k5 s4
    refine hK.out _ _ s5 (fun _ => ?_)
    clear hK K X4 B4 S4 X4D S4D
    refine wpAnyH_take (i := 4) (v := ?_) rfl (by kernel_rfl) (by kernel_rfl) (by kernel_rfl) (fun _ _ _ h => h) (Or.inl ⟨by kernel_rfl, ?_⟩) s5 ?_
    rotate_left 1
    · (intro w hS; go_simp; try (with_reducible rfl))
    refine wpAnyH_take (i := 5) (v := ?_) rfl (by kernel_rfl) (by kernel_rfl) (by kernel_rfl) (fun _ _ _ h => h) (Or.inl ⟨by kernel_rfl, ?_⟩) s5 ?_
    rotate_left 1
    · (intro w hS; go_simp; try (with_reducible rfl))
    refine wpAnyH_take (i := 6) (v := ?_) rfl (by kernel_rfl) (by kernel_rfl) (by kernel_rfl) (fun _ _ _ h => h) (Or.inl ⟨by kernel_rfl, ?_⟩) s5 ?_
    rotate_left 1
    · (intro w hS; go_simp; try (with_reducible rfl))
    refine wpAnyH_take (i := 9) (v := ?_) rfl (by kernel_rfl) (by kernel_rfl) (by kernel_rfl) (fun _ _ _ h => h) (Or.inl ⟨by kernel_rfl, ?_⟩) s5 ?_
    rotate_left 1
    · (intro w hS; go_simp; try (with_reducible rfl))
    refine wpAnyH_take (i := 10) (v := ?_) rfl (by kernel_rfl) (by kernel_rfl) (by kernel_rfl) (fun _ _ _ h => h) (Or.inl ⟨by kernel_rfl, ?_⟩) s5 ?_
    rotate_left 1
    · (intro w hS; go_simp; try (with_reducible rfl))
    refine wpAnyH_ready (rs := [7]) (by kernel_rfl) (by simp) ?_
    refine AllReadyH.cons rfl (fun K hK => ?_) AllReadyH.nil
    go_simp
    have hxl := HN.out
    have v1 : val ((txtN xs).take 4) = n := by rw [txt_len' xs (by omega), hxl]
    have v2 : ((txtN xs).drop 4).take n = xs := by rw [txt_rest', List.take_of_length_le (by omega)]
    have v3 : ((txtN xs).drop 4).drop n = [] := by rw [txt_rest', List.drop_of_length_le (by omega)]
    have V2 := Lib.hid v2; have V3 := Lib.hid v3
    refine (rtext_ok g (txtN xs) false 60 w5 X5.out (txtN_bytes HB.out) (by omega) (by rw [txtN_length]; omega) (by rw [txtN_length]; omega) n v1 hl (by rw [txtN_length]; omega)).mono ?_
    clear hxl v1 v2 v3
    rintro e w6 ⟨u, rfl, o6, x6, k6⟩
    rw [V2.out] at o6
    rw [V3.out] at x6
    obtain ⟨A6, c6, rfl, _⟩ := own_form o6
    have B6 := Lib.hid (B5.out.trans ((k6.mono fun k e => by subst e; exact hg0).to_below B5.out.size))
    have S6 := Lib.hid (X5.out.leaves S5.out k6)
    have X6 := Lib.hid x6
    have s6 : (convert 27 9 (.slice A n c)).run Try.prog w6 = .ok (.string (str xs)) w6 := (HS.out.below B6.out).conv HN.out c
    have q6 : (convert 27 9 (.slice A6 n c6)).run Try.prog w6 = .ok (.string (str xs)) w6 := (Sr.of_own o6).conv HN.out c6
    clear x6 k6 s5 o6
    refine hK.out _ _ s6 (fun _ => ?_)
    clear hK K X5 B5 S5 V2 V3
    refine wpAnyH_ready (rs := [8]) (by kernel_rfl) (by simp) ?_
    refine AllReadyH.cons rfl (fun K hK => ?_) AllReadyH.nil
    go_simp
    refine hK.out _ _ s6 (fun _ => ?_)
    clear hK K q6
    refine wpAnyH_take (i := 11) (v := ?_) rfl (by kernel_rfl) (by kernel_rfl) (by kernel_rfl) (fun _ _ _ h => h) (Or.inl ⟨by kernel_rfl, ?_⟩) s6 ?_
    rotate_left 1
    · (intro w hS; go_simp; try (with_reducible rfl))
    refine wpAnyH_take (i := 12) (v := ?_) rfl (by kernel_rfl) (by kernel_rfl) (by kernel_rfl) (fun _ _ _ h => h) (Or.inl ⟨by kernel_rfl, ?_⟩) s6 ?_
    rotate_left 1
    · (intro w hS; go_simp; try (with_reducible rfl))
    refine wpAnyH_take (i := 13) (v := ?_) rfl (by kernel_rfl) (by kernel_rfl) (by kernel_rfl) (fun _ _ _ h => h) (Or.inl ⟨by kernel_rfl, ?_⟩) s6 ?_
    rotate_left 1
    · (intro w hS; go_simp; try (with_reducible rfl))
    refine wpAnyH_take (i := 14) (v := ?_) rfl (by kernel_rfl) (by kernel_rfl) (by kernel_rfl) (fun _ _ _ h => h) (Or.inl ⟨by kernel_rfl, ?_⟩) s6 ?_
    rotate_left 1
    · (intro w hS; go_simp; try (with_reducible rfl))
    refine wpAnyH_ready (rs := [15]) (by kernel_rfl) (by simp) ?_
    refine AllReadyH.cons rfl (fun K hK => ?_) AllReadyH.nil
    go_simp
    refine (end_t g [] false w6 X6.out).mono ?_
    rintro e w7 ⟨rfl, rfl⟩
    rw [show ((endN [] false : Nat) : Int) = 0 from by decide]
    refine hK.out _ _ s6 (fun _ => ?_)
    clear hK K
    refine wpAnyH_take (i := 16) (v := ?_) rfl (by kernel_rfl) (by kernel_rfl) (by kernel_rfl) (fun _ _ _ h => h) (Or.inl ⟨by kernel_rfl, ?_⟩) s6 ?_
    rotate_left 1
    · (intro w hS; go_simp; try (with_reducible rfl))
    refine wpAnyH_take (i := 17) (v := ?_) rfl (by kernel_rfl) (by kernel_rfl) (by kernel_rfl) (fun _ _ _ h => h) (Or.inl ⟨by kernel_rfl, ?_⟩) s6 ?_
    rotate_left 1
    · (intro w hS; go_simp; try (with_reducible rfl))
    refine wpAnyH_done (by kernel_rfl) ?_ _
    clear t2 t3 X6
    obtain ⟨j, hj, hjm⟩ := cut_of N n missing (by have := HNN.out; omega) (by have := HNN.out; omega)
    have hsl := slice_high (P := Try.prog) (t := 27) (e := 5) Try.underlying27 byte_size A3 N c3 .i64 (N - 1 - j) (by omega)
    rw [← hjm] at hsl
    have hkm : k ≤ N - 1 - j := by have := HNN.out; omega
    have hmk : N - 1 - j - k < 4 + n := by have := HNN.out; omega
    have hMN : N - 1 - j ≤ N := by omega
    clear hjm hj
    obtain ⟨M, hM⟩ : ∃ M, N - 1 - j = M := ⟨_, rfl⟩
    rw [hM] at hsl hkm hmk hMN
    clear hM
    go_simp
    go_wp2_with fail
    clear hsl
    have t1 : (all.take M).length = M := by rw [List.length_take, HL.out]; omega
    refine (rnew_t (all.take M) A3 M c3 w6 t1 (S6.out.take M) (by have := HNN.out; omega)).mono ?_
    rintro e w7 ⟨g2, rfl, hg2, x7, b7⟩
    have hg20 : w.heap.size ≤ g2 := Nat.le_trans B6.out.size hg2
    have X7 := Lib.hid x7; have B7 := Lib.hid (B6.out.trans (b7.mono B6.out.size))
    have S7 := Lib.hid (S6.out.below b7)
    clear x7 b7 hg2 B6 S6
    go_wp2_with fail
    refine (rnum_ok g2 (all.take M) false k w7 X7.out (bytes_take HBB.out M) hk1 hk8 (by omega) (by have := HNN.out; omega)).mono ?_
    rintro e w8 ⟨rfl, x8, k8⟩
    rw [List.take_take, Nat.min_eq_left hkm, HV.out]
    rw [List.drop_take, HD.out] at x8
    have B8 := Lib.hid (B7.out.trans ((k8.mono fun k e => by subst e; exact hg20).to_below B7.out.size))
    have S8 := Lib.hid (X7.out.leaves S7.out k8)
    have X8 := Lib.hid x8
    clear x8 k8 X7 B7 S7 t1
    go_wp2_with fail
    refine (rtext_cut g2 xs (M - k) w8 X8.out HB.out (by rw [HN.out]; omega) (by rw [HN.out]; omega)).mono ?_
    rintro e w9 ⟨u, rfl, o9, x9, k9⟩
    obtain ⟨A9, c9, rfl, _⟩ := own_form o9
    have B9 := Lib.hid (B8.out.trans ((k9.mono fun k e => by subst e; exact hg20).to_below B8.out.size))
    have S9 := Lib.hid (X8.out.leaves S8.out k9)
    have X9 := Lib.hid x9
    clear x9 k9 o9 X8 B8 S8
    go_wp2_with fail
    refine (raw_ok g2 [] true 0 w9 X9.out (Nat.le_refl _) (by simp)).mono ?_
    rintro e wa ⟨u, rfl, oa, xa, ka⟩
    obtain ⟨Aa, ca, rfl, _⟩ := own_form oa
    have BA := Lib.hid (B9.out.trans ((ka.mono fun k e => by subst e; exact hg20).to_below B9.out.size))
    have SA := Lib.hid (X9.out.leaves S9.out ka)
    have XA : Hid (Rd wa g2 [] true) := Lib.hid xa
    clear xa ka oa X9 B9 S9
    go_wp2_with fail
    refine (rnew_t all A3 N c3 wa HL.out SA.out (by have := HNN.out; omega)).mono ?_
    rintro e wb ⟨g3, rfl, hg3, xb, bb⟩
    have hg30 : w.heap.size ≤ g3 := Nat.le_trans BA.out.size hg3
    have hne : g2 ≠ g3 := by have := XA.out.lt; omega
    have XB := Lib.hid xb; have BB := Lib.hid (BA.out.trans (bb.mono BA.out.size))
    have YB := Lib.hid (XA.out.below bb)
    clear xb bb hg3 BA SA XA
    go_wp2_with fail
    refine (rnum_ok g3 all false k wb XB.out HBB.out hk1 hk8 (by have := HL.out; have := HNN.out; omega) (by have := HL.out; have := HNN.out; omega)).mono ?_
    rintro e wc ⟨rfl, xc, kc⟩
    rw [HD.out] at xc
    have BC := Lib.hid (BB.out.trans ((kc.mono fun k e => by subst e; exact hg30).to_below BB.out.size))
    have YC := Lib.hid (YB.out.other XB.out hne kc)
    have XC := Lib.hid xc
    clear xc kc XB BB YB
    go_wp2_with fail
    refine (rtext_less g3 xs n wc XC.out HB.out HN.out (by omega)).mono ?_
    rintro e wd ⟨u, rfl, od, xd, kd⟩
    obtain ⟨Ad, cd, rfl, _⟩ := own_form od
    have BD := Lib.hid (BC.out.trans ((kd.mono fun k e => by subst e; exact hg30).to_below BC.out.size))
    have YD := Lib.hid (YC.out.other XC.out hne kd)
    have XD := Lib.hid xd
    clear xd kd od XC BC YC
    go_wp2_with fail
    refine (end_t g3 [] (decide (0 < n)) wd XD.out).mono ?_
    rintro e we ⟨rfl, rfl⟩
    have t4 : ((L : Int) == (L : Int)) = true := beq_self_eq_true _
    by_cases hn0 : 0 < n
    · rw [show ((endN [] (decide (0 < n)) : Nat) : Int) = 2 from by rw [show decide (0 < n) = true from by simpa using hn0]; decide]
      go_wp2_with (first
        | (go_at_call 6; refine (told_t _).mono ?_; rintro e wf ⟨rfl, bf⟩; have YF := Lib.hid (YD.out.below bf); have BF := Lib.hid (BD.out.trans (bf.mono BD.out.size)); clear bf)
        | (go_at_call 13; refine (left_t g2 [] true _ (by exact YF.out)).mono ?_; rintro e w0 ⟨rfl, rfl⟩; rw [show ((([] : List Nat).length : Nat) : Int) = 0 from rfl])
        | (go_at_call 12; refine (end_t g2 [] true _ (by exact YF.out)).mono ?_; rintro e w0 ⟨rfl, rfl⟩; rw [show ((endN [] true : Nat) : Int) = 2 from by decide]))
      go_ret
      exact ⟨rfl, BF.out⟩
    · obtain rfl : n = 0 := by omega
      rw [show ((endN [] (decide (0 < 0)) : Nat) : Int) = 0 from by decide]
      go_wp2_with (first
        | (go_at_call 6; refine (told_t _).mono ?_; rintro e wf ⟨rfl, bf⟩; have YF := Lib.hid (YD.out.below bf); have BF := Lib.hid (BD.out.trans (bf.mono BD.out.size)); clear bf)
        | (go_at_call 13; refine (left_t g2 [] true _ (by exact YF.out)).mono ?_; rintro e w0 ⟨rfl, rfl⟩; rw [show ((([] : List Nat).length : Nat) : Int) = 0 from rfl])
        | (go_at_call 12; refine (end_t g2 [] true _ (by exact YF.out)).mono ?_; rintro e w0 ⟨rfl, rfl⟩; rw [show ((endN [] true : Nat) : Int) = 2 from by decide]))
      go_ret
      exact ⟨rfl, BF.out⟩
end Go.Proofs.Ythgfghphceikbaa
