/-
  ShaCopies walked.
-/
import Derived.Test.YtahmfbhiaoacgaaDoorLong
import Derived.Test.YtahmfbhiaoacgaaDoorRefS
import Derived.Deep.RegionHeld3
namespace Go.Proofs.YtahmfbhiaoacgaaDoor
open Go.RowKit Sh

theorem cut_at (n : Nat) (a : Int) (hn : n ≤ 1000000) : ∃ k : Nat, k ≤ n ∧ wrap64 ((IntKind.u64.wrap a).tmod ((n : Int) + 1)) = (k : Int) := by
  have h0 : 0 ≤ IntKind.u64.wrap a := by simp [IntKind.wrap, IntKind.bits, IntKind.signed]; omega
  rw [Int.tmod_eq_emod_of_nonneg h0]
  generalize IntKind.u64.wrap a = x at *
  have h3 : 0 ≤ x % ((n : Int) + 1) := Int.emod_nonneg _ (by omega)
  have h4 : x % ((n : Int) + 1) < (n : Int) + 1 := Int.emod_lt_of_pos _ (by omega)
  refine ⟨(x % ((n : Int) + 1)).toNat, by omega, ?_⟩
  generalize x % ((n : Int) + 1) = y at *
  unfold wrap64
  omega
theorem Sl.old {w W : World} {p : Option Addr} {xs : List Nat} {g : Nat} (h : Sr w p xs) (hb : Below w.heap.size w W) (hg : w.heap.size ≤ g) : Sl W W.heap.size g p xs := fun hx => by
  obtain ⟨b, o, e, h1, h2⟩ := h hx
  exact ⟨b, o, e, Nat.lt_of_lt_of_le h1 hb.size, by omega, h2.below hb h1⟩
theorem Dig.but {w w' : World} {g g' : Nat} {l : List Nat} {s : S8} {r : List Nat} (h : Dig w g l s r) (hb : But w.heap.size g' w w') (hne : g ≠ g') : Dig w' g l s r := ⟨h.blk.but hb h.blk.lt hne, h.ok, h.len, h.bytes, h.rep⟩
theorem Wrote.dig {w w' : World} {g : Nat} {l : List Nat} (h : Wrote w w' g l) : ∃ s r, Dig w' g l s r := by
  obtain ⟨⟨s, r, hr, hb⟩, _⟩ := h
  exact ⟨s, r, Dig.of_rep hr hb⟩
theorem bytes_tk {l : List Nat} (h : Bytes l) (n : Nat) : Bytes (l.take n) := by
  rw [bytes_mem] at *
  exact fun x hx => h x (List.mem_of_mem_take hx)
theorem bytes_dp {l : List Nat} (h : Bytes l) (n : Nat) : Bytes (l.drop n) := by
  rw [bytes_mem] at *
  exact fun x hx => h x (List.mem_of_mem_drop hx)
theorem Sr.tk {w : World} {p : Option Addr} {xs : List Nat} (h : Sr w p xs) (n : Nat) : Sr w p (xs.take n) := fun hx => by
  rw [List.length_take] at hx
  obtain ⟨b, o, e, h1, h2⟩ := h (by omega)
  refine ⟨b, o, e, h1, fun j hj => ?_⟩
  rw [List.length_take] at hj
  rw [h2 j (by omega)]
  congr 3
  simp [gt, List.getD_eq_getElem?_getD, show j < n by omega]
theorem Dig.grown {w w' : World} {g : Nat} {l : List Nat} {s : S8} {r : List Nat} {row : Option Nat} (h : Dig w g l s r) (hb : w.grownBy w' row) (hne : row ≠ some g) : Dig w' g l s r := ⟨(hb.block g h.blk.lt (fun e => hne e.symm)).trans h.blk, h.ok, h.len, h.bytes, h.rep⟩
/-- Write, Sum, Copy, as a law of several Digests wants them. -/
theorem write_u (B g : Nat) (s : S8) (r l xs : List Nat) (p : Option Addr) (n c : Nat) (w : World) (hd : Dig w g l s r) (hxs : Bytes xs) (hp : Sl w w.heap.size g p xs) (hn : xs.length = n) (hc : n ≤ c) (hsz : l.length + n < 2305843009213693952) (hk : KAt w) (hB : B ≤ g) (hkB : 0 < B) :
    Calls Tryd.prog 17 #[.pointer (some ⟨g, 0, none⟩), .slice p n c] w fun e w' => e = .returned (.tuple #[]) ∧ (∃ s r, Dig w' g (l ++ xs) s r) ∧ But w.heap.size g w w' ∧ Below B w w' := by
  subst hn
  refine (write_t g s r l xs p c w hd hxs hp hc hsz hk (by omega)).mono ?_
  rintro e w' ⟨rfl, h⟩
  have h2 := h.2
  exact ⟨rfl, h.dig, h2, h2.below hB (by have := hd.blk.lt; omega)⟩
theorem sum_u (xs : List Nat) (p : Option Addr) (n c : Nat) (w : World) (hxs : Bytes xs) (hp : Sr w p xs) (hn : xs.length = n) (hc : n ≤ c) (hsz : n < 2305843009213693952) (hk : KAt w) :
    Calls Tryd.prog 10 #[.slice p n c] w fun e w' => e = .returned (.agg (u8s (sum xs)).toArray) ∧ Below w.heap.size w w' := by
  subst hn
  exact sum_t xs p c w hxs (fun g hg => Sl.of_sr hp g hg) hc hsz hk
set_option maxRecDepth 100000 in
set_option maxHeartbeats 2000000 in
theorem copies_t (xs ys : List Nat) (A C : Option Addr) (n c m cc : Nat) (a : Int) (w : World) (hn : xs.length = n) (hp : Sr w A xs) (hb : Bytes xs) (hc : n ≤ c) (hn1 : n ≤ 9223372036854775807) (hm : ys.length = m) (hq : Sr w C ys) (hyb : Bytes ys) (hcc : m ≤ cc) (hm1 : m ≤ 9223372036854775807) (hk : KAt w) :
    Calls Tryd.prog 7 #[.slice A n c, .int .i64 a, .slice C m cc] w fun e w' => e = .returned (.bool true) ∧ Below w.heap.size w w' := by
  have HN := Lib.hid hn; have HP := Lib.hid hp; have HB := Lib.hid hb; have HC := Lib.hid hc; have HM := Lib.hid hm; have HQ := Lib.hid hq; have HYB := Lib.hid hyb; have HCC := Lib.hid hcc; have HK := Lib.hid hk; have HKL := Lib.hid hk.lt
  have hb0 : Below w.heap.size w (w.alloc (.cells DZ.toArray 46)) := (Below.refl _ _).alloc (Nat.le_refl _) _
  have HB0 := Lib.hid hb0
  have HD0 := Lib.hid (Dig.zero (Blk.new w 46 DZ))
  clear hn hp hb hc hm hq hyb hcc hk hb0
  by_cases hbig : 400 < n ∨ 200 < m
  · have fin : ∀ W, W = w.alloc (.cells DZ.toArray 46) → Calls Tryd.prog 9 #[] W fun e w' => e = .returned (.bool true) ∧ Below w.heap.size w w' := fun W hW => by
      subst hW
      refine (told_t _ (HK.out.below HB0.out HKL.out)).mono ?_
      rintro e w2 ⟨rfl, b2⟩
      exact ⟨rfl, HB0.out.trans (b2.mono HB0.out.size)⟩
    have FIN := Lib.hid fin
    clear fin
    by_cases h4 : 400 < n
    · clear hbig
      go_enter Tryd.func7, Tryd.ntmps7
      go_wp2_with (first
        | (go_at_call 14; refine (new_t w).mono ?_; rintro e w1 ⟨rfl, hw⟩; have F1 := Lib.hid (FIN.out w1 hw); clear hw)
        | (go_at_call 9; refine (F1.out).mono ?_; rintro e w2 ⟨rfl, b2⟩))
      go_ret
      exact ⟨rfl, b2⟩
    · have h2 : 200 < m := by omega
      have h4' : n ≤ 400 := by omega
      clear hbig h4
      go_enter Tryd.func7, Tryd.ntmps7
      go_wp2_with (first
        | (go_at_call 14; refine (new_t w).mono ?_; rintro e w1 ⟨rfl, hw⟩; have F1 := Lib.hid (FIN.out w1 hw); clear hw)
        | (go_at_call 9; refine (F1.out).mono ?_; rintro e w2 ⟨rfl, b2⟩))
      go_ret
      exact ⟨rfl, b2⟩
  · have hn4 : n ≤ 400 := by omega
    have hm2 : m ≤ 200 := by omega
    clear hbig
    obtain ⟨k, hkn, hka⟩ := cut_at n a (by omega)
    have hs1 := slice_high (P := Tryd.prog) (t := 22) (e := 5) Tryd.underlying22 byte_size A n c .i64 k (by have := HC.out; omega)
    obtain ⟨p2, hp2, hs2⟩ := slice_low (P := Tryd.prog) (t := 22) (e := 5) Tryd.underlying22 byte_size A n c .i64 k hkn HC.out
    have HS1 := Lib.hid hs1; have HS2 := Lib.hid hs2; have HP2 := Lib.hid hp2
    rw [← hka] at hs1
    have HKA := Lib.hid hka
    clear hka hs2 hp2
    go_enter Tryd.func7, Tryd.ntmps7
    go_wp2_with fail
    refine (new_t w).mono ?_
    rintro e w1 ⟨rfl, hw⟩
    rw [← hw] at HB0 HD0
    clear hw
    go_wp2_with fail
    rw [HKA.out]
    clear hs1 HKA
    have hs1 := HS1.out
    have hs2 := HS2.out
    clear HS1 HS2
    have htl : (xs.take k).length = k := by rw [List.length_take, HN.out]; omega
    have hdl : (xs.drop k).length = n - k := by rw [List.length_drop, HN.out]
    have HTL := Lib.hid htl; have HDL := Lib.hid hdl
    clear htl hdl
    -- d has b[:k]
    refine (write_u w.heap.size w.heap.size _ _ [] (xs.take k) A k c w1 HD0.out (bytes_tk HB.out k) (Sl.old (HP.out.tk k) HB0.out (Nat.le_refl _)) HTL.out (by have := HC.out; omega) (by simp; omega) (HK.out.below HB0.out HKL.out) (Nat.le_refl _) HKL.out).mono ?_
    rintro e w2 ⟨rfl, ⟨s, r, hd⟩, _, b2⟩
    rw [List.nil_append] at hd
    have D2 := Lib.hid hd; have B2 := Lib.hid (HB0.out.trans b2)
    clear hd b2 HB0 HD0
    go_wp2_with fail
    -- x, its copy
    refine (copy_t w.heap.size s r _ w2 D2.out).mono ?_
    rintro e w3 ⟨rfl, hx, b3, _⟩
    have X3 := Lib.hid hx; have D3 := Lib.hid (D2.out.below b3 D2.out.blk.lt); have B3 := Lib.hid (B2.out.trans (b3.mono B2.out.size))
    have g12 : w.heap.size < w2.heap.size := D2.out.blk.lt
    obtain ⟨g2, hg2⟩ : ∃ g, w2.heap.size = g := ⟨_, rfl⟩
    rw [hg2] at X3 g12 ⊢
    clear hx b3 B2 D2 hg2
    go_wp2_with fail
    -- x has c besides
    refine (write_u w.heap.size g2 s r (xs.take k) ys C m cc w3 X3.out HYB.out (Sl.old HQ.out B3.out (by omega)) HM.out HCC.out (by rw [HTL.out]; omega) (HK.out.below B3.out HKL.out) (by omega) HKL.out).mono ?_
    rintro e w4 ⟨rfl, ⟨s2, r2, hx⟩, k4, b4⟩
    have X4 := Lib.hid hx; have D4 := Lib.hid (D3.out.but k4 (by omega)); have B4 := Lib.hid (B3.out.trans b4)
    clear hx k4 b4 X3 D3 B3
    go_wp2_with fail
    -- d has b[k:] besides
    refine (write_u w.heap.size w.heap.size s r (xs.take k) (xs.drop k) p2 (n - k) (c - k) w4 D4.out (bytes_dp HB.out k) (by have h := (Sl.old HP.out B4.out (Nat.le_refl w.heap.size)).drop (n := k) (p2 := p2) (by rw [HN.out]; exact HP2.out); exact h) HDL.out (by have := HC.out; omega) (by rw [HTL.out]; omega) (HK.out.below B4.out HKL.out) (Nat.le_refl _) HKL.out).mono ?_
    rintro e w5 ⟨rfl, ⟨s3, r3, hd⟩, k5, b5⟩
    rw [List.take_append_drop] at hd
    have D5 := Lib.hid hd; have X5 := Lib.hid (X4.out.but k5 (by omega)); have B5 := Lib.hid (B4.out.trans b5)
    clear hd k5 b5 X4 D4 B4
    go_wp2_with fail
    -- y, x's copy
    refine (copy_t g2 s2 r2 _ w5 X5.out).mono ?_
    rintro e w6 ⟨rfl, hy, b6, _⟩
    have Y6 := Lib.hid hy; have X6 := Lib.hid (X5.out.below b6 X5.out.blk.lt); have D6 := Lib.hid (D5.out.below b6 D5.out.blk.lt); have B6 := Lib.hid (B5.out.trans (b6.mono B5.out.size))
    have g23 : g2 < w5.heap.size := X5.out.blk.lt
    obtain ⟨g3, hg3⟩ : ∃ g, w5.heap.size = g := ⟨_, rfl⟩
    rw [hg3] at Y6 g23 ⊢
    clear hy b6 B5 D5 X5 hg3
    go_wp2_with fail
    have he1 := eql_same (sum xs) (sum_length _)
    have he2 := eql_same (sum (xs.take k ++ ys)) (sum_length _)
    obtain ⟨S1, hS1⟩ : ∃ x, sum xs = x := ⟨_, rfl⟩
    obtain ⟨S2, hS2⟩ : ∃ x, sum (xs.take k ++ ys) = x := ⟨_, rfl⟩
    rw [hS1] at he1
    rw [hS2] at he2
    have HS1 := Lib.hid hS1; have HS2 := Lib.hid hS2
    have hLL : (xs.take k ++ ys).length = k + m := by rw [List.length_append, HTL.out, HM.out]
    have hLB : Bytes (xs.take k ++ ys) := by
      have h1 := bytes_tk HB.out k
      have h2 := HYB.out
      rw [bytes_mem] at *
      intro x hx
      rcases List.mem_append.1 hx with h | h
      · exact h1 x h
      · exact h2 x h
    have HLL := Lib.hid hLL; have HLB := Lib.hid hLB
    clear hS1 hS2 hLL hLB hs2
    have TT : True := trivial
    refine wp_region_held (S := fun _ => True) (by kernel_rfl) ?_
    change wpAnyH _ _ _ _ _ _ _ _ w6.drew
    refine wpAnyH_ready (rs := [0]) (by kernel_rfl) (by simp) ?_
    refine AllReadyH.cons rfl (fun K hK => ?_) AllReadyH.nil
    go_simp
    refine (told_t w6.drew (HK.out.below B6.out.drew HKL.out)).mono ?_
    rintro e w7 ⟨rfl, b7'⟩
    have b7 : Below w6.heap.size w6 w7 := (Below.drew (Below.refl _ _)).trans b7'
    clear b7'
    have D7 := Lib.hid (D6.out.below b7 D6.out.blk.lt); have X7 := Lib.hid (X6.out.below b7 X6.out.blk.lt); have Y7 := Lib.hid (Y6.out.below b7 Y6.out.blk.lt); have B7 := Lib.hid (B6.out.trans (b7.mono B6.out.size)); clear b7 D6 X6 Y6 B6
    refine hK.out _ _ TT (fun _ => ?_)
    clear hK K
    refine wpAnyH_take (i := 1) (v := ?_) rfl (by kernel_rfl) (by kernel_rfl) (by kernel_rfl) (fun _ _ _ h => h) (Or.inl ⟨by kernel_rfl, ?_⟩) TT ?_
    rotate_left 1
    · (intro w hS; go_simp; try (with_reducible rfl))
    refine wpAnyH_take (i := 2) (v := ?_) rfl (by kernel_rfl) (by kernel_rfl) (by kernel_rfl) (fun _ _ _ h => h) (Or.inl ⟨by kernel_rfl, ?_⟩) TT ?_
    rotate_left 1
    · (intro w hS; go_simp; try (with_reducible rfl))
    refine wpAnyH_take (i := 4) (v := ?_) rfl (by kernel_rfl) (by kernel_rfl) (by kernel_rfl) (fun _ _ _ h => h) (Or.inl ⟨by kernel_rfl, ?_⟩) TT ?_
    rotate_left 1
    · (intro w hS; go_simp; try (with_reducible rfl))
    refine wpAnyH_ready (rs := [3]) (by kernel_rfl) (by simp) ?_
    refine AllReadyH.cons rfl (fun K hK => ?_) AllReadyH.nil
    go_simp
    refine (dsum_t w.heap.size s3 r3 xs w7 D7.out (by rw [HN.out]; omega) (HK.out.below B7.out HKL.out)).mono ?_
    rintro e w8 ⟨rfl, b8⟩
    rw [HS1.out]
    have D8 := Lib.hid (D7.out.below b8 D7.out.blk.lt); have X8 := Lib.hid (X7.out.below b8 X7.out.blk.lt); have Y8 := Lib.hid (Y7.out.below b8 Y7.out.blk.lt); have B8 := Lib.hid (B7.out.trans (b8.mono B7.out.size)); clear b8 D7 X7 Y7 B7
    refine hK.out _ _ TT (fun _ => ?_)
    clear hK K
    refine wpAnyH_ready (rs := [5]) (by kernel_rfl) (by simp) ?_
    refine AllReadyH.cons rfl (fun K hK => ?_) AllReadyH.nil
    go_simp
    refine (sum_u xs A n c w8 HB.out (HP.out.below B8.out) HN.out HC.out (by omega) (HK.out.below B8.out HKL.out)).mono ?_
    rintro e w9 ⟨rfl, b9⟩
    rw [HS1.out]
    have D9 := Lib.hid (D8.out.below b9 D8.out.blk.lt); have X9 := Lib.hid (X8.out.below b9 X8.out.blk.lt); have Y9 := Lib.hid (Y8.out.below b9 Y8.out.blk.lt); have B9 := Lib.hid (B8.out.trans (b9.mono B8.out.size)); clear b9 D8 X8 Y8 B8
    refine hK.out _ _ TT (fun _ => ?_)
    clear hK K
    refine wpAnyH_take (i := 6) (v := ?_) rfl (by kernel_rfl) (by kernel_rfl) (by kernel_rfl) (fun _ _ _ h => h) (Or.inl ⟨by kernel_rfl, ?_⟩) TT ?_
    rotate_left 1
    · (intro w hS; go_simp; try (with_reducible rfl))
    refine wpAnyH_take (i := 7) (v := ?_) rfl (by kernel_rfl) (by kernel_rfl) (by kernel_rfl) (fun _ _ _ h => h) (Or.inl ⟨by kernel_rfl, ?_⟩) TT ?_
    rotate_left 1
    · (intro w hS; go_simp; try (with_reducible rfl))
    refine wpAnyH_take (i := 8) (v := ?_) rfl (by kernel_rfl) (by kernel_rfl) (by kernel_rfl) (fun _ _ _ h => h) (Or.inl ⟨by kernel_rfl, ?_⟩) TT ?_
    rotate_left 1
    · (intro w hS; go_simp; try (with_reducible rfl))
    refine wpAnyH_take (i := 9) (v := ?_) rfl (by kernel_rfl) (by kernel_rfl) (by kernel_rfl) (fun _ _ _ h => h) (Or.inl ⟨by kernel_rfl, ?_⟩) TT ?_
    rotate_left 1
    · (intro w hS; go_simp; try (with_reducible rfl))
    refine wpAnyH_take (i := 12) (v := ?_) rfl (by kernel_rfl) (by kernel_rfl) (by kernel_rfl) (fun _ _ _ h => h) (Or.inl ⟨by kernel_rfl, ?_⟩) TT ?_
    rotate_left 1
    · (intro w hS; go_simp; try (with_reducible rfl))
    refine wpAnyH_take (i := 13) (v := ?_) rfl (by kernel_rfl) (by kernel_rfl) (by kernel_rfl) (fun _ _ _ h => h) (Or.inl ⟨by kernel_rfl, ?_⟩) TT ?_
    rotate_left 1
    · (intro w hS; go_simp; try (with_reducible rfl))
    refine wpAnyH_take (i := 14) (v := ?_) rfl (by kernel_rfl) (by kernel_rfl) (by kernel_rfl) (fun _ _ _ h => h) (Or.inl ⟨by kernel_rfl, ?_⟩) TT ?_
    rotate_left 1
    · (intro w hS; go_simp; try (with_reducible rfl))
    refine wpAnyH_take (i := 16) (v := ?_) rfl (by kernel_rfl) (by kernel_rfl) (by kernel_rfl) (fun _ _ _ h => h) (Or.inl ⟨by kernel_rfl, ?_⟩) TT ?_
    rotate_left 1
    · (intro w hS; go_simp; try (with_reducible rfl))
    clear hs1
    refine wpAnyH_ready (rs := [10, 11]) (by kernel_rfl) (by simp) ?_
    refine AllReadyH.cons rfl (fun K hK => ?_) (AllReadyH.cons rfl (fun K hK => ?_) AllReadyH.nil)
    go_simp
    refine (dsum_t g2 s2 r2 _ w9 X9.out (by rw [HLL.out]; omega) (HK.out.below B9.out HKL.out)).mono ?_
    rintro e wa ⟨rfl, ba⟩
    rw [HS2.out]
    have Da := Lib.hid (D9.out.below ba D9.out.blk.lt); have Xa := Lib.hid (X9.out.below ba X9.out.blk.lt); have Ya := Lib.hid (Y9.out.below ba Y9.out.blk.lt); have Ba := Lib.hid (B9.out.trans (ba.mono B9.out.size)); clear ba D9 X9 Y9 B9
    refine hK.out _ _ TT (fun _ => ?_)
    clear hK K
    refine wpAnyH_ready (rs := [11]) (by kernel_rfl) (by simp) ?_
    refine AllReadyH.cons rfl (fun K hK => ?_) AllReadyH.nil
    go_simp
    have bl : Below wa.heap.size wa (wa.alloc (.cells #[] 5)) := (Below.refl _ _).alloc (Nat.le_refl _) _
    have ow := own_empty wa w.heap.size wa.heap.size Ba.out.size rfl
    refine hK.out _ _ TT (fun _ => ?_)
    clear hK K
    obtain ⟨gl, hgl⟩ : ∃ x, wa.heap.size = x := ⟨_, rfl⟩
    have bl' : Below wa.heap.size wa (wa.alloc (.cells #[] 5)) := bl
    obtain ⟨wm, hwm⟩ : ∃ x, wa.alloc (.cells #[] 5) = x := ⟨_, rfl⟩
    rw [hwm] at ow bl' ⊢
    rw [hgl] at ow ⊢
    clear bl
    have OM := Lib.hid ow
    have Dm := Lib.hid (Da.out.below bl' Da.out.blk.lt); have Xm := Lib.hid (Xa.out.below bl' Xa.out.blk.lt); have Ym := Lib.hid (Ya.out.below bl' Ya.out.blk.lt); have Bm := Lib.hid (Ba.out.trans (bl'.mono Ba.out.size))
    clear ow bl' Da Xa Ya Ba hwm hgl
    rotate_left 1
    go_simp
    have bl : Below w9.heap.size w9 (w9.alloc (.cells #[] 5)) := (Below.refl _ _).alloc (Nat.le_refl _) _
    have ow := own_empty w9 w.heap.size w9.heap.size B9.out.size rfl
    refine hK.out _ _ TT (fun _ => ?_)
    clear hK K
    obtain ⟨gl, hgl⟩ : ∃ x, w9.heap.size = x := ⟨_, rfl⟩
    have ba : Below w9.heap.size w9 (w9.alloc (.cells #[] 5)) := bl
    obtain ⟨wa, hwa⟩ : ∃ x, w9.alloc (.cells #[] 5) = x := ⟨_, rfl⟩
    rw [hwa] at ow ba ⊢
    rw [hgl] at ow ⊢
    clear bl hwa hgl
    have OA := Lib.hid ow
    clear ow
    have Da := Lib.hid (D9.out.below ba D9.out.blk.lt); have Xa := Lib.hid (X9.out.below ba X9.out.blk.lt); have Ya := Lib.hid (Y9.out.below ba Y9.out.blk.lt); have Ba := Lib.hid (B9.out.trans (ba.mono B9.out.size)); clear ba D9 X9 Y9 B9
    refine wpAnyH_ready (rs := [10]) (by kernel_rfl) (by simp) ?_
    refine AllReadyH.cons rfl (fun K hK => ?_) AllReadyH.nil
    go_simp
    refine (dsum_t g2 s2 r2 _ wa Xa.out (by rw [HLL.out]; omega) (HK.out.below Ba.out HKL.out)).mono ?_
    rintro e wm ⟨rfl, bm⟩
    rw [HS2.out]
    refine hK.out _ _ TT (fun _ => ?_)
    clear hK K
    have OM := Lib.hid (own_below OA.out bm)
    have Dm := Lib.hid (Da.out.below bm Da.out.blk.lt); have Xm := Lib.hid (Xa.out.below bm Xa.out.blk.lt); have Ym := Lib.hid (Ya.out.below bm Ya.out.blk.lt); have Bm := Lib.hid (Ba.out.trans (bm.mono Ba.out.size)); clear bm Da Xa Ya Ba
    clear OA
    all_goals
      refine wpAnyH_ready (rs := [15]) (by kernel_rfl) (by simp) ?_
      refine AllReadyH.cons rfl (fun K hK => ?_) AllReadyH.nil
      refine wp_append_bytes (.tmp 63) (.tmp 66) 22 ?_ 5 Tryd.underlying22 byte_info w.heap.size (.slice (some ⟨gl, 0, none⟩) 0 0) 0 [] (xs.take k) ?_ OM.out A k c ?_ HTL.out ((HP.out.below Bm.out).tk k) (by omega) Bm.out.size ?_
      · rfl
      · go_simp
      · go_simp
      intro v1 wn a1 a2 a3
      have Dn := Lib.hid (Dm.out.grown a2.out (own_apart OM.out Dm.out.blk (by decide))); have Xn := Lib.hid (Xm.out.grown a2.out (own_apart OM.out Xm.out.blk (by decide))); have Yn := Lib.hid (Ym.out.grown a2.out (own_apart OM.out Ym.out.blk (by decide))); have Bn := Lib.hid (Bm.out.grown a2.out Bm.out.size (fun q e => (OM.out.lt q e).1)); clear Dm Xm Ym Bm
      refine hK.out _ _ TT (fun _ => ?_)
      clear hK K OM a2 a3
      refine wpAnyH_ready (rs := [17]) (by kernel_rfl) (by simp) ?_
      refine AllReadyH.cons rfl (fun K hK => ?_) AllReadyH.nil
      refine wp_append_bytes (.tmp 67) (.tmp 68) 22 ?_ 5 Tryd.underlying22 byte_info w.heap.size v1 _ _ ys ?_ a1.out C m cc ?_ HM.out (HQ.out.below Bn.out) (by omega) Bn.out.size ?_
      · rfl
      · go_simp
      · go_simp
      intro v2 wo e1 e2 e3
      have Do := Lib.hid (Dn.out.grown e2.out (own_apart a1.out Dn.out.blk (by decide))); have Xo := Lib.hid (Xn.out.grown e2.out (own_apart a1.out Xn.out.blk (by decide))); have Yo := Lib.hid (Yn.out.grown e2.out (own_apart a1.out Yn.out.blk (by decide))); have Bo := Lib.hid (Bn.out.grown e2.out Bn.out.size (fun q e => (a1.out.lt q e).1)); clear Dn Xn Yn Bn
      have o2 : wo.ownsRow w.heap.size 5 1 v2 (k + m) (u8s (xs.take k ++ ys)) := by
        have := e1.out
        rw [Nat.zero_add, List.nil_append] at this
        exact this
      obtain ⟨A7, c7, rfl, hc7⟩ := own_form o2
      have OO := Lib.hid o2
      clear o2 a1 e1 e2 e3
      refine hK.out _ _ TT (fun _ => ?_)
      clear hK K
      refine wpAnyH_ready (rs := [18]) (by kernel_rfl) (by simp) ?_
      refine AllReadyH.cons rfl (fun K hK => ?_) AllReadyH.nil
      go_simp
      refine (sum_u (xs.take k ++ ys) A7 (k + m) c7 wo HLB.out (Sr.of_own OO.out) HLL.out hc7 (by omega) (HK.out.below Bo.out HKL.out)).mono ?_
      rintro e wp ⟨rfl, bp⟩
      rw [HS2.out]
      have Dp := Lib.hid (Do.out.below bp Do.out.blk.lt); have Xp := Lib.hid (Xo.out.below bp Xo.out.blk.lt); have Yp := Lib.hid (Yo.out.below bp Yo.out.blk.lt); have Bp := Lib.hid (Bo.out.trans (bp.mono Bo.out.size)); clear bp Do Xo Yo Bo
      refine hK.out _ _ TT (fun _ => ?_)
      clear hK K OO
      refine wpAnyH_take (i := 19) (v := ?_) rfl (by kernel_rfl) (by kernel_rfl) (by kernel_rfl) (fun _ _ _ h => h) (Or.inl ⟨by kernel_rfl, ?_⟩) TT ?_
      rotate_left 1
      · (intro w hS; go_simp; try (with_reducible rfl))
      refine wpAnyH_take (i := 20) (v := ?_) rfl (by kernel_rfl) (by kernel_rfl) (by kernel_rfl) (fun _ _ _ h => h) (Or.inl ⟨by kernel_rfl, ?_⟩) TT ?_
      rotate_left 1
      · (intro w hS; go_simp; try (with_reducible rfl))
      refine wpAnyH_take (i := 21) (v := ?_) rfl (by kernel_rfl) (by kernel_rfl) (by kernel_rfl) (fun _ _ _ h => h) (Or.inl ⟨by kernel_rfl, ?_⟩) TT ?_
      rotate_left 1
      · (intro w hS; go_simp; try (with_reducible rfl))
      refine wpAnyH_take (i := 22) (v := ?_) rfl (by kernel_rfl) (by kernel_rfl) (by kernel_rfl) (fun _ _ _ h => h) (Or.inl ⟨by kernel_rfl, ?_⟩) TT ?_
      rotate_left 1
      · (intro w hS; go_simp; try (with_reducible rfl))
      refine wpAnyH_take (i := 24) (v := ?_) rfl (by kernel_rfl) (by kernel_rfl) (by kernel_rfl) (fun _ _ _ h => h) (Or.inl ⟨by kernel_rfl, ?_⟩) TT ?_
      rotate_left 1
      · (intro w hS; go_simp; try (with_reducible rfl))
      refine wpAnyH_ready (rs := [23]) (by kernel_rfl) (by simp) ?_
      refine AllReadyH.cons rfl (fun K hK => ?_) AllReadyH.nil
      go_simp
      refine (dsum_t g3 s2 r2 _ wp Yp.out (by rw [HLL.out]; omega) (HK.out.below Bp.out HKL.out)).mono ?_
      rintro e wq ⟨rfl, bq⟩
      rw [HS2.out]
      have Dq := Lib.hid (Dp.out.below bq Dp.out.blk.lt); have Xq := Lib.hid (Xp.out.below bq Xp.out.blk.lt); have Yq := Lib.hid (Yp.out.below bq Yp.out.blk.lt); have Bq := Lib.hid (Bp.out.trans (bq.mono Bp.out.size)); clear bq Dp Xp Yp Bp
      refine hK.out _ _ TT (fun _ => ?_)
      clear hK K
      refine wpAnyH_ready (rs := [25]) (by kernel_rfl) (by simp) ?_
      refine AllReadyH.cons rfl (fun K hK => ?_) AllReadyH.nil
      go_simp
      refine (dsum_t g2 s2 r2 _ wq Xq.out (by rw [HLL.out]; omega) (HK.out.below Bq.out HKL.out)).mono ?_
      rintro e wr ⟨rfl, br⟩
      rw [HS2.out]
      have BR := Lib.hid (Bq.out.trans (br.mono Bq.out.size))
      clear br Bq Xq Yq Dq
      refine hK.out _ _ TT (fun _ => ?_)
      clear hK K
      refine wpAnyH_take (i := 26) (v := ?_) rfl (by kernel_rfl) (by kernel_rfl) (by kernel_rfl) (fun _ _ _ h => h) (Or.inl ⟨by kernel_rfl, ?_⟩) TT ?_
      rotate_left 1
      · (intro w hS; go_simp; try (with_reducible rfl))
      refine wpAnyH_take (i := 27) (v := ?_) rfl (by kernel_rfl) (by kernel_rfl) (by kernel_rfl) (fun _ _ _ h => h) (Or.inl ⟨by kernel_rfl, ?_⟩) TT ?_
      rotate_left 1
      · (intro w hS; go_simp; try (with_reducible rfl))
      refine wpAnyH_take (i := 28) (v := ?_) rfl (by kernel_rfl) (by kernel_rfl) (by kernel_rfl) (fun _ _ _ h => h) (Or.inl ⟨by kernel_rfl, ?_⟩) TT ?_
      rotate_left 1
      · (intro w hS; go_simp; try (with_reducible rfl))
      refine wpAnyH_done (by kernel_rfl) ?_ _
      go_simp
      go_wp2_with fail
      go_ret
      exact ⟨rfl, BR.out⟩
end Go.Proofs.YtahmfbhiaoacgaaDoor
