/-
  DiskStays walked.
-/
import Derived.Test.YtgaiheaibejloaaDkS
namespace Go.Proofs.Ytgaiheaibejloaa
open Go Go.RowKit Go.Maps Go.ChangeMaps Go.MapKept Sh

theorem mod_3 (n : Int) : ∃ k : Nat, k < 3 ∧ wrap64 ((IntKind.u64.wrap n).tmod 3) = (k : Int) := by
  have h0 : 0 ≤ IntKind.u64.wrap n := by simp [IntKind.wrap, IntKind.bits, IntKind.signed]; omega
  rw [Int.tmod_eq_emod_of_nonneg h0]
  generalize IntKind.u64.wrap n = x at *
  refine ⟨(x % 3).toNat, by omega, ?_⟩
  unfold wrap64
  omega
def fstM (P : List Nat) (i j : Nat) : Option (List Nat) := if j < i then some P else none
theorem fstM_zero (P : List Nat) : fstM P 0 = fun _ => none := rfl
theorem fstM_succ (P : List Nat) (i : Nat) : upd (fstM P i) i (some P) = fstM P (i + 1) := by
  funext j
  by_cases e : j = i
  · subst e; rw [upd_same]; unfold fstM; rw [if_pos (by omega)]
  · rw [upd_other _ _ e]
    unfold fstM
    by_cases h : j < i
    · rw [if_pos h, if_pos (by omega)]
    · rw [if_neg h, if_neg (by omega)]
theorem stay_is (P Q : List Nat) (k q j : Nat) (t : Int) (K : Nat → Bool) (hj : j < 3) :
    crS (isS (fun _ => zeroL) (fstM P 3)) (upd (fun _ => none) k (some Q)) K t q j = if j = k then (if K k then Q else if (k : Int) = t then mix q Q P else P) else P := by
  have hs : isS (fun _ => zeroL) (fstM P 3) j = P := by unfold isS fstM; rw [if_pos hj]; rfl
  unfold crS svS
  by_cases e : j = k
  · subst e
    rw [if_pos rfl, upd_same]
    have hk : kpS (isS (fun _ => zeroL) (fstM P 3)) (upd (fun _ => none) j (some Q)) K j = if K j then Q else P := by
      unfold kpS
      rw [hs]
      have : isS (isS (fun _ => zeroL) (fstM P 3)) (upd (fun _ => none) j (some Q)) j = Q := by unfold isS; rw [upd_same]; rfl
      rw [this]
    rw [hk]
    cases hK : K j with
    | true =>
      simp only [if_true]
      have : mix q Q Q = Q := by unfold mix; exact List.take_append_drop q Q
      rw [this]
      split <;> rfl
    | false => simp
  · rw [if_neg e, upd_other _ _ e]
    have hk : kpS (isS (fun _ => zeroL) (fstM P 3)) (upd (fun _ => none) k (some Q)) K j = P := by
      unfold kpS
      rw [hs]
      have : isS (isS (fun _ => zeroL) (fstM P 3)) (upd (fun _ => none) k (some Q)) j = P := by unfold isS; rw [upd_other _ _ e]; exact hs
      rw [this]
      split <;> rfl
    rw [hk]
    split <;> rfl
theorem own_emptyD (w : World) (base : Nat) (h : base ≤ w.heap.size) : (w.alloc (.cells #[] 5)).ownsRow base 5 1 (.slice (some ⟨w.heap.size, 0, none⟩) 0 0) 0 (u8s []) := by
  have := World.ownsRow_lit w (e := 5) (size := 1) (base := base) #[] 0 h (Nat.zero_le _) rfl
  simpa [u8s] using this
theorem own_ge {w : World} {base : Nat} {e : TypeId} {size : Nat} {v : Value} {n : Nat} {xs : List Value} (h : w.ownsRow base e size v n xs) : ∀ j, v.ownBlock = some j → base ≤ j := by
  rcases h.2 with ⟨rfl, _⟩ | ⟨gb, cap, cur, rfl, hb, _⟩
  · intro j hj; simp [Value.ownBlock] at hj
  · intro j hj
    have : gb = j := by simpa [Value.ownBlock] using hj
    omega
theorem sr_take {w : World} {gg q : Nat} {t : TypeId} {xs : List Nat} (h : Blk w gg t (u8s xs)) : Sr w (some ⟨gg, 0, none⟩) (xs.take q) := fun _ =>
  ⟨gg, 0, rfl, h.lt, fun j hj => by
    rw [List.length_take] at hj
    rw [Nat.zero_add, h.cell, u8s_get _ _ (by omega)]
    have : gt (xs.take q) j = gt xs j := by simp [gt, List.getD_eq_getElem?_getD, List.getElem?_take_of_lt (show j < q by omega)]
    rw [this]⟩
theorem sr_drop {w : World} {gg q : Nat} {t : TypeId} {xs : List Nat} {p : Option Addr} (h : Blk w gg t (u8s xs)) (hp : q < xs.length → p = some ⟨gg, q, none⟩) : Sr w p (xs.drop q) := fun h0 => by
  rw [List.length_drop] at h0
  refine ⟨gg, q, hp (by omega), h.lt, fun j hj => ?_⟩
  rw [List.length_drop] at hj
  rw [h.cell, u8s_get _ _ (by omega)]
  have : gt (xs.drop q) j = gt xs (q + j) := by simp [gt, List.getD_eq_getElem?_getD]
  rw [this]
/-- What DiskStays knows behind the crash. -/
structure SN (w0 w : World) (g bs bm gx gy : Nat) (S : Nat → List Nat) (P Q : List Nat) : Prop where
  d : DW w0 w g bs bm 3 0 S (fun _ => none)
  x : Blk w gx 5 (u8s P)
  y : Blk w gy 5 (u8s Q)
theorem SN.below {w0 w w' : World} {g bs bm gx gy : Nat} {S : Nat → List Nat} {P Q : List Nat} (h : SN w0 w g bs bm gx gy S P Q) (hb : Below w.heap.size w w') : SN w0 w' g bs bm gx gy S P Q :=
  ⟨h.d.below hb, h.x.below hb h.x.lt, h.y.below hb h.y.lt⟩
theorem DW.but {w0 w w' : World} {g bs bm k n x : Nat} {S : Nat → List Nat} {M : Nat → Option (List Nat)} (h : DW w0 w g bs bm k n S M) (hb : But w.heap.size x w w') (h1 : g ≠ x) (h2 : bs ≠ x) (h3 : bm ≠ x) (h0 : w0.heap.size ≤ x) : DW w0 w' g bs bm k n S M :=
  ⟨h.dk.but hb h1 h2 h3, h.g0, h.s0, h.m0, h.bel.trans (hb.below h0 h.bel.size)⟩
theorem pad_row {xs : List Nat} {q : Nat} (hx : xs.length = q) : [] ++ (u8s xs ++ u8s (List.replicate (64 - q) 0)) = u8s (pad xs) := by rw [List.nil_append, ← u8s_app]; unfold pad; rw [hx]
theorem zero_row {q : Nat} (hq : q ≤ 64) : u8s zeroL = [] ++ (u8s (List.replicate q 0) ++ u8s (List.replicate (64 - q) 0)) := by
  rw [List.nil_append, ← u8s_app, List.replicate_append_replicate, show q + (64 - q) = 64 by omega]
  rfl
theorem rep_len {xs : List Nat} {q : Nat} (hx : xs.length = q) : (u8s (List.replicate q 0)).length = (u8s xs).length := by rw [u8s_length, u8s_length, hx, List.length_replicate]
theorem min_len {xs : List Nat} {q : Nat} (hx : xs.length = q) (hq : q ≤ 64) : (u8s xs).length = Nat.min q 64 := by rw [u8s_length, hx]; exact (Nat.min_eq_left hq).symm
theorem cp_from {xs : List Nat} {q gx : Nat} {A : Option Addr} {W : World} (hx : xs.length = q) (h : Sr W A xs) : 0 < (u8s xs).length → (some ⟨gx, 0, none⟩ : Option Addr) = some ⟨gx, 0, none⟩ ∧ ∃ ad, A = some ad ∧ ∀ j v, (u8s xs)[j]? = some v → W.cell? (ad.add j) = some v := fun h0 => ⟨rfl, h.cells (by rwa [u8s_length] at h0)⟩
set_option maxRecDepth 100000 in
set_option maxHeartbeats 4000000 in
theorem stays_t (A1 A2 A3 : Option Addr) (q1 c1 q2 c2 q3 c3 : Nat) (xs ys : List Nat) (x3 x4 x5 : Int) (L : Nat → Int) (w : World)
    (hx : xs.length = q1) (hs : Sr w A1 xs) (hb : Bytes xs) (hx2 : ys.length = q2) (hs2 : Sr w A2 ys) (hb2 : Bytes ys)
    (hL : ∀ j, j < q3 → ∃ b o, A3 = some ⟨b, o, none⟩ ∧ b < w.heap.size ∧ w.cell? ⟨b, o + j, none⟩ = some (.int .i64 (L j)) ∧ -9223372036854775808 ≤ L j ∧ L j ≤ 9223372036854775807) (hi4 : InI x4)
    (hq1 : q1 ≤ maxLen) (hq2 : q2 ≤ maxLen) (hq3 : q3 ≤ maxLen) :
    Calls Try.prog 5 #[.slice A1 q1 c1, .slice A2 q2 c2, .int .i64 x3, .slice A3 q3 c3, .int .i64 x4, .int .i64 x5] w fun e w' => e = .returned (.bool true) ∧ Below w.heap.size w w' := by
  have NW := Lib.hid (wNew 3 (by decide) (Below.refl w.heap.size w))
  rw [show (((3 : Nat) : Int)) = 3 from rfl] at NW
  have HX := Lib.hid hx; have HS := Lib.hid hs; have HB := Lib.hid hb; have HX2 := Lib.hid hx2; have HS2 := Lib.hid hs2; have HB2 := Lib.hid hb2; have HL := Lib.hid hL; have HI4 := Lib.hid hi4
  have z1 : (q1 : Int) ≤ 9223372036854775807 := by unfold maxLen at hq1; omega
  have z2 : (q2 : Int) ≤ 9223372036854775807 := by unfold maxLen at hq2; omega
  have z3 : (q3 : Int) ≤ 9223372036854775807 := by unfold maxLen at hq3; omega
  clear hx hs hb hx2 hs2 hb2 hL hi4 hq1 hq2 hq3
  go_enter Try.func5, Try.ntmps5
  go_upto_region 4 with (go_at_call 7; refine NW.out.mono ?_; rintro e w1 ⟨g, bs, bm, rfl, d1, _, _, _, _⟩)
  have D1 := Lib.hid d1
  clear d1 NW
  have TD := Lib.hid (dtold_t w1)
  by_cases hbig1 : 64 < q1
  · have i1 : (64 : Int) < (q1 : Int) := by omega
    go_wp2_with (go_at_call 13; refine TD.out.mono ?_; rintro e w2 ⟨rfl, b2⟩; have BE := Lib.hid (D1.out.bel.trans (b2.mono D1.out.bel.size)); clear b2)
    go_ret
    exact ⟨rfl, BE.out⟩
  have i1 : ¬ (64 : Int) < (q1 : Int) := by omega
  by_cases hbig2 : 64 < q2
  · have i2 : (64 : Int) < (q2 : Int) := by omega
    go_wp2_with (go_at_call 13; refine TD.out.mono ?_; rintro e w2 ⟨rfl, b2⟩; have BE := Lib.hid (D1.out.bel.trans (b2.mono D1.out.bel.size)); clear b2)
    go_ret
    exact ⟨rfl, BE.out⟩
  have i2 : ¬ (64 : Int) < (q2 : Int) := by omega
  by_cases hbig3 : 20 < q3
  · have i3 : (20 : Int) < (q3 : Int) := by omega
    go_wp2_with (go_at_call 13; refine TD.out.mono ?_; rintro e w2 ⟨rfl, b2⟩; have BE := Lib.hid (D1.out.bel.trans (b2.mono D1.out.bel.size)); clear b2)
    go_ret
    exact ⟨rfl, BE.out⟩
  have i3 : ¬ (20 : Int) < (q3 : Int) := by omega
  have l1 : (q1 : Int) ≤ 64 := by omega
  have l2 : (q2 : Int) ≤ 64 := by omega
  have l3 : (q3 : Int) ≤ 20 := by omega
  have LP := Lib.hid (pad_length (l := xs) (by rw [HX.out]; omega)); have LQ := Lib.hid (pad_length (l := ys) (by rw [HX2.out]; omega))
  have BP := Lib.hid (show Bytes (pad xs) from app_bytes HB.out (rep_bytes (by decide) _)); have BQ := Lib.hid (show Bytes (pad ys) from app_bytes HB2.out (rep_bytes (by decide) _))
  obtain ⟨P, hP⟩ : ∃ z, pad xs = z := ⟨_, rfl⟩
  obtain ⟨Q, hQ⟩ : ∃ z, pad ys = z := ⟨_, rfl⟩
  rw [hP] at LP BP; rw [hQ] at LQ BQ
  have HP := Lib.hid hP; have HQ := Lib.hid hQ
  clear hP hQ TD hbig1 hbig2 hbig3 z1 z2 z3
  go_wp2_with fail
  go_loopw [15] (fun s15 wr => ∃ i : Nat, i ≤ 3 ∧ s15 = .int .i64 (i : Int) ∧ DW w wr g bs bm 3 i (fun _ => zeroL) (fstM P i)) (fun s _ => 3 - (intOf s).toNat)
  case atStart => exact ⟨0, by omega, rfl, D1.out⟩
  case round =>
    obtain ⟨i, hi, rfl, d2⟩ := hrel
    have D2 := Lib.hid d2
    clear d2 D1
    by_cases hlt : i < 3
    · have j1 : (i : Int) < 3 := by omega
      have WR := Lib.hid (wWrite i A1 q1 c1 xs hlt (by omega) HX.out (HS.out.below D2.out.bel) HB.out (by omega) D2.out)
      rw [HP.out, fstM_succ] at WR
      go_wp2_with (go_at_call 8; refine WR.out.mono ?_; rintro e w3 ⟨rfl, d3, _⟩)
      have D3 := Lib.hid d3
      clear d3 WR D2
      go_wp2_with fail
      go_roundw
      case rel => exact ⟨i + 1, hlt, by go_num, D3.out⟩
      case measure => simp [intOf]; omega
    · obtain rfl : i = 3 := by omega
      have SY := Lib.hid (wSync D2.out)
      obtain ⟨k, hk, hke⟩ := mod_3 x3
      have HK := Lib.hid hk
      clear hlt hk
      go_upto_region 13 with (go_at_call 9; refine SY.out.mono ?_; rintro e w3 ⟨rfl, d3, _⟩)
      rw [hke]
      have D3 := Lib.hid d3
      have WR := Lib.hid (wWrite k A2 q2 c2 ys HK.out (by omega) HX2.out (HS2.out.below D3.out.bel) HB2.out (by omega) D3.out)
      rw [HQ.out] at WR
      clear d3 SY D2 hke
      go_upto_region 15 with (go_at_call 8; refine WR.out.mono ?_; rintro e w4 ⟨rfl, d4, _⟩)
      have D4 := Lib.hid d4
      have CR := Lib.hid (wCrash A3 q3 c3 L x4 x5 (fun j hj => by
        obtain ⟨b, o, h1, h2, h3, h4, h5⟩ := HL.out j hj
        have := D4.out.s0; have := D4.out.bel.size
        exact ⟨b, o, h1, by omega, by omega, (D4.out.bel.cell (p := ⟨b, o + j, none⟩) h2).trans h3, h4, h5⟩) (by omega) HI4.out D4.out)
      obtain ⟨q, hq⟩ : ∃ z, clampN x5 = z := ⟨_, rfl⟩
      have hq1 := clampN_cast x5
      rw [hq] at CR hq1
      have HQ6 := Lib.hid (show q ≤ 64 by rw [← hq]; exact clampN_le x5)
      obtain ⟨S3, hS3⟩ : ∃ f, crS (isS (fun _ => zeroL) (fstM P 3)) (upd (fun _ => none) k (some Q)) (keepB L q3) x4 q = f := ⟨_, rfl⟩
      rw [hS3] at CR
      have HS3 := Lib.hid (fun j (hj : j < 3) => show S3 j = if j = k then (if keepB L q3 k then Q else if (k : Int) = x4 then mix q Q P else P) else P by rw [← hS3]; exact stay_is P Q k q j x4 _ hj)
      clear d4 WR D3 hS3 hq
      go_upto_region 16 with (go_at_call 11; refine CR.out.mono ?_; rintro e w5 ⟨rfl, d5, _⟩)
      have D5 := Lib.hid d5
      clear d5 CR D4
      have mk : ∀ W, (Instr.makeSlice 26 (.int .i64 64) (.int .i64 64)).run Try.prog W = .ok (.slice (some ⟨W.heap.size, 0, none⟩) 64 64) (W.alloc (.cells (u8s zeroL).toArray 5)) := fun W => make_bytes 64 (by decide) W
      go_upto_region 18 with (fail)
      obtain ⟨W6, hW6⟩ : ∃ z, (w5.alloc (.cells (u8s zeroL).toArray 5)).alloc (.cells (u8s zeroL).toArray 5) = z := ⟨_, rfl⟩
      have b6 : Below w5.heap.size w5 W6 := by rw [← hW6]; exact ((Below.refl _ _).alloc (Nat.le_refl _) _).alloc (by simp) _
      have D6 := Lib.hid (D5.out.below b6)
      have X6 := Lib.hid (show Blk W6 w5.heap.size 5 ([] ++ (u8s (List.replicate q1 0) ++ u8s (List.replicate (64 - q1) 0))) by rw [← hW6, ← zero_row (by omega)]; exact (Blk.new w5 _ _).alloc _)
      have Y6 := Lib.hid (show Blk W6 (w5.heap.size + 1) 5 ([] ++ (u8s (List.replicate q2 0) ++ u8s (List.replicate (64 - q2) 0))) by rw [← hW6, ← zero_row (by omega)]; exact Blk.new2 w5 _ _ _)
      rw [hW6]
      have e1 := D5.out.dk.b.lt; have e2 := D5.out.dk.s.lt; have e3 := D5.out.dk.m.lt; have e4 := D5.out.bel.size
      obtain ⟨gx, hgx⟩ : ∃ z, w5.heap.size = z := ⟨_, rfl⟩
      rw [hgx] at X6 Y6 e1 e2 e3 e4 ⊢
      obtain ⟨gy, hgy⟩ : ∃ z, gx + 1 = z := ⟨_, rfl⟩
      have hxy : gx < gy := by omega
      rw [hgy] at Y6 ⊢
      have C1 := Lib.hid (cp_from (gx := gx) HX.out (HS.out.below D6.out.bel))
      have U1 := Lib.hid (u8s_each xs); have U2 := Lib.hid (u8s_each ys); have N1 := Lib.hid (rep_len HX.out); have N2 := Lib.hid (rep_len HX2.out); have N3 := Lib.hid (min_len HX.out (by omega)); have N4 := Lib.hid (min_len HX2.out (by omega)); have N5 := Lib.hid (show (u8s xs).length = q1 by rw [u8s_length, HX.out]); have N6 := Lib.hid (show (u8s ys).length = q2 by rw [u8s_length, HX2.out])
      clear hW6 b6 D5 mk hgx hgy
      go_upto_region 19 with (refine copy_part (.tmp 80) (.tmp 81) 26 26 5 gx 0 64 64 q1 c1 q1 _ A1 5 [] (u8s (List.replicate q1 0)) (u8s (List.replicate (64 - q1) 0)) (u8s xs) rfl rfl Try.underlying26 byte_size X6.out rfl N1.out N3.out rfl rfl C1.out U1.out N5.out ?_; intro w7 hb7 hbt7 hs7)
      rw [pad_row HX.out, HP.out] at hb7
      have D7 := Lib.hid (D6.out.but hbt7.out (by omega) (by omega) (by omega) (by omega))
      have Y7 := Lib.hid (Y6.out.but hbt7.out Y6.out.lt (by omega))
      have C2 := Lib.hid (cp_from (gx := gy) HX2.out (HS2.out.below D7.out.bel))
      clear X6 Y6 C1 D6 hbt7 hs7
      go_upto_region 20 with (refine copy_part (.tmp 83) (.tmp 84) 26 26 5 gy 0 64 64 q2 c2 q2 _ A2 5 [] (u8s (List.replicate q2 0)) (u8s (List.replicate (64 - q2) 0)) (u8s ys) rfl rfl Try.underlying26 byte_size Y7.out rfl N2.out N4.out rfl rfl C2.out U2.out N6.out ?_; intro w8 hb8 hbt8 hs8)
      rw [pad_row HX2.out, HQ.out] at hb8
      have S8 := Lib.hid (show SN w w8 g bs bm gx gy S3 P Q from ⟨D7.out.but hbt8.out (by omega) (by omega) (by omega) (by omega), hb7.out.but hbt8.out hb7.out.lt (by omega), hb8.out⟩)
      clear Y7 C2 D7 hbt8 hs8 hb7 hb8 U1 U2 N1 N2 N3 N4 N5 N6 HX HS HB HX2 HS2 HB2 HP HQ
      have hq2 : max 0 (min x5 64) = (q : Int) := by omega
      have q64 : (q : Int) ≤ 64 := by have := HQ6.out; omega
      clear hq1
      go_upto_region 21 with (fail)
      clear hq2
      go_wp2_with fail
      go_loopw [20] (fun s20 wr => ∃ i : Nat, i ≤ 3 ∧ s20 = .int .i64 (i : Int) ∧ SN w wr g bs bm gx gy S3 P Q) (fun s _ => 3 - (intOf s).toNat)
      case atStart => exact ⟨0, by omega, rfl, S8.out⟩
      case round =>
        obtain ⟨i, hi, rfl, s9⟩ := hrel
        have S9 := Lib.hid s9
        clear s9 S8
        by_cases hlt : i < 3
        · have j1 : (i : Int) < 3 := by omega
          have RD := Lib.hid (dRead_t i hlt S9.out.d.dk)
          have he := HS3.out i hlt
          have e9 : isS S3 (fun _ => none) i = S3 i := rfl
          rw [e9] at RD
          clear e9
          go_upto_region 28 with (go_at_call 12; refine RD.out.mono ?_; rintro e wa ⟨rfl, bka, hba⟩)
          have SA := Lib.hid (S9.out.below hba)
          have ZA := Lib.hid bka
          obtain ⟨gz, hgz⟩ : ∃ z, wr.heap.size = z := ⟨_, rfl⟩
          rw [hgz] at ZA ⊢
          clear bka hba RD S9 hgz
          by_cases hik : i = k
          · subst hik
            rw [if_pos rfl] at he
            have HE := Lib.hid he
            clear he
            go_wp2_with fail
            go_loopw [24, 25] (fun s24 s25 wr => ∃ j : Nat, j ≤ q3 ∧ s25 = .int .i64 (j : Int) ∧ s24 = .bool (keepB L j i) ∧ wr = wa) (fun _ s _ => q3 - (intOf s).toNat)
            case atStart => exact ⟨0, Nat.zero_le _, rfl, rfl, rfl⟩
            case round =>
              obtain ⟨j, hj, rfl, rfl, rfl⟩ := hrel
              by_cases hjq : j < q3
              · have jq : (j : Int) < (q3 : Int) := by omega
                obtain ⟨b, o, rfl, h2, h3, h4, h5⟩ := HL.out j hjq
                have cv := (SA.out.d.bel.cell (p := ⟨b, o + j, none⟩) h2).trans h3
                have HK2 := Lib.hid (keepB_succ L j i)
                obtain ⟨kb, hkb⟩ : ∃ z, keepB L j i = z := ⟨_, rfl⟩
                rw [hkb] at HK2 ⊢
                clear hkb
                cases kb with
                | true =>
                  go_wp2_with fail
                  go_roundw
                  case rel => exact ⟨j + 1, hjq, by go_num, by rw [HK2.out]; rfl, trivial⟩
                  case measure => simp [intOf]; omega
                | false =>
                  by_cases hLi : L j = (i : Int)
                  · have e8 : (L j == (i : Int)) = true := by rw [beq_iff_eq]; exact hLi
                    have e9 := Lib.hid hLi
                    clear hLi
                    go_wp2_with fail
                    go_roundw
                    case rel => exact ⟨j + 1, hjq, by go_num, by rw [HK2.out, decide_eq_true e9.out]; rfl, trivial⟩
                    case measure => simp [intOf]; omega
                  · have e8 : (L j == (i : Int)) = false := by rw [beq_eq_false_iff_ne]; exact hLi
                    have e9 := Lib.hid hLi
                    clear hLi
                    go_wp2_with fail
                    go_roundw
                    case rel => exact ⟨j + 1, hjq, by go_num, by rw [HK2.out, decide_eq_false e9.out]; rfl, trivial⟩
                    case measure => simp [intOf]; omega
              · obtain rfl : j = q3 := by omega
                clear hjq
                obtain ⟨kb, hkb⟩ : ∃ z, keepB L j i = z := ⟨_, rfl⟩
                rw [hkb] at HE ⊢
                clear hkb
                cases kb with
                | true =>
                  have he := HE.out
                  rw [if_pos rfl] at he
                  rw [he] at ZA
                  have SM := Lib.hid (same_textsD Q Q (some ⟨gz, 0, none⟩) (some ⟨gy, 0, none⟩) 64 64 64 64 wr LQ.out LQ.out ZA.out.sr SA.out.y.sr BQ.out BQ.out)
                  rw [decide_eq_true (rfl : Q = Q)] at SM
                  clear ZA he HE
                  go_wp2_with (go_at_call 19; refine SM.out.mono ?_; rintro e wb ⟨rfl, rfl⟩)
                  go_roundw
                  case rel => exact ⟨i + 1, by omega, by go_num, SA.out⟩
                  case measure => simp [intOf]; omega
                | false =>
                  by_cases ht : (i : Int) = x4
                  · have he := HE.out
                    rw [if_neg (by simp), if_pos ht] at he
                    rw [he] at ZA
                    subst ht
                    clear he HE
                    go_upto_region 37 with (fail)
                    have SH := slice_high (P := Try.prog) Try.underlying26 byte_size (some ⟨gy, 0, none⟩) 64 64 .i64 q HQ6.out
                    obtain ⟨p2, hp2, SL⟩ := slice_low (P := Try.prog) Try.underlying26 byte_size (some ⟨gx, 0, none⟩) 64 64 .i64 q HQ6.out (Nat.le_refl _)
                    have HP2 := Lib.hid (show q < P.length → p2 = some ⟨gx, q, none⟩ from fun h => by rw [LP.out] at h; rw [hp2 h gx 0 rfl, Nat.zero_add])
                    clear hp2
                    refine wp_region_held (S := fun _ => True) (by kernel_rfl) ?_
                    change wpAnyH _ _ _ _ _ _ _ _ wr.drew
                    obtain ⟨V, hV⟩ : ∃ z, wr.drew = z := ⟨_, rfl⟩
                    have BV := Lib.hid (show Below wr.heap.size wr V by rw [← hV]; exact (Below.refl _ _).drew)
                    have EV := Lib.hid (show V.heap.size = wr.heap.size by rw [← hV]; rfl)
                    rw [hV]
                    clear hV
                    have s0 : True := trivial
                    refine wpAnyH_take (i := 1) (v := ?_) rfl (by kernel_rfl) (by kernel_rfl) (by kernel_rfl) (fun _ _ _ h => h) (Or.inl ⟨by kernel_rfl, ?_⟩) s0 ?_
                    rotate_left 1
                    · (intro w hS; clear hS; go_simp; try (with_reducible rfl))
                    refine wpAnyH_take (i := 2) (v := ?_) rfl (by kernel_rfl) (by kernel_rfl) (by kernel_rfl) (fun _ _ _ h => h) (Or.inl ⟨by kernel_rfl, ?_⟩) s0 ?_
                    rotate_left 1
                    · (intro w hS; clear hS; go_simp; try (with_reducible rfl))
                    refine wpAnyH_take (i := 3) (v := ?_) rfl (by kernel_rfl) (by kernel_rfl) (by kernel_rfl) (fun _ _ _ h => h) (Or.inl ⟨by kernel_rfl, ?_⟩) s0 ?_
                    rotate_left 1
                    · (intro w hS; clear hS; go_simp; try (with_reducible rfl))
                    refine wpAnyH_take (i := 5) (v := ?_) rfl (by kernel_rfl) (by kernel_rfl) (by kernel_rfl) (fun _ _ _ h => h) (Or.inl ⟨by kernel_rfl, ?_⟩) s0 ?_
                    rotate_left 1
                    · (intro w hS; clear hS; go_simp; try (with_reducible rfl))
                    refine wpAnyH_take (i := 6) (v := ?_) rfl (by kernel_rfl) (by kernel_rfl) (by kernel_rfl) (fun _ _ _ h => h) (Or.inl ⟨by kernel_rfl, ?_⟩) s0 ?_
                    rotate_left 1
                    · (intro w hS; clear hS; go_simp; try (with_reducible rfl))
                    refine wpAnyH_take (i := 7) (v := ?_) rfl (by kernel_rfl) (by kernel_rfl) (by kernel_rfl) (fun _ _ _ h => h) (Or.inl ⟨by kernel_rfl, ?_⟩) s0 ?_
                    rotate_left 1
                    · (intro w hS; clear hS; go_simp; try (with_reducible rfl))
                    refine wpAnyH_ready (rs := [0]) (by kernel_rfl) (by simp) ?_
                    refine AllReadyH.cons rfl (fun K hK => ?_) AllReadyH.nil
                    rw [if_pos (by kernel_rfl)]
                    go_simp
                    refine hK.out _ _ trivial (fun _ => ?_)
                    clear hK K
                    have B1 := Lib.hid (show Below wr.heap.size wr (V.alloc (.cells #[] 5)) from BV.out.alloc (by rw [EV.out]; exact Nat.le_refl _) _)
                    have O1 := Lib.hid (own_emptyD V wr.heap.size (by rw [EV.out]; exact Nat.le_refl _))
                    obtain ⟨U, hU⟩ : ∃ z, V.alloc (.cells #[] 5) = z := ⟨_, rfl⟩
                    rw [hU] at B1 O1 ⊢
                    have S1 := Lib.hid (SA.out.below B1.out)
                    refine wpAnyH_ready (rs := [4]) (by kernel_rfl) (by simp) ?_
                    refine AllReadyH.cons rfl (fun K hK => ?_) AllReadyH.nil
                    rw [if_pos (by kernel_rfl)]
                    refine wp_append_bytes (.tmp 125) (.tmp 128) 26 rfl 5 Try.underlying26 byte_info wr.heap.size _ 0 [] (Q.take q) (by go_simp) O1.out (some ⟨gy, 0, none⟩) q 64 (by go_simp) (by rw [List.length_take, LQ.out]; exact Nat.min_eq_left HQ6.out) (sr_take S1.out.y) (by have := HQ6.out; omega) B1.out.size ?_
                    intro v2 w2 o2 g2 _
                    have B2 := Lib.hid (B1.out.grown g2.out B1.out.size (own_ge O1.out))
                    have S2 := Lib.hid (SA.out.below B2.out)
                    clear g2 O1 S1 B1 hU
                    refine hK.out _ _ trivial (fun _ => ?_)
                    clear hK K
                    refine wpAnyH_ready (rs := [8]) (by kernel_rfl) (by simp) ?_
                    refine AllReadyH.cons rfl (fun K hK => ?_) AllReadyH.nil
                    rw [if_pos (by kernel_rfl)]
                    refine wp_append_bytes (.tmp 129) (.tmp 132) 26 rfl 5 Try.underlying26 byte_info wr.heap.size v2 (0 + q) ([] ++ Q.take q) (P.drop q) (by go_simp) o2.out p2 (64 - q) (64 - q) (by go_simp) (by rw [List.length_drop, LP.out]) (sr_drop S2.out.x HP2.out) (by have := HQ6.out; omega) B2.out.size ?_
                    intro v3 w3 o3 g3 _
                    have B3 := Lib.hid (B2.out.grown g3.out B2.out.size (own_ge o2.out))
                    have S3' := Lib.hid (SA.out.below B3.out)
                    have Z3 := Lib.hid (ZA.out.below B3.out ZA.out.lt)
                    have hw3 := o3.out
                    rw [List.nil_append, show Q.take q ++ P.drop q = mix q Q P from rfl, show 0 + q + (64 - q) = 64 by have := HQ6.out; omega] at hw3
                    obtain ⟨A3', c3', rfl, _⟩ := own_form hw3
                    have SR3 := Lib.hid (Sr.of_own hw3)
                    have LM := Lib.hid (mix_length LQ.out LP.out HQ6.out)
                    have BM := Lib.hid (show Bytes (mix q Q P) from sl_bytes (fun x hx => by
                      have hall : ∀ l : List Nat, Bytes l → ∀ x ∈ l, x < 256 := fun l hl x hx => by
                        obtain ⟨i, hi, rfl⟩ := List.getElem_of_mem hx
                        have := hl i
                        rwa [gt_of_lt hi] at this
                      rcases List.mem_append.1 hx with h | h
                      · exact hall Q BQ.out x (List.mem_of_mem_take h)
                      · exact hall P BP.out x (List.mem_of_mem_drop h)))
                    have SM := Lib.hid (same_textsD (mix q Q P) (mix q Q P) (some ⟨gz, 0, none⟩) A3' 64 64 64 c3' w3 LM.out LM.out Z3.out.sr SR3.out BM.out BM.out)
                    rw [decide_eq_true (rfl : mix q Q P = mix q Q P)] at SM
                    clear o2 g3 o3 S2 B2 hw3 Z3 SR3 LM BM ZA SA
                    refine hK.out _ _ trivial (fun _ => ?_)
                    clear hK K
                    refine wpAnyH_take (i := 9) (v := ?_) rfl (by kernel_rfl) (by kernel_rfl) (by kernel_rfl) (fun _ _ _ h => h) (Or.inl ⟨by kernel_rfl, ?_⟩) s0 ?_
                    rotate_left 1
                    · (intro w hS; clear hS; go_simp; try (with_reducible rfl))
                    refine wpAnyH_done (by kernel_rfl) ?_ _
                    go_simp
                    go_wp2_with (go_at_call 19; refine SM.out.mono ?_; rintro e wb ⟨rfl, rfl⟩)
                    go_roundw
                    case rel => exact ⟨i + 1, by omega, by go_num, S3'.out⟩
                    case measure => simp [intOf]; omega
                  · have he := HE.out
                    rw [if_neg (by simp), if_neg ht] at he
                    rw [he] at ZA
                    have e8 : (x4 == (i : Int)) = false := by rw [beq_eq_false_iff_ne]; exact fun h => ht h.symm
                    have SM := Lib.hid (same_textsD P P (some ⟨gz, 0, none⟩) (some ⟨gx, 0, none⟩) 64 64 64 64 wr LP.out LP.out ZA.out.sr SA.out.x.sr BP.out BP.out)
                    rw [decide_eq_true (rfl : P = P)] at SM
                    clear ZA he HE ht
                    go_wp2_with (go_at_call 19; refine SM.out.mono ?_; rintro e wb ⟨rfl, rfl⟩)
                    go_roundw
                    case rel => exact ⟨i + 1, by omega, by go_num, SA.out⟩
                    case measure => simp [intOf]; omega
          · rw [if_neg hik] at he
            have i9 : ((i : Int) == (k : Int)) = false := by rw [beq_eq_false_iff_ne]; omega
            rw [he] at ZA
            have SM := Lib.hid (same_textsD P P (some ⟨gz, 0, none⟩) (some ⟨gx, 0, none⟩) 64 64 64 64 wa LP.out LP.out ZA.out.sr SA.out.x.sr BP.out BP.out)
            rw [decide_eq_true (rfl : P = P)] at SM
            clear ZA he
            go_wp2_with (go_at_call 19; refine SM.out.mono ?_; rintro e wb ⟨rfl, rfl⟩)
            go_roundw
            case rel => exact ⟨i + 1, by omega, by go_num, SA.out⟩
            case measure => simp [intOf]; omega
        · obtain rfl : i = 3 := by omega
          clear hlt
          have TD := Lib.hid (dtold_t wr)
          go_wp2_with (first
            | (go_at_call 9; with_reducible refine (dSync_nil _).mono ?_; rintro e wb ⟨rfl, rfl⟩)
            | (go_at_call 11; with_reducible refine (dCrash_nil _ _ _ _).mono ?_; rintro e wb ⟨rfl, rfl⟩)
            | (go_at_call 12; with_reducible refine (dRead_nil _).mono ?_; rintro e wb ⟨rfl, rfl⟩)
            | (go_at_call 13; with_reducible refine TD.out.mono ?_; rintro e wb ⟨rfl, bb⟩; have DI := Lib.hid (wDirty0 (by decide) (S9.out.d.below bb)); clear bb)
            | (go_at_call 10; with_reducible refine DI.out.mono ?_; rintro e wc ⟨Ac, cc, rfl, dc, _⟩; have BE := Lib.hid dc.bel; clear dc)
            | (go_at_call 8; with_reducible refine (dWrite_nil _ _).mono ?_; rintro e wd ⟨rfl, rfl⟩)
            | (go_at_call 10; with_reducible refine (dDirty_nil _).mono ?_; rintro e wd ⟨rfl, rfl⟩)
            | (go_at_call 20; with_reducible refine (dLen_nil _).mono ?_; rintro e wd ⟨rfl, rfl⟩))
          go_ret
          exact ⟨rfl, BE.out⟩
end Go.Proofs.Ytgaiheaibejloaa
