/-
  PackTexts walked.
-/
import Derived.Test.YthgfghphceikbaaPkT
import Derived.Test.YthgfghphceikbaaPkV
namespace Go.Proofs.Ythgfghphceikbaa
open Go Go.RowKit Sh

/-- A row of slices of bytes: the r-th has the address A r, the length L r, reads as X r. -/
structure Texts (w : World) (p : Option Addr) (n : Nat) (A : Nat → Option Addr) (L C : Nat → Nat) (X : Nat → List Nat) : Prop where
  cell : ∀ r, r < n → ∃ b o, p = some ⟨b, o, none⟩ ∧ b < w.heap.size ∧ w.cell? ⟨b, o + r, none⟩ = some (.slice (A r) (L r) (C r))
  len : ∀ r, r < n → (X r).length = L r
  cap : ∀ r, r < n → L r ≤ C r
  max : ∀ r, r < n → L r ≤ 9223372036854775807
  reads : ∀ r, r < n → Sr w (A r) (X r)
  bytes : ∀ r, r < n → Bytes (X r)
theorem Texts.below {w w' : World} {p : Option Addr} {n : Nat} {A : Nat → Option Addr} {L C : Nat → Nat} {X : Nat → List Nat} (h : Texts w p n A L C X) (hb : Below w.heap.size w w') : Texts w' p n A L C X :=
  ⟨fun r hr => by
    obtain ⟨b, o, e, h1, h2⟩ := h.cell r hr
    exact ⟨b, o, e, Nat.lt_of_lt_of_le h1 hb.size, (hb.cell (p := ⟨b, o + r, none⟩) h1).trans h2⟩, h.len, h.cap, h.max, fun r hr => (h.reads r hr).below hb, h.bytes⟩
/-- The texts from the first to the k-th, one behind the other. -/
def rowT (X : Nat → List Nat) : Nat → List Nat
  | 0 => []
  | k + 1 => rowT X k ++ txtN (X k)
/-- The texts from the k-th on, m of them. -/
def tailT (X : Nat → List Nat) : Nat → Nat → List Nat
  | _, 0 => []
  | k, m + 1 => txtN (X k) ++ tailT X (k + 1) m
theorem tail_snoc (X : Nat → List Nat) : ∀ (m k : Nat), tailT X k (m + 1) = tailT X k m ++ txtN (X (k + m))
  | 0, k => by simp [tailT]
  | m + 1, k => by
    show txtN (X k) ++ tailT X (k + 1) (m + 1) = (txtN (X k) ++ tailT X (k + 1) m) ++ _
    rw [tail_snoc X m (k + 1), List.append_assoc, show k + 1 + m = k + (m + 1) from by omega]
theorem row_tail (X : Nat → List Nat) : ∀ n, rowT X n = tailT X 0 n
  | 0 => rfl
  | n + 1 => by
    show rowT X n ++ txtN (X n) = _
    rw [row_tail X n, tail_snoc, Nat.zero_add]
theorem row_len (X : Nat → List Nat) (n : Nat) (h : ∀ r, r < n → (X r).length ≤ 80) : ∀ k, k ≤ n → (rowT X k).length ≤ 84 * k := by
  intro k
  induction k with
  | zero => intro _; simp [rowT]
  | succ k ih =>
    intro hk
    have h1 := ih (by omega)
    have h2 := h k (by omega)
    simp only [rowT, txtN, List.length_append, beN_length]
    omega
theorem tail_bytes (X : Nat → List Nat) : ∀ (m k : Nat), (∀ r, k ≤ r → r < k + m → Bytes (X r)) → Bytes (tailT X k m)
  | 0, _, _ => fun i => by simp [tailT, gt]
  | m + 1, k, h => by
    have h1 : Bytes (txtN (X k)) := fun i => by
      unfold txtN
      rcases Nat.lt_or_ge i (beN (X k).length 4).length with hi | hi
      · rw [gt_app_left hi]; exact beN_bytes _ _ _
      · rw [gt_app_right hi]; exact h k (Nat.le_refl _) (by omega) _
    have h2 := tail_bytes X m (k + 1) (fun r h3 h4 => h r (by omega) (by omega))
    intro i
    show gt (txtN (X k) ++ tailT X (k + 1) m) i < 256
    rcases Nat.lt_or_ge i (txtN (X k)).length with hi | hi
    · rw [gt_app_left hi]; exact h1 i
    · rw [gt_app_right hi]; exact h2 _
theorem tail_len (X : Nat → List Nat) : ∀ (m k : Nat), (∀ r, k ≤ r → r < k + m → (X r).length ≤ 80) → (tailT X k m).length ≤ 84 * m
  | 0, _, _ => by simp [tailT]
  | m + 1, k, h => by
    have h1 := tail_len X m (k + 1) (fun r h3 h4 => h r (by omega) (by omega))
    have h2 := h k (Nat.le_refl _) (by omega)
    simp only [tailT, txtN, List.length_append, beN_length]
    omega
theorem most_of (n : Int) (_ : -9223372036854775808 ≤ n ∧ n ≤ 9223372036854775807) : ∃ k : Nat, k < 90 ∧ wrap64 ((IntKind.u64.wrap n).tmod 90) = (k : Int) := by
  have h0 : 0 ≤ IntKind.u64.wrap n := by simp [IntKind.wrap, IntKind.bits, IntKind.signed]; omega
  rw [Int.tmod_eq_emod_of_nonneg h0]
  generalize IntKind.u64.wrap n = m at *
  refine ⟨(m % 90).toNat, by omega, ?_⟩
  unfold wrap64
  omega
/-- A text that is longer than K was asked for. -/
def ovB (L : Nat → Nat) (K : Nat) : Nat → Bool
  | 0 => false
  | k + 1 => ovB L K k || decide (K < L k)
set_option maxRecDepth 100000 in
set_option maxHeartbeats 1000000 in
theorem texts_t (p : Option Addr) (n c : Nat) (most : Int) (A : Nat → Option Addr) (L C : Nat → Nat) (X : Nat → List Nat) (w : World) (hm : -9223372036854775808 ≤ most ∧ most ≤ 9223372036854775807) (h : Texts w p n A L C X) (hn : n ≤ 9223372036854775807) :
    Calls Try.prog 3 #[.slice p n c, .int .i64 most] w fun e w' => e = .returned (.bool true) ∧ Below w.heap.size w w' := by
  by_cases hlen : 15 < n
  · go_enter Try.func3, Try.ntmps3
    go_wp2_with (go_at_call 6; refine (told_t _).mono ?_; rintro e w2 ⟨rfl, b2⟩)
    go_ret
    exact ⟨rfl, b2⟩
  · have hl : n ≤ 15 := by omega
    have H := Lib.hid h
    have HMO := Lib.hid hm
    clear h hlen hm
    go_enter Try.func3, Try.ntmps3
    go_wp2_with fail
    have hb0 : Below w.heap.size w (w.alloc (.cells #[.pointer none, .int .i64 0] 26)) := (Below.refl _ _).alloc (Nat.le_refl _) _
    go_loopw [6] (fun i wr => ∃ k : Nat, k ≤ n ∧ i = .int .i64 k ∧ Wr wr (fun j => w.heap.size ≤ j) w.heap.size (rowT X k) ∧ Below w.heap.size w wr ∧ ∀ r, r < k → (X r).length ≤ 80) (fun i _ => n - (intOf i).toNat)
    case atStart => exact ⟨0, by omega, rfl, Wr.new, hb0, fun r hr => by omega⟩
    case round =>
      clear hb0
      obtain ⟨k, hk, rfl, x, b, hs⟩ := hrel
      by_cases hlt : k < n
      · obtain ⟨bb, oo, rfl, _, hc⟩ := (H.out.below b).cell k hlt
        have hmx := H.out.max k hlt
        have hXL := H.out.len k hlt
        have HX := Lib.hid x; have HB := Lib.hid b; have HS := Lib.hid hs; have HXL := Lib.hid hXL
        clear x b hs hXL
        by_cases h80 : 80 < L k
        · go_wp2_with (go_at_call 6; refine (told_t _).mono ?_; rintro e w2 ⟨rfl, b2⟩; have B2 := Lib.hid (HB.out.trans (b2.mono HB.out.size)); clear b2)
          go_ret
          exact ⟨rfl, B2.out⟩
        · have hl80 : L k ≤ 80 := by omega
          clear h80
          have hrl := row_len X k (fun r hr => HS.out r hr) k (Nat.le_refl _)
          have hsz : (rowT X k).length + (L k + 4) ≤ 70368744177664 := by omega
          have HSZ := Lib.hid hsz
          clear hrl hsz
          go_wp2_with (go_at_call 7; refine (text_s (w0 := wr) (X k) (A k) (L k) (C k) HX.out (Below.refl _ _) HB.out.size HXL.out ((H.out.below HB.out).reads k hlt) (fun hx a ha => .inl ((H.out.reads k hlt).lt hx a ha)) HSZ.out).mono ?_; rintro e w2 ⟨rfl, x2, b2⟩; have X2 := Lib.hid x2; have B2 := Lib.hid (HB.out.trans b2); clear x2 b2)
          go_roundw
          case rel =>
            refine ⟨k + 1, by omega, by go_num, X2.out, B2.out, fun r hr => ?_⟩
            by_cases e : r = k
            · subst e; rw [HXL.out]; exact hl80
            · exact HS.out r (by omega)
          case measure => simp [intOf]; omega
      · obtain rfl : k = n := by omega
        clear hk hlt
        obtain ⟨K, hK90, hK⟩ := most_of most HMO.out
        have HK := Lib.hid hK
        have hrl := row_len X k (fun r hr => hs r hr) k (Nat.le_refl _)
        have hsz : (rowT X k).length ≤ 70368744177664 := by omega
        have hrb : Bytes (rowT X k) := by rw [row_tail]; exact tail_bytes X k 0 fun r _ h2 => H.out.bytes r (by omega)
        have hlt4 : ∀ r, r < k → L r < 4294967296 := fun r hr => by have := hs r hr; have := H.out.len r hr; omega
        have HS80 := Lib.hid hs; have HSZ := Lib.hid hsz; have HRB := Lib.hid hrb; have HX := Lib.hid x; have HB := Lib.hid b; have HL4 := Lib.hid hlt4
        clear hrl hsz hrb x b hs hK hlt4
        go_wp2_with (first
          | (go_at_call 9; refine (wbytes_t _ _ _ wr HX.out HSZ.out).mono ?_; rintro e w2 ⟨u, rfl, o2, b2⟩; obtain ⟨A2, c2, rfl, _⟩ := own_form o2; have S2 := Lib.hid (Sr.of_own o2); have B2 := Lib.hid (HB.out.trans (b2.mono HB.out.size)); clear o2 b2)
          | (go_at_call 8; refine (rnew_t (rowT X k) A2 _ c2 w2 rfl S2.out HSZ.out).mono ?_; rintro e w3 ⟨g, rfl, hg, x3, b3⟩; have hg0 : w.heap.size ≤ g := Nat.le_trans B2.out.size hg; have B3 := Lib.hid (B2.out.trans (b3.mono B2.out.size)); rw [row_tail] at x3; have X3 := Lib.hid x3; clear x3 b3 hg))
        rw [HK.out]
        clear HX HB S2 B2
        go_loopw [9, 10] (fun o i wx => ∃ j : Nat, j ≤ k ∧ i = .int .i64 j ∧ o = .bool (ovB L K j) ∧ Rd wx g (if ovB L K j = true then [] else tailT X j (k - j)) (ovB L K j) ∧ Below w.heap.size w wx) (fun _ i _ => k - (intOf i).toNat)
        case atStart => exact ⟨0, by omega, rfl, rfl, X3.out, B3.out⟩
        case round =>
          clear X3 B3
          obtain ⟨j, hj, rfl, rfl, x, b⟩ := hrel
          by_cases hlt : j < k
          · obtain ⟨bb, oo, rfl, hbl, hcw⟩ := H.out.cell j hlt
            have HCW := Lib.hid hcw
            clear hcw
            have i0 : (j : Int) < (k : Int) := by omega
            by_cases hov : ovB L K j = true
            · have hov1 : ovB L K (j + 1) = true := by simp [ovB, hov]
              rw [hov, if_pos rfl] at x
              rw [hov]
              have HX := Lib.hid x; have HB := Lib.hid b; have HO := Lib.hid hov1
              clear x b hov hov1
              go_wp2_with (go_at_call 10; refine (rtext_short g [] true (K : Int) _ (by exact HX.out) (by omega) (by decide)).mono ?_; rintro e w5 ⟨u, rfl, o5, x5, k5⟩; obtain ⟨A5, c5, rfl, _⟩ := own_form o5; have X5 := Lib.hid x5; have B5 := Lib.hid (HB.out.trans ((k5.mono (G := fun k => w.heap.size ≤ k) fun k e => by subst e; exact hg0).to_below HB.out.size)); clear x5 k5 o5)
              go_roundw
              case rel =>
                refine ⟨j + 1, by omega, by go_num, by rw [HO.out], ?_, B5.out⟩
                rw [HO.out, if_pos rfl]
                exact X5.out
              case measure => simp [intOf]; omega
            · have hov0 : ovB L K j = false := by simpa using hov
              rw [hov0, if_neg (by decide)] at x
              rw [hov0]
              obtain ⟨m, hm⟩ : ∃ m, k - j = m + 1 := ⟨k - j - 1, by omega⟩
              have htb : Bytes (tailT X j (k - j)) := tail_bytes X _ j fun r _ h2 => H.out.bytes r (by omega)
              have htl : (tailT X j (k - j)).length ≤ 84 * (k - j) := tail_len X _ j fun r _ h2 => HS80.out r (by omega)
              rw [hm] at x htb htl
              have x' : Rd wr g (txtN (X j) ++ tailT X (j + 1) m) false := x
              have htb' : Bytes (txtN (X j) ++ tailT X (j + 1) m) := htb
              have htl' : (txtN (X j) ++ tailT X (j + 1) m).length ≤ 70368744177664 := by
                have : (txtN (X j) ++ tailT X (j + 1) m).length ≤ 84 * (m + 1) := htl
                omega
              have hXL := H.out.len j hlt
              have hv : val ((txtN (X j) ++ tailT X (j + 1) m).take 4) = L j := by rw [txt_len _ (by rw [hXL]; exact HL4.out j hlt), hXL]
              have hl4 : 4 + L j ≤ (txtN (X j) ++ tailT X (j + 1) m).length := by rw [List.length_append, txtN, List.length_append, beN_length, hXL]; omega
              have hr1 : ((txtN (X j) ++ tailT X (j + 1) m).drop 4).take (L j) = X j := by rw [txt_rest, List.take_append_of_le_length (by omega), List.take_of_length_le (by omega)]
              have hr2 : ((txtN (X j) ++ tailT X (j + 1) m).drop 4).drop (L j) = tailT X (j + 1) m := by rw [txt_rest, List.drop_append_of_le_length (by omega), List.drop_of_length_le (by omega), List.nil_append]
              have hkm : k - (j + 1) = m := by omega
              clear x htb htl hov hm
              obtain ⟨T, hT⟩ : ∃ T, txtN (X j) ++ tailT X (j + 1) m = T := ⟨_, rfl⟩
              rw [hT] at x' htb' htl' hv hl4 hr1 hr2
              have HX := Lib.hid x'; have HB := Lib.hid b; have HTB := Lib.hid htb'; have HV := Lib.hid hv; have HR1 := Lib.hid hr1; have HR2 := Lib.hid hr2; have HKM := Lib.hid hkm; have HXL := Lib.hid hXL
              clear x' b htb' hv hr1 hr2 hT hkm hXL
              by_cases hKL : K < L j
              · have hov1 : ovB L K (j + 1) = true := by simp [ovB, hKL]
                have HO := Lib.hid hov1
                clear hov1 hov0
                go_wp2_with (go_at_call 10; refine (rtext_over g T false (K : Int) _ (by exact HX.out) HTB.out (by omega) htl' (by omega) (.inl (by rw [HV.out]; exact hKL))).mono ?_; rintro e w5 ⟨u, rfl, o5, x5, k5⟩; obtain ⟨A5, c5, rfl, _⟩ := own_form o5; have X5 := Lib.hid x5; have B5 := Lib.hid (HB.out.trans ((k5.mono (G := fun k => w.heap.size ≤ k) fun k e => by subst e; exact hg0).to_below HB.out.size)); clear x5 k5 o5; have hc5 := (B5.out.cell (p := ⟨bb, oo + j, none⟩) hbl).trans HCW.out)
                go_roundw
                case rel =>
                  refine ⟨j + 1, by omega, by go_num, by rw [HO.out], ?_, B5.out⟩
                  rw [HO.out, if_pos rfl]
                  exact X5.out
                case measure => simp [intOf]; omega
              · have hov1 : ovB L K (j + 1) = false := by simp [ovB, hov0, hKL]
                have HO := Lib.hid hov1
                have hLK : L j ≤ K := by omega
                have hmx := H.out.max j hlt
                clear hov1 hov0 hKL
                go_wp2_with (first
                  | (go_at_call 10; refine (rtext_ok g T false (K : Int) _ (by exact HX.out) HTB.out (by omega) htl' (by omega) (L j) HV.out (by omega) (by omega)).mono ?_; rintro e w5 ⟨u, rfl, o5, x5, k5⟩; rw [HR1.out] at o5; rw [HR2.out] at x5; obtain ⟨A5, c5, rfl, _⟩ := own_form o5; have S5 := Lib.hid (Sr.of_own o5); have X5 := Lib.hid x5; have B5 := Lib.hid (HB.out.trans ((k5.mono (G := fun k => w.heap.size ≤ k) fun k e => by subst e; exact hg0).to_below HB.out.size)); clear x5 k5 o5; have hc5 := (B5.out.cell (p := ⟨bb, oo + j, none⟩) hbl).trans HCW.out)
                  | (go_at_call 11; refine (same_t A5 (A j) (L j) (L j) c5 (C j) (X j) w5 S5.out ((H.out.reads j hlt).below B5.out) HXL.out HXL.out).mono ?_; rintro e w6 ⟨rfl, rfl⟩))
                go_roundw
                case rel =>
                  refine ⟨j + 1, by omega, by go_num, by rw [HO.out], ?_, B5.out⟩
                  rw [HO.out, if_neg (by decide), HKM.out]
                  exact X5.out
                case measure => simp [intOf]; omega
          · obtain rfl : j = k := by omega
            have hx0 : (if ovB L K j = true then [] else tailT X j (j - j)) = [] := by rw [Nat.sub_self]; split <;> rfl
            rw [hx0] at x
            have HX := Lib.hid x; have HB := Lib.hid b
            clear x b hx0
            cases ho : ovB L K j
            all_goals
              rw [ho] at HX
              go_wp2_with (first
                | (go_at_call 6; refine (told_t _).mono ?_; rintro e wf ⟨rfl, bf⟩; have YF := Lib.hid (HX.out.below bf); have BF := Lib.hid (HB.out.trans (bf.mono HB.out.size)); clear bf)
                | (go_at_call 12; refine (end_t g [] _ _ (by exact YF.out)).mono ?_; rintro e w0 ⟨rfl, rfl⟩; first | rw [show ((endN [] true : Nat) : Int) = 2 from by decide] | rw [show ((endN [] false : Nat) : Int) = 0 from by decide])
                | (go_at_call 13; refine (left_t g [] _ _ (by exact YF.out)).mono ?_; rintro e w0 ⟨rfl, rfl⟩; rw [show ((([] : List Nat).length : Nat) : Int) = 0 from rfl]))
              go_ret
              exact ⟨rfl, BF.out⟩
end Go.Proofs.Ythgfghphceikbaa
