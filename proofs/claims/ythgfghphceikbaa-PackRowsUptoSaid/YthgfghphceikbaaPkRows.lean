/-
  PackRows walked.
-/
import Derived.Test.YthgfghphceikbaaPkT
import Derived.Test.YthgfghphceikbaaRefP
import Derived.Deep.RegionHeld3
namespace Go.Proofs.Ythgfghphceikbaa
open Go Go.RowKit Sh

/-- A row of parts. -/
structure Parts (w : World) (p : Option Addr) (n : Nat) (Hw Wd : Nat → Int) (V : Nat → Nat) (A : Nat → Option Addr) (L C : Nat → Nat) (X : Nat → List Nat) : Prop where
  cell : ∀ r, r < n → ∃ b o, p = some ⟨b, o, none⟩ ∧ b < w.heap.size ∧ w.cell? ⟨b, o + r * 4, none⟩ = some (.int .i64 (Hw r)) ∧ w.cell? ⟨b, o + r * 4 + 1, none⟩ = some (.int .i64 (Wd r)) ∧
    w.cell? ⟨b, o + r * 4 + 2, none⟩ = some (.int .u64 (V r : Nat)) ∧ w.cell? ⟨b, o + r * 4 + 3, none⟩ = some (.slice (A r) (L r) (C r))
  how : ∀ r, r < n → -9223372036854775808 ≤ Hw r ∧ Hw r ≤ 9223372036854775807
  wide : ∀ r, r < n → -9223372036854775808 ≤ Wd r ∧ Wd r ≤ 9223372036854775807
  val : ∀ r, r < n → V r < 18446744073709551616
  len : ∀ r, r < n → (X r).length = L r
  cap : ∀ r, r < n → L r ≤ C r
  max : ∀ r, r < n → L r ≤ 9223372036854775807
  reads : ∀ r, r < n → Sr w (A r) (X r)
  bytes : ∀ r, r < n → Bytes (X r)
theorem Parts.below {w w' : World} {p : Option Addr} {n : Nat} {Hw Wd : Nat → Int} {V : Nat → Nat} {A : Nat → Option Addr} {L C : Nat → Nat} {X : Nat → List Nat} (h : Parts w p n Hw Wd V A L C X) (hb : Below w.heap.size w w') : Parts w' p n Hw Wd V A L C X :=
  ⟨fun r hr => by
    obtain ⟨b, o, e, h1, c0, c1, c2, c3⟩ := h.cell r hr
    exact ⟨b, o, e, Nat.lt_of_lt_of_le h1 hb.size, (hb.cell (p := ⟨b, _, none⟩) h1).trans c0, (hb.cell (p := ⟨b, _, none⟩) h1).trans c1, (hb.cell (p := ⟨b, _, none⟩) h1).trans c2, (hb.cell (p := ⟨b, _, none⟩) h1).trans c3⟩,
    h.how, h.wide, h.val, h.len, h.cap, h.max, fun r hr => (h.reads r hr).below hb, h.bytes⟩
/-- The bytes of one part. -/
def partN (hw wd : Int) (v : Nat) (x : List Nat) : List Nat :=
  if hw = 0 then (if 1 ≤ wd ∧ wd ≤ 8 then beN v wd.toNat else []) else if hw = 1 then txtN x else x
def rowP (Hw Wd : Nat → Int) (V : Nat → Nat) (X : Nat → List Nat) : Nat → List Nat
  | 0 => []
  | k + 1 => rowP Hw Wd V X k ++ partN (Hw k) (Wd k) (V k) (X k)
theorem partN_len (hw wd : Int) (v : Nat) (x : List Nat) (h : x.length ≤ 100) : (partN hw wd v x).length ≤ 104 := by
  unfold partN
  split
  · split
    · rw [beN_length]; omega
    · simp
  · split
    · simp only [txtN, List.length_append, beN_length]; omega
    · omega
theorem rowP_len (Hw Wd : Nat → Int) (V : Nat → Nat) (X : Nat → List Nat) : ∀ k, (∀ r, r < k → (X r).length ≤ 100) → (rowP Hw Wd V X k).length ≤ 104 * k := by
  intro k
  induction k with
  | zero => intro _; simp [rowP]
  | succ k ih =>
    intro hk
    have h1 := ih fun r hr => hk r (by omega)
    have h2 := partN_len (Hw k) (Wd k) (V k) (X k) (hk k (by omega))
    simp only [rowP, List.length_append]
    omega
theorem app_bytes {l m : List Nat} (h1 : Bytes l) (h2 : Bytes m) : Bytes (l ++ m) := fun i => by
  rcases Nat.lt_or_ge i l.length with h | h
  · rw [gt_app_left h]; exact h1 i
  · rw [gt_app_right h]; exact h2 _
theorem nil_bytes : Bytes [] := fun i => by simp [gt]
theorem rowP_bytes (Hw Wd : Nat → Int) (V : Nat → Nat) (X : Nat → List Nat) : ∀ k, (∀ r, r < k → Bytes (X r)) → Bytes (rowP Hw Wd V X k) := by
  intro k
  induction k with
  | zero => intro _; exact nil_bytes
  | succ k ih =>
    intro hk
    refine app_bytes (ih fun r hr => hk r (by omega)) ?_
    have h := hk k (by omega)
    unfold partN
    split
    · split
      · exact beN_bytes _ _
      · exact nil_bytes
    · split
      · exact app_bytes (beN_bytes _ _) h
      · exact h
theorem xor8 (a b : Int) : ∃ z : Nat, z < 256 ∧ bits .xor .u8 a b = (z : Int) := by
  obtain ⟨x, hx⟩ : ∃ x : Int, bits .xor .u8 a b = IntKind.u8.wrap x := ⟨_, rfl⟩
  rw [hx, IntKind.wrap_u8]
  exact ⟨(x % 256).toNat, by omega, by omega⟩
/-- What row answers. -/
def RowSaid (e : TypeId) (w w' : World) (n : Nat) (L : Nat → Nat) (l : List Nat) (en : Ending) : Prop :=
  ∃ u b, en = .returned (.tuple #[u, .bool b]) ∧ Below w.heap.size w w' ∧ (b = true → n ≤ 40 ∧ (∀ r, r < n → L r ≤ 100) ∧ w'.ownsRow w.heap.size e 1 u l.length (u8s l))
set_option maxRecDepth 100000 in
set_option maxHeartbeats 1000000 in
theorem row_t (p : Option Addr) (n c : Nat) (Hw Wd : Nat → Int) (V : Nat → Nat) (A : Nat → Option Addr) (L C : Nat → Nat) (X : Nat → List Nat) (w : World) (h : Parts w p n Hw Wd V A L C X) (hn : n ≤ 1048576) :
    Calls Try.prog 14 #[.slice p n c] w fun e w' => RowSaid 5 w w' n L (rowP Hw Wd V X n) e := by
  have H := Lib.hid h
  clear h
  go_enter Try.func14, Try.ntmps14
  go_wp2_with fail
  go_loopw [4, 5] (fun o i wr => ∃ k : Nat, k ≤ n ∧ i = .int .i64 k ∧ wr.ownsRow w.heap.size 5 1 o (rowP Hw Wd V X k).length (u8s (rowP Hw Wd V X k)) ∧ Below w.heap.size w wr ∧ ∀ r, r < k → (X r).length ≤ 100) (fun _ i _ => n - (intOf i).toNat)
  case atStart => exact ⟨0, by omega, rfl, nil_own _ _, Below.refl _ _, fun r hr => by omega⟩
  case round =>
    obtain ⟨k, hk, rfl, ho, hb, hs⟩ := hrel
    by_cases hlt : k < n
    · obtain ⟨bb, oo, rfl, hbl, c0, c1, c2, c3⟩ := (H.out.below hb).cell k hlt
      have hXL := H.out.len k hlt
      have hmx := H.out.max k hlt
      have hHw := H.out.how k hlt
      have hWd := H.out.wide k hlt
      have hV := H.out.val k hlt
      have hrl := rowP_len Hw Wd V X k hs
      have i0 : (k : Int) < (n : Int) := by omega
      have HO := Lib.hid ho; have HB := Lib.hid hb; have HS := Lib.hid hs; have HXL := Lib.hid hXL; have HRL := Lib.hid hrl
      clear ho hb hs hXL hrl
      by_cases h100 : 100 < L k
      · go_wp2_with fail
        go_ret2
        exact ⟨_, _, rfl, HB.out.alloc HB.out.size _, fun e => by cases e⟩
      · have hl100 : L k ≤ 100 := by omega
        clear h100
        by_cases h0 : Hw k = 0
        · by_cases hw8 : 1 ≤ Wd k ∧ Wd k ≤ 8
          · obtain ⟨m, hm⟩ := Int.eq_ofNat_of_zero_le (show 0 ≤ Wd k by omega)
            have hp : partN (Hw k) (Wd k) (V k) (X k) = beN (V k) m := by unfold partN; rw [if_pos h0, if_pos hw8, hm]; rfl
            rw [h0] at c0
            rw [hm] at c1
            have HP := Lib.hid hp
            have m1 : 1 ≤ m := by omega
            have m8 : m ≤ 8 := by omega
            clear hp h0 hm hw8 hHw hWd
            go_wp2_with (first
              | (go_at_call 20; refine (refnum_t (V k) m _ m1 m8).mono ?_; rintro e w2 ⟨u, rfl, o2, b2⟩; obtain ⟨A2, c2', rfl, _⟩ := own_form o2; have S2 := Lib.hid (Sr.of_own o2); have B2 := Lib.hid b2; clear o2 b2)
              | ((with_reducible refine at_op (.call { callee := .builtin .append, args := #[.tmp 30, .tmp 35], argTypes := #[27, 27] }) rfl ?_); refine append_bytes (.tmp 30) (.tmp 35) 27 rfl rfl 5 Try.underlying27 byte_info w.heap.size _ _ (rowP Hw Wd V X k) (beN (V k) m) rfl (own_below (own_below HO.out ((Below.refl _ _).alloc (Nat.le_refl _) _)) B2.out) A2 _ c2' rfl rfl S2.out (by have := HRL.out; rw [beN_length]; omega) (Nat.le_trans (Nat.le_trans HB.out.size (by simp)) B2.out.size) ?_; intro v2 w3 a1 a2 a3))
            go_roundw
            case rel =>
              have e : rowP Hw Wd V X (k + 1) = rowP Hw Wd V X k ++ beN (V k) m := by
                show rowP Hw Wd V X k ++ partN (Hw k) (Wd k) (V k) (X k) = _
                rw [HP.out]
              refine ⟨k + 1, by omega, by go_num, ?_, ?_, fun r hr => ?_⟩
              · rw [e, List.length_append]
                exact a1.out
              · exact ((HB.out.alloc HB.out.size _).trans (B2.out.mono (Nat.le_trans HB.out.size (by simp)))).grown a2.out (Nat.le_trans (Nat.le_trans HB.out.size (by simp)) B2.out.size) fun i e => (HO.out.lt i e).1
              · by_cases er : r = k
                · subst er; rw [HXL.out]; exact hl100
                · exact HS.out r (by omega)
            case measure => simp [intOf]; omega

          · have hp : partN (Hw k) (Wd k) (V k) (X k) = [] := by unfold partN; rw [if_pos h0, if_neg hw8]
            rw [h0] at c0
            have HP := Lib.hid hp; have HW := Lib.hid hw8
            clear hp h0 hw8 hHw hWd
            go_wp2_with (first
              | (go_at_call 20; refine (refnum_bad (V k) (Wd k) _ HW.out).mono ?_; rintro e w2 ⟨rfl, rfl⟩)
              | ((with_reducible refine at_op (.call { callee := .builtin .append, args := #[.tmp 30, .tmp 35], argTypes := #[27, 27] }) rfl ?_); refine append_bytes (.tmp 30) (.tmp 35) 27 rfl rfl 5 Try.underlying27 byte_info w.heap.size _ _ (rowP Hw Wd V X k) [] rfl (own_below HO.out ((Below.refl _ _).alloc (Nat.le_refl _) _)) none 0 0 rfl rfl Sr.nil (by have := HRL.out; omega) (Nat.le_trans HB.out.size (by simp)) ?_; intro v2 w3 a1 a2 a3))
            go_roundw
            case rel =>
              have e : rowP Hw Wd V X (k + 1) = rowP Hw Wd V X k ++ [] := by
                show rowP Hw Wd V X k ++ partN (Hw k) (Wd k) (V k) (X k) = _
                rw [HP.out]
              refine ⟨k + 1, by omega, by go_num, ?_, ?_, fun r hr => ?_⟩
              · rw [e, List.length_append]
                exact a1.out
              · exact (HB.out.alloc HB.out.size _).grown a2.out (Nat.le_trans HB.out.size (by simp)) fun i e => (HO.out.lt i e).1
              · by_cases er : r = k
                · subst er; rw [HXL.out]; exact hl100
                · exact HS.out r (by omega)
            case measure => simp [intOf]; omega

        · by_cases h1 : Hw k = 1
          · have hp : partN (Hw k) (Wd k) (V k) (X k) = txtN (X k) := by unfold partN; rw [if_neg h0, if_pos h1]
            rw [h1] at c0
            have HP := Lib.hid hp
            clear hp h0 h1 hHw hWd
            go_wp2_with (first
              | (go_at_call 21; refine (reftext_t (X k) (A k) (L k) (C k) _ HXL.out (((H.out.below HB.out).reads k hlt).below ((Below.refl _ _).alloc (Nat.le_refl _) _)) (by omega)).mono ?_; rintro e w2 ⟨u, rfl, o2, b2⟩; obtain ⟨A2, c2', rfl, _⟩ := own_form o2; have S2 := Lib.hid (Sr.of_own o2); have B2 := Lib.hid b2; clear o2 b2)
              | ((with_reducible refine at_op (.call { callee := .builtin .append, args := #[.tmp 41, .tmp 44], argTypes := #[27, 27] }) rfl ?_); refine append_bytes (.tmp 41) (.tmp 44) 27 rfl rfl 5 Try.underlying27 byte_info w.heap.size _ _ (rowP Hw Wd V X k) (txtN (X k)) rfl (own_below (own_below HO.out ((Below.refl _ _).alloc (Nat.le_refl _) _)) B2.out) A2 _ c2' rfl rfl S2.out (by have := HRL.out; unfold txtN; rw [List.length_append, beN_length, HXL.out]; omega) (Nat.le_trans (Nat.le_trans HB.out.size (by simp)) B2.out.size) ?_; intro v2 w3 a1 a2 a3))
            go_roundw
            case rel =>
              have e : rowP Hw Wd V X (k + 1) = rowP Hw Wd V X k ++ txtN (X k) := by
                show rowP Hw Wd V X k ++ partN (Hw k) (Wd k) (V k) (X k) = _
                rw [HP.out]
              refine ⟨k + 1, by omega, by go_num, ?_, ?_, fun r hr => ?_⟩
              · rw [e, List.length_append]
                exact a1.out
              · exact ((HB.out.alloc HB.out.size _).trans (B2.out.mono (Nat.le_trans HB.out.size (by simp)))).grown a2.out (Nat.le_trans (Nat.le_trans HB.out.size (by simp)) B2.out.size) fun i e => (HO.out.lt i e).1
              · by_cases er : r = k
                · subst er; rw [HXL.out]; exact hl100
                · exact HS.out r (by omega)
            case measure => simp [intOf]; omega
          · have hp : partN (Hw k) (Wd k) (V k) (X k) = X k := by unfold partN; rw [if_neg h0, if_neg h1]
            have t0 : (Hw k == 0) = false := by rw [beq_eq_false_iff_ne]; exact h0
            have t1 : (Hw k == 1) = false := by rw [beq_eq_false_iff_ne]; exact h1
            have HP := Lib.hid hp
            clear hp h0 h1 hHw hWd
            go_wp2_with ((with_reducible refine at_op (.call { callee := .builtin .append, args := #[.tmp 17, .tmp 19], argTypes := #[27, 27] }) rfl ?_); refine append_bytes (.tmp 17) (.tmp 19) 27 rfl rfl 5 Try.underlying27 byte_info w.heap.size _ _ (rowP Hw Wd V X k) (X k) rfl (own_below HO.out ((Below.refl _ _).alloc (Nat.le_refl _) _)) (A k) (L k) (C k) rfl HXL.out (((H.out.below HB.out).reads k hlt).below ((Below.refl _ _).alloc (Nat.le_refl _) _)) (by have := HRL.out; omega) (Nat.le_trans HB.out.size (by simp)) ?_; intro v2 w3 a1 a2 a3)
            go_roundw
            case rel =>
              have e : rowP Hw Wd V X (k + 1) = rowP Hw Wd V X k ++ X k := by
                show rowP Hw Wd V X k ++ partN (Hw k) (Wd k) (V k) (X k) = _
                rw [HP.out]
              refine ⟨k + 1, by omega, by go_num, ?_, ?_, fun r hr => ?_⟩
              · rw [e, List.length_append, HXL.out]
                exact a1.out
              · exact (HB.out.alloc HB.out.size _).grown a2.out (Nat.le_trans HB.out.size (by simp)) fun i e => (HO.out.lt i e).1
              · by_cases er : r = k
                · subst er; rw [HXL.out]; exact hl100
                · exact HS.out r (by omega)
            case measure => simp [intOf]; omega

    · obtain rfl : k = n := by omega
      have hall : ∀ r, r < k → L r ≤ 100 := fun r hr => by rw [← H.out.len r hr]; exact hs r hr
      have HO := Lib.hid ho; have HB := Lib.hid hb; have HA := Lib.hid hall
      clear ho hb hs hall
      go_wp2_with fail
      go_ret2
      exact ⟨_, _, rfl, HB.out, fun e => ⟨Int.ofNat_le.1 (show ((k : Nat) : Int) ≤ ((40 : Nat) : Int) from by simpa using e), HA.out, HO.out⟩⟩
theorem text_nil (xs : List Nat) (p : Option Addr) (n c : Nat) (w : World) (hn : n ≤ 1000) (_ : xs.length = n) :
    Calls Try.prog 7 #[.pointer none, .slice p n c] w fun e w' => e = .returned (.tuple #[]) ∧ Below w.heap.size w w' := by
  have i1 : (n : Int) ≤ 1000 := by omega
  have C1 := Lib.hid (num_nil n 4 w (by omega) (by omega) (by omega))
  clear hn
  go_enter Try.func7, Try.ntmps7
  go_wp2_with fail
  refine C1.out.mono ?_
  rintro e w1 ⟨rfl, b1⟩
  have B1 := Lib.hid b1
  clear b1 C1
  go_wp2_with fail
  refine (raw_nil p n c w1).mono ?_
  rintro e w2 ⟨rfl, rfl⟩
  go_wp2_with fail
  go_end0
  exact ⟨rfl, B1.out⟩
set_option maxRecDepth 100000 in
set_option maxHeartbeats 1000000 in
theorem rows_t (p : Option Addr) (n c : Nat) (Hw Wd : Nat → Int) (V : Nat → Nat) (A : Nat → Option Addr) (L C : Nat → Nat) (X : Nat → List Nat) (w : World) (h : Parts w p n Hw Wd V A L C X) (hn : n ≤ 1048576) :
    Calls Try.prog 4 #[.slice p n c] w fun e w' => e = .returned (.bool true) ∧ Below w.heap.size w w' := by
  have H := Lib.hid h
  have RT := Lib.hid (row_t p n c Hw Wd V A L C X w h hn)
  clear h
  go_enter Try.func4, Try.ntmps4
  go_wp2_with fail
  refine RT.out.mono ?_
  rintro e w1 ⟨u, b, rfl, b1, hb⟩
  have B1 := Lib.hid b1
  clear b1 RT
  cases b
  · clear hb
    go_wp2_with (go_at_call 6; refine (told_t _).mono ?_; rintro e w2 ⟨rfl, b2⟩)
    go_ret
    exact ⟨rfl, B1.out.trans (b2.mono B1.out.size)⟩
  · obtain ⟨hn40, h100, ou⟩ := hb rfl
    clear hb
    obtain ⟨M, hM⟩ : ∃ M, (rowP Hw Wd V X n).length = M := ⟨_, rfl⟩
    rw [hM] at ou
    obtain ⟨A1, c1, rfl, _⟩ := own_form ou
    have HU := Lib.hid ou
    have HM := Lib.hid hM
    clear hM
    have H1 := Lib.hid (H.out.below B1.out)
    have H100 := Lib.hid h100
    clear ou H h100
    have hb0 : Below w1.heap.size w1 (w1.alloc (.cells #[.pointer none, .int .i64 0] 26)) := (Below.refl _ _).alloc (Nat.le_refl _) _
    go_wp2_with fail
    go_loopw [6] (fun i wr => ∃ k : Nat, k ≤ n ∧ i = .int .i64 k ∧ Wr wr (fun j => w1.heap.size ≤ j) w1.heap.size (rowP Hw Wd V X k) ∧ Below w1.heap.size w1 wr) (fun i _ => n - (intOf i).toNat)
    case atStart => exact ⟨0, by omega, rfl, Wr.new, hb0⟩
    case round =>
      clear hb0
      obtain ⟨k, hk, rfl, x, b⟩ := hrel
      by_cases hlt : k < n
      · obtain ⟨bb, oo, rfl, hbl, c0, c1', c2, c3⟩ := (H1.out.below b).cell k hlt
        have hXL := H1.out.len k hlt
        have hmx := H1.out.max k hlt
        have hHw := H1.out.how k hlt
        have hWd := H1.out.wide k hlt
        have hV := H1.out.val k hlt
        have hl100 := H100.out k hlt
        have hrl := rowP_len Hw Wd V X k fun r hr => by rw [H1.out.len r (by omega)]; exact H100.out r (by omega)
        have i0 : (k : Int) < (n : Int) := by omega
        have HX := Lib.hid x; have HB := Lib.hid b; have HXL := Lib.hid hXL; have HRL := Lib.hid hrl
        clear x b hXL hrl
        by_cases h0 : Hw k = 0
        · by_cases hw8 : 1 ≤ Wd k ∧ Wd k ≤ 8
          · obtain ⟨m, hm⟩ := Int.eq_ofNat_of_zero_le (show 0 ≤ Wd k by omega)
            have hp : partN (Hw k) (Wd k) (V k) (X k) = beN (V k) m := by unfold partN; rw [if_pos h0, if_pos hw8, hm]; rfl
            rw [h0] at c0
            rw [hm] at c1'
            have HP := Lib.hid hp
            have m1 : 1 ≤ m := by omega
            have m8 : m ≤ 8 := by omega
            clear hp h0 hm hw8 hHw hWd
            go_wp2_with fail
            refine wp_region_still_tail 10 (by kernel_rfl) (by kernel_rfl) ?_
            simp only [List.take_succ_cons, List.take_zero, List.drop_succ_cons, List.drop_zero]
            repeat (refine wpStill_step (fun K hK => ?_); go_simp; (try go_bits); refine hK _ ?_; clear hK K)
            refine wpStill_nil ?_
            go_wp2_with (go_at_call 15; refine (num_s (w0 := wr) (V k) m HX.out (Below.drew (Below.refl _ _)) HB.out.size hV m1 m8 (by have := HRL.out; omega)).mono ?_; rintro e w2 ⟨rfl, x2, b2⟩; have X2 := Lib.hid x2; have B2 := Lib.hid (HB.out.drew.trans b2); clear x2 b2)
            go_roundw
            case rel =>
              have e : rowP Hw Wd V X (k + 1) = rowP Hw Wd V X k ++ beN (V k) m := by
                show rowP Hw Wd V X k ++ partN (Hw k) (Wd k) (V k) (X k) = _
                rw [HP.out]
              refine ⟨k + 1, by omega, by go_num, ?_, B2.out⟩
              rw [e]
              exact X2.out
            case measure => simp [intOf]; omega
          · have hp : partN (Hw k) (Wd k) (V k) (X k) = [] := by unfold partN; rw [if_pos h0, if_neg hw8]
            rw [h0] at c0
            have HP := Lib.hid hp; have HW := Lib.hid hw8
            clear hp h0 hw8 hHw hWd
            go_wp2_with fail
            refine wp_region_still_tail 10 (by kernel_rfl) (by kernel_rfl) ?_
            simp only [List.take_succ_cons, List.take_zero, List.drop_succ_cons, List.drop_zero]
            repeat (refine wpStill_step (fun K hK => ?_); go_simp; (try go_bits); refine hK _ ?_; clear hK K)
            refine wpStill_nil ?_
            go_wp2_with (go_at_call 15; refine (num_bad (some ⟨w1.heap.size, 0, none⟩) (V k) (Wd k) _ HW.out).mono ?_; rintro e w2 ⟨rfl, rfl⟩)
            go_roundw
            case rel =>
              refine ⟨k + 1, by omega, by go_num, ?_, HB.out.drew⟩
              show Wr _ _ _ (rowP Hw Wd V X k ++ partN (Hw k) (Wd k) (V k) (X k))
              rw [HP.out, List.append_nil]
              exact HX.out.below (Below.drew (Below.refl _ _))
            case measure => simp [intOf]; omega
        · by_cases h1 : Hw k = 1
          · have hp : partN (Hw k) (Wd k) (V k) (X k) = txtN (X k) := by unfold partN; rw [if_neg h0, if_pos h1]
            rw [h1] at c0
            have HP := Lib.hid hp
            clear hp h0 h1 hHw hWd
            go_wp2_with (go_at_call 7; refine (text_s (w0 := wr) (X k) (A k) (L k) (C k) HX.out (Below.refl _ _) HB.out.size HXL.out ((H1.out.below HB.out).reads k hlt) (fun hx a ha => .inl ((H1.out.reads k hlt).lt hx a ha)) (by have := HRL.out; omega)).mono ?_; rintro e w2 ⟨rfl, x2, b2⟩; have X2 := Lib.hid x2; have B2 := Lib.hid (HB.out.trans b2); clear x2 b2)
            go_roundw
            case rel =>
              have e : rowP Hw Wd V X (k + 1) = rowP Hw Wd V X k ++ txtN (X k) := by
                show rowP Hw Wd V X k ++ partN (Hw k) (Wd k) (V k) (X k) = _
                rw [HP.out]
              refine ⟨k + 1, by omega, by go_num, ?_, B2.out⟩
              rw [e]
              exact X2.out
            case measure => simp [intOf]; omega
          · have hp : partN (Hw k) (Wd k) (V k) (X k) = X k := by unfold partN; rw [if_neg h0, if_neg h1]
            have t0 : (Hw k == 0) = false := by rw [beq_eq_false_iff_ne]; exact h0
            have t1 : (Hw k == 1) = false := by rw [beq_eq_false_iff_ne]; exact h1
            have HP := Lib.hid hp
            clear hp h0 h1 hHw hWd
            go_wp2_with (go_at_call 16; refine (raw_s (w0 := wr) (X k) (A k) (L k) (C k) HX.out (Below.refl _ _) HB.out.size HXL.out ((H1.out.below HB.out).reads k hlt) (by have := HRL.out; omega)).mono ?_; rintro e w2 ⟨rfl, x2, b2⟩; have X2 := Lib.hid x2; have B2 := Lib.hid (HB.out.trans b2); clear x2 b2)
            go_roundw
            case rel =>
              have e : rowP Hw Wd V X (k + 1) = rowP Hw Wd V X k ++ X k := by
                show rowP Hw Wd V X k ++ partN (Hw k) (Wd k) (V k) (X k) = _
                rw [HP.out]
              refine ⟨k + 1, by omega, by go_num, ?_, B2.out⟩
              rw [e]
              exact X2.out
            case measure => simp [intOf]; omega
      · obtain rfl : k = n := by omega
        have hrl := rowP_len Hw Wd V X k fun r hr => by rw [H1.out.len r (by omega)]; exact H100.out r (by omega)
        have hsz : (rowP Hw Wd V X k).length ≤ 70368744177664 := by omega
        obtain ⟨T, hT⟩ : ∃ T, rowP Hw Wd V X k = T := ⟨_, rfl⟩
        have hby : Bytes (rowP Hw Wd V X k) := rowP_bytes Hw Wd V X k fun r hr => H1.out.bytes r hr
        have hTM := HM.out
        rw [hT] at x hsz HU hby hTM
        have HBY := Lib.hid hby
        have HTM := Lib.hid hTM
        clear hTM HM
        clear hby
        have HX := Lib.hid x; have HB := Lib.hid b; have HSZ := Lib.hid hsz
        clear x b hsz hk hlt hrl hT H1 H100 hn hn40
        go_wp2_with (go_at_call 9; refine (wbytes_t _ _ _ wr HX.out HSZ.out).mono ?_; rintro e w2 ⟨u, rfl, o2, b2⟩; obtain ⟨A2, c2, rfl, _⟩ := own_form o2; have O2 := Lib.hid o2; have B2 := Lib.hid (HB.out.trans (b2.mono HB.out.size)); have BB2 := Lib.hid b2; clear o2 b2)
        have hXT := HX.out.there
        have XW := Lib.hid (hXT.below BB2.out)
        have HU2 := Lib.hid (own_below HU.out ((HB.out.trans (BB2.out.mono HB.out.size))))
        have o2 := own_base O2.out (base' := wr.heap.size) fun i e => (O2.out.lt i e).1
        have OO := Lib.hid o2
        have hwr := HB.out.size
        have i9 : (T.length : Int) ≤ 70368744177664 := by have := HSZ.out; omega
        clear hXT o2
        obtain ⟨wo, rfl⟩ : ∃ x : World, x = wr := ⟨_, rfl⟩
        go_loopw [8] (fun i wx => ∃ (j : Nat) (ys : List Nat), j ≤ T.length ∧ i = .int .i64 j ∧ wx.ownsRow wo.heap.size 5 1 (.slice A2 T.length c2) T.length (u8s ys) ∧ Bytes ys ∧ Kept (fun q => wo.heap.size ≤ q) w2 wx) (fun i _ => T.length - (intOf i).toNat)
        case atStart => exact ⟨0, T, by omega, rfl, OO.out, HBY.out, Kept.refl _ _⟩
        case round =>
          clear OO HBY
          obtain ⟨j, ys, hj, rfl, ho, hy, hk⟩ := hrel
          by_cases hlt : j < T.length
          · obtain ⟨g, cp, hv, hg, hgl⟩ := ho.form (by omega)
            injection hv with e1 e2 e3
            subst e1 e3
            have hyl : ys.length = T.length := by have := ho.1; rw [u8s_length] at this; omega
            have d0 : wr.cell? ⟨g, j, none⟩ = some (.int .u8 ((gt ys j : Nat) : Int)) := by rw [ho.cellAt j (by omega), u8s_get _ _ (by omega)]
            have f0 : wr.frozen? ⟨g, j, none⟩ = false := ho.frozenAt j
            have y0 := hy j
            have i0 : (j : Int) < (T.length : Int) := by omega
            have HO := Lib.hid ho; have HY := Lib.hid hy; have HK := Lib.hid hk
            clear ho hy hk
            go_wp2_with fail
            go_roundw
            case rel =>
              obtain ⟨z, hz, ez⟩ := xor8 (if IntKind.u8.signed = true then -1 else IntKind.u8.max) ((gt ys j : Nat) : Int)
              rw [ez]
              obtain ⟨s1, s2⟩ := HO.out.stored j (.int .u8 (z : Int))
              rw [u8s_set] at s1
              refine ⟨j + 1, ys.set j z, by omega, by go_num, s1, fun i => ?_, HK.out.grown s2 fun q e => ?_⟩
              · rcases Nat.lt_or_ge i ys.length with h | h
                · by_cases e : j = i
                  · subst e; rw [gt_of_lt (by simpa using h)]; simpa using hz
                  · have : gt (ys.set j z) i = gt ys i := by simp [gt, List.getD_eq_getElem?_getD, e]
                    rw [this]; exact HY.out i
                · rw [gt_out (by simpa using h)]; decide
              · injection e with e
                subst e
                exact .inl hg
            case measure => simp [intOf]; omega
          · obtain rfl : j = T.length := by omega
            have hkb : Below wo.heap.size w2 wr := hk.to_below (BB2.out.size)
            have hw1 : w1.heap.size ≤ wo.heap.size := hwr
            have XR := Lib.hid (XW.out.stays hk fun q e => by have := e.2; omega)
            have HUR := Lib.hid (own_kept HU2.out hk fun q e => by have := (HU.out.lt q e).2; omega)
            have BR := Lib.hid (B2.out.trans (hkb.mono hw1))
            have bR1 : Below w1.heap.size w1 wr := BR.out
            clear ho hy hk hkb XW HU2 B2 BB2
            have kc := fun (w : World) (C : Array Value) (n c : Nat) => Lib.run_convert_bytes_const (P := Try.prog) w 27 5 C n c Try.underlying27 Try.underlying5
            go_wp2_with fail
            refine (num_nil 1 1 wr (by omega) (by omega) (by omega)).mono ?_
            rintro e wa ⟨rfl, ba⟩
            have BA := Lib.hid ba
            clear ba
            go_wp2_with fail
            refine (text_nil [97] (some ⟨wa.heap.size, 0, none⟩) 1 1 _ (by omega) rfl).mono ?_
            rintro e wb ⟨rfl, bb⟩
            have b2 : Below wr.heap.size wr wb := BA.out.trans ((((Below.refl _ wa).alloc (Nat.le_refl _) _).trans (bb.mono (by simp))).mono BA.out.size)
            have BB := Lib.hid b2
            clear bb b2 BA
            go_wp2_with fail
            refine (raw_nil (some ⟨wb.heap.size, 0, none⟩) 1 1 _).mono ?_
            rintro e wc ⟨rfl, hwc⟩
            have b3 : Below wr.heap.size wr wc := by rw [← hwc]; exact BB.out.alloc BB.out.size _
            have XC := Lib.hid (XR.out.below b3)
            have UC := Lib.hid (own_below HUR.out b3)
            have BC := Lib.hid (B1.out.trans ((BR.out.trans (b3.mono BR.out.size)).mono B1.out.size))
            clear hwc b3 BB XR HUR BR kc bR1
            go_wp2_with fail
            have s0 : (convert 27 9 (.slice A1 M c1)).run Try.prog wc.drew = .ok (.string (str T)) wc.drew := (Sr.of_own (show wc.drew.ownsRow _ _ _ _ _ _ from UC.out)).conv HTM.out c1
            have t3 : ((str T).toList == (str T).toList) = true := beq_self_eq_true _
            refine wp_region_held (S := fun W => (convert 27 9 (.slice A1 M c1)).run Try.prog W = .ok (.string (str T)) W) (by kernel_rfl) ?_
            change wpAnyH _ _ _ _ _ _ _ _ wc.drew
            refine wpAnyH_ready (rs := [0]) (by kernel_rfl) (by simp) ?_
            refine AllReadyH.cons rfl (fun K hK => ?_) AllReadyH.nil
            go_simp
            refine (told_t wc.drew).mono ?_
            rintro e wd ⟨rfl, bd⟩
            have bd' : Below wc.heap.size wc wd := (Below.drew (Below.refl _ _)).trans bd
            have XD := Lib.hid (XC.out.below bd')
            have UD := Lib.hid (own_below UC.out bd')
            have BD := Lib.hid (BC.out.trans (bd'.mono BC.out.size))
            have s1 : (convert 27 9 (.slice A1 M c1)).run Try.prog wd = .ok (.string (str T)) wd := (Sr.of_own UD.out).conv HTM.out c1
            clear bd bd' s0 XC UC BC
            refine hK.out _ _ s1 (fun _ => ?_)
            clear hK K
            refine wpAnyH_take (i := 1) (v := ?_) rfl (by kernel_rfl) (by kernel_rfl) (by kernel_rfl) (fun _ _ _ h => h) (Or.inl ⟨by kernel_rfl, ?_⟩) s1 ?_
            rotate_left 1
            · (intro w hS; go_simp; try (with_reducible rfl))
            refine wpAnyH_take (i := 4) (v := ?_) rfl (by kernel_rfl) (by kernel_rfl) (by kernel_rfl) (fun _ _ _ h => h) (Or.inl ⟨by kernel_rfl, ?_⟩) s1 ?_
            rotate_left 1
            · (intro w hS; go_simp; try (with_reducible rfl))
            refine wpAnyH_take (i := 5) (v := ?_) rfl (by kernel_rfl) (by kernel_rfl) (by kernel_rfl) (fun _ _ _ h => h) (Or.inl ⟨by kernel_rfl, ?_⟩) s1 ?_
            rotate_left 1
            · (intro w hS; go_simp; try (with_reducible rfl))
            refine wpAnyH_ready (rs := [2]) (by kernel_rfl) (by simp) ?_
            refine AllReadyH.cons rfl (fun K hK => ?_) AllReadyH.nil
            go_simp
            refine (wbytes_t _ _ _ wd XD.out HSZ.out).mono ?_
            rintro e we ⟨u, rfl, oe, be⟩
            obtain ⟨A9, c9, rfl, _⟩ := own_form oe
            have UE := Lib.hid (own_below UD.out be)
            have BE := Lib.hid (BD.out.trans (be.mono BD.out.size))
            have s2 : (convert 27 9 (.slice A1 M c1)).run Try.prog we = .ok (.string (str T)) we := (Sr.of_own UE.out).conv HTM.out c1
            have s3 : (convert 27 9 (.slice A9 T.length c9)).run Try.prog we = .ok (.string (str T)) we := (Sr.of_own oe).conv rfl c9
            clear s1 oe be UD BD XD
            refine hK.out _ _ s2 (fun _ => ?_)
            clear hK K
            refine wpAnyH_ready (rs := [3]) (by kernel_rfl) (by simp) ?_
            refine AllReadyH.cons rfl (fun K hK => ?_) AllReadyH.nil
            go_simp
            refine hK.out _ _ s2 (fun _ => ?_)
            clear hK K s3
            refine wpAnyH_take (i := 6) (v := ?_) rfl (by kernel_rfl) (by kernel_rfl) (by kernel_rfl) (fun _ _ _ h => h) (Or.inl ⟨by kernel_rfl, ?_⟩) s2 ?_
            rotate_left 1
            · (intro w hS; go_simp; try (with_reducible rfl))
            refine wpAnyH_take (i := 7) (v := ?_) rfl (by kernel_rfl) (by kernel_rfl) (by kernel_rfl) (fun _ _ _ h => h) (Or.inl ⟨by kernel_rfl, ?_⟩) s2 ?_
            rotate_left 1
            · (intro w hS; go_simp; try (with_reducible rfl))
            refine wpAnyH_take (i := 8) (v := ?_) rfl (by kernel_rfl) (by kernel_rfl) (by kernel_rfl) (fun _ _ _ h => h) (Or.inl ⟨by kernel_rfl, ?_⟩) s2 ?_
            rotate_left 1
            · (intro w hS; go_simp; try (with_reducible rfl))
            refine wpAnyH_take (i := 9) (v := ?_) rfl (by kernel_rfl) (by kernel_rfl) (by kernel_rfl) (fun _ _ _ h => h) (Or.inl ⟨by kernel_rfl, ?_⟩) s2 ?_
            rotate_left 1
            · (intro w hS; go_simp; try (with_reducible rfl))
            refine wpAnyH_ready (rs := [10]) (by kernel_rfl) (by simp) ?_
            refine AllReadyH.cons rfl (fun K hK => ?_) AllReadyH.nil
            go_simp
            refine (wbytes_nil we).mono ?_
            rintro e w0 ⟨rfl, rfl⟩
            refine hK.out _ _ s2 (fun _ => ?_)
            clear hK K
            refine wpAnyH_take (i := 11) (v := ?_) rfl (by kernel_rfl) (by kernel_rfl) (by kernel_rfl) (fun _ _ _ h => h) (Or.inl ⟨by kernel_rfl, ?_⟩) s2 ?_
            rotate_left 1
            · (intro w hS; go_simp; try (with_reducible rfl))
            refine wpAnyH_take (i := 12) (v := ?_) rfl (by kernel_rfl) (by kernel_rfl) (by kernel_rfl) (fun _ _ _ h => h) (Or.inl ⟨by kernel_rfl, ?_⟩) s2 ?_
            rotate_left 1
            · (intro w hS; go_simp; try (with_reducible rfl))
            refine wpAnyH_take (i := 13) (v := ?_) rfl (by kernel_rfl) (by kernel_rfl) (by kernel_rfl) (fun _ _ _ h => h) (Or.inl ⟨by kernel_rfl, ?_⟩) s2 ?_
            rotate_left 1
            · (intro w hS; go_simp; try (with_reducible rfl))
            refine wpAnyH_take (i := 14) (v := ?_) rfl (by kernel_rfl) (by kernel_rfl) (by kernel_rfl) (fun _ _ _ h => h) (Or.inl ⟨by kernel_rfl, ?_⟩) s2 ?_
            rotate_left 1
            · (intro w hS; go_simp; try (with_reducible rfl))
            refine wpAnyH_done (by kernel_rfl) ?_ _
            clear s2 t3
            go_simp
            go_wp2_with fail
            go_ret
            exact ⟨rfl, BE.out⟩
end Go.Proofs.Ythgfghphceikbaa
