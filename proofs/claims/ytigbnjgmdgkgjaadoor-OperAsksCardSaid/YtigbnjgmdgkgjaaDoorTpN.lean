/-
  PACKAGE tuple, what is pure: what Put lays is what Get reads, and nothing else is.
-/
import Derived.Test.YtigbnjgmdgkgjaaDoorTpH
namespace Go.Proofs.YtigbnjgmdgkgjaaDoor
open Go Go.RowKit Sh

theorem beN_valT : ∀ (n : Nat) (l : List Nat), l.length = n → Bytes l → beN (val l) n = l
  | 0, l, h, _ => by
    obtain rfl := List.eq_nil_of_length_eq_zero h
    rfl
  | n + 1, l, h, hb => by
    obtain ⟨m, b, rfl⟩ : ∃ m b, l = m ++ [b] := ⟨l.dropLast, l.getLast (by intro e; rw [e] at h; cases h), (List.dropLast_concat_getLast _).symm⟩
    have hm : m.length = n := by simpa using h
    have hb' : b < 256 := by
      have := hb m.length
      rwa [gt_app_right (Nat.le_refl _), Nat.sub_self] at this
    have hbm : Bytes m := by
      have := bytes_take hb m.length
      rwa [List.take_left'] at this
      rfl
    rw [val_snoc, beN_snoc, show (val m * 256 + b) / 256 = val m by omega, show (val m * 256 + b) % 256 = b by omega, beN_valT n m hm hbm]
theorem str_bs (s : ByteArray) : str (bs s) = s := by
  unfold str bs strOfNums
  rw [ByteArray.toList_eq]
  obtain ⟨⟨l⟩⟩ := s
  simp only [List.map_map]
  have : List.map ((fun (n : Int) => UInt8.ofNat n.toNat) ∘ (fun (n : Nat) => (n : Int)) ∘ UInt8.toNat) l = l := by
    conv => rhs; rw [← List.map_id l]
    exact List.map_congr_left (fun x _ => by simp)
  exact congrArg (fun x => ByteArray.mk (List.toArray x)) this
theorem bs_str (l : List Nat) (h : Bytes l) : bs (str l) = l := by
  unfold str bs strOfNums
  rw [ByteArray.toList_eq]
  simp only [List.map_map]
  conv => rhs; rw [← List.map_id l]
  refine List.map_congr_left (fun x hx => ?_)
  obtain ⟨i, hi, rfl⟩ := List.getElem_of_mem hx
  have := h i
  rw [gt_of_lt hi] at this
  simp
  omega
/-- A field whose number is one. -/
def InR (f : Fld) : Prop := -9223372036854775808 ≤ f.n ∧ f.n ≤ 9223372036854775807
theorem wrap_back (n : Int) (h : -9223372036854775808 ≤ n ∧ n ≤ 9223372036854775807) : IntKind.i64.wrap (((IntKind.u64.wrap n).toNat : Nat) : Int) = n := by
  simp only [IntKind.wrap, IntKind.bits, IntKind.signed]
  simp
  omega
theorem wrap_forth (v : Nat) (h : v < 18446744073709551616) : (IntKind.u64.wrap (IntKind.i64.wrap (v : Int))).toNat = v := by
  simp only [IntKind.wrap, IntKind.bits, IntKind.signed]
  simp
  omega
theorem rNum_front (v n : Nat) (ys : List Nat) (bad : Bool) (hv : v < 256 ^ n) : rNum (beN v n ++ ys) bad n = (v, ys, bad) := by
  unfold rNum
  rw [if_neg (by rw [List.length_append, beN_length]; omega)]
  rw [List.take_left' (beN_length v n), List.drop_left' (beN_length v n), val_beN, Nat.mod_eq_of_lt hv]
theorem rTxt_front (l ys : List Nat) (bad : Bool) (hl : l.length ≤ 40) : rTxt (txtN l ++ ys) bad 40 = (l, ys, bad) := by
  unfold rTxt
  rw [txt_len l (by omega), txt_rest]
  rw [if_pos ⟨by rw [List.length_append, txtN, List.length_append, beN_length]; omega, hl, by rw [List.length_append, txtN, List.length_append, beN_length]; omega⟩]
  rw [List.take_left' rfl, List.drop_left' rfl]
theorem eS_of (s : ByteArray) (h : s.toList.isEmpty = true) : s = eS := by
  rw [ByteArray.toList_eq] at h
  obtain ⟨⟨l⟩⟩ := s
  have : l = [] := by simpa using h
  subst this
  rfl
/-- What is laid is read. -/
theorem rFld_front (f : Fld) (ys : List Nat) (bad : Bool) (h : okP f = true) (hr : InR f) : rFld (putF f ++ ys) bad = (f, ys, bad) := by
  obtain ⟨hk, hs⟩ := okP_kinds f h
  obtain ⟨k, n, s⟩ := f
  have hn0 : rNum (putF ⟨k, n, s⟩ ++ ys) bad 1 = (k.toNat, ((if k = 1 then beN (IntKind.u64.wrap n).toNat 8 else if k = 2 then txtN (bs s) else []) ++ ys), bad) := by
    unfold putF
    rw [List.append_assoc]
    exact rNum_front _ _ _ _ (by show k.toNat < 256; have : k = 1 ∨ k = 2 ∨ k = 3 ∨ k = 4 ∨ k = 5 := hk; omega)
  unfold rFld
  rw [hn0]
  simp only
  rcases hk with hk | hk | hk
  · obtain rfl : k = 1 := hk
    have hse : s = eS := eS_of s (by simpa [okP, okV] using h)
    subst hse
    rw [if_pos (show Int.toNat 1 = 1 from rfl), if_pos rfl, rNum_front _ 8 _ _ (by
      have : (IntKind.u64.wrap n).toNat < 18446744073709551616 := by simp [IntKind.wrap, IntKind.bits, IntKind.signed]; omega
      exact this)]
    simp only [wrap_back n hr]
  · obtain rfl : k = 2 := hk
    have hn : n = 0 := by
      have h' := h
      simp [okP, okV] at h'
      exact h'.1
    subst hn
    have h40 : s.size ≤ 40 := hs rfl
    rw [if_neg (show ¬ Int.toNat 2 = 1 by decide), if_pos (show Int.toNat 2 = 2 from rfl), if_neg (show ¬ (2 : Int) = 1 by decide), if_pos rfl, rTxt_front (bs s) ys bad (by rw [bs_length]; exact h40)]
    simp only [str_bs]
  · have hz : n = 0 ∧ s = eS := by
      have h3 : (Fld.mk k n s).k = 3 ∨ (Fld.mk k n s).k = 4 ∨ (Fld.mk k n s).k = 5 := hk
      unfold okP at h
      rw [if_pos h3, Bool.and_eq_true, beq_iff_eq] at h
      exact ⟨h.1, eS_of s h.2⟩
    obtain ⟨rfl, rfl⟩ := hz
    have h3 : k = 3 ∨ k = 4 ∨ k = 5 := hk
    rw [if_neg (by omega), if_neg (by omega), if_neg (by omega), if_neg (by omega), List.nil_append]
    rw [show ((k.toNat : Nat) : Int) = k by omega]
theorem rNum_back {xs ys : List Nat} {bad : Bool} {n v : Nat} (hb : Bytes xs) (h : rNum xs bad n = (v, ys, false)) : xs = beN v n ++ ys ∧ bad = false ∧ v < 256 ^ n ∧ Bytes ys := by
  have h0 := rNum_bytes xs bad n hb
  unfold rNum at h
  split at h
  · simp at h
  · rename_i hn
    simp only [Prod.mk.injEq] at h
    obtain ⟨rfl, rfl, rfl⟩ := h
    have ht : (xs.take n).length = n := by rw [List.length_take]; omega
    refine ⟨?_, rfl, ?_, bytes_drop hb n⟩
    · rw [beN_valT n _ ht (bytes_take hb n), List.take_append_drop]
    · have := val_lt (xs.take n) (bytes_take hb n)
      rwa [ht] at this
theorem rTxt_back {xs ys l : List Nat} {bad : Bool} (hb : Bytes xs) (h : rTxt xs bad 40 = (l, ys, false)) : xs = txtN l ++ ys ∧ bad = false ∧ Bytes l ∧ l.length ≤ 40 := by
  unfold rTxt at h
  split at h
  · rename_i hn
    simp only [Prod.mk.injEq] at h
    obtain ⟨rfl, rfl, rfl⟩ := h
    have h4 : (xs.take 4).length = 4 := by rw [List.length_take]; omega
    have hl : ((xs.drop 4).take (val (xs.take 4))).length = val (xs.take 4) := by rw [List.length_take, List.length_drop]; omega
    refine ⟨?_, rfl, bytes_take (bytes_drop hb 4) _, by rw [hl]; exact hn.2.1⟩
    rw [txtN, hl, beN_valT 4 _ h4 (bytes_take hb 4), List.append_assoc, List.take_append_drop, List.take_append_drop]
  · simp at h
/-- What is read was laid. -/
theorem rFld_back {xs ys : List Nat} {bad : Bool} {f : Fld} (hb : Bytes xs) (h : rFld xs bad = (f, ys, false)) : xs = putF f ++ ys ∧ bad = false ∧ InR f := by
  unfold rFld at h
  obtain ⟨⟨k, y1, b1⟩, hR⟩ : ∃ r, rNum xs bad 1 = r := ⟨_, rfl⟩
  simp only [hR] at h
  split at h
  · rename_i hk
    subst hk
    obtain ⟨⟨v, y2, b2⟩, hR2⟩ : ∃ r, rNum y1 b1 8 = r := ⟨_, rfl⟩
    simp only [hR2] at h
    simp only [Prod.mk.injEq] at h
    obtain ⟨rfl, rfl, rfl⟩ := h
    have hb1 : Bytes y1 := by have := (rNum_bytes xs bad 1 hb).1; rwa [hR] at this
    obtain ⟨e2, rfl, hv, _⟩ := rNum_back hb1 hR2
    obtain ⟨e1, rfl, _, _⟩ := rNum_back hb hR
    have hv2 : v < 18446744073709551616 := hv
    refine ⟨?_, rfl, ?_⟩
    · rw [e1, e2]
      unfold putF
      show _ = beN 1 1 ++ (if (1 : Int) = 1 then beN (IntKind.u64.wrap (IntKind.i64.wrap (v : Int))).toNat 8 else _) ++ y2
      rw [if_pos rfl, wrap_forth v hv2, List.append_assoc]
    · show _ ≤ IntKind.i64.wrap (v : Int) ∧ IntKind.i64.wrap (v : Int) ≤ _
      simp only [IntKind.wrap, IntKind.bits, IntKind.signed]
      simp
      omega
  · rename_i hk1
    split at h
    · rename_i hk
      subst hk
      obtain ⟨⟨l, y2, b2⟩, hR2⟩ : ∃ r, rTxt y1 b1 40 = r := ⟨_, rfl⟩
      simp only [hR2] at h
      simp only [Prod.mk.injEq] at h
      obtain ⟨rfl, rfl, rfl⟩ := h
      have hb1 : Bytes y1 := by have := (rNum_bytes xs bad 1 hb).1; rwa [hR] at this
      obtain ⟨e2, rfl, hl, _⟩ := rTxt_back hb1 hR2
      obtain ⟨e1, rfl, _, _⟩ := rNum_back hb hR
      refine ⟨?_, rfl, (show (-9223372036854775808 : Int) ≤ 0 ∧ (0 : Int) ≤ 9223372036854775807 by decide)⟩
      rw [e1, e2]
      unfold putF
      show _ = beN 2 1 ++ (if (2 : Int) = 1 then _ else if (2 : Int) = 2 then txtN (bs (str l)) else _) ++ y2
      rw [if_neg (by decide), if_pos rfl, bs_str l hl, List.append_assoc]
    · rename_i hk2
      simp only [Prod.mk.injEq] at h
      obtain ⟨rfl, rfl, rfl⟩ := h
      obtain ⟨e1, rfl, _, _⟩ := rNum_back hb hR
      refine ⟨?_, rfl, (show (-9223372036854775808 : Int) ≤ 0 ∧ (0 : Int) ≤ 9223372036854775807 by decide)⟩
      rw [e1]
      unfold putF
      show _ = beN (k : Int).toNat 1 ++ (if (k : Int) = 1 then _ else if (k : Int) = 2 then _ else []) ++ y1
      rw [if_neg (by omega), if_neg (by omega), List.append_nil, Int.toNat_natCast]
theorem stN_front (G : Nat → Fld) (bad : Bool) : ∀ (m : Nat) (rest : List Nat), (∀ j, j < m → okP (G j) = true ∧ InR (G j)) → stN (catF G m ++ rest) bad m = (rest, bad) ∧ ∀ j, j < m → fldN (catF G m ++ rest) bad j = G j
  | 0, rest, _ => ⟨by simp [catF, stN], fun j hj => absurd hj (by omega)⟩
  | m + 1, rest, h => by
    obtain ⟨h1, h2⟩ := stN_front G bad m (putF (G m) ++ rest) (fun j hj => h j (by omega))
    rw [catF, List.append_assoc]
    have hf := rFld_front (G m) rest bad (h m (by omega)).1 (h m (by omega)).2
    refine ⟨?_, fun j hj => ?_⟩
    · rw [stN, h1]
      simp only [hf]
    · rcases Nat.lt_or_ge j m with hlt | hge
      · exact h2 j hlt
      · obtain rfl : j = m := by omega
        unfold fldN
        rw [h1]
        simp only [hf]
theorem stN_back (xs : List Nat) (bad : Bool) (hb : Bytes xs) : ∀ m, (stN xs bad m).2 = false → xs = catF (fldN xs bad) m ++ (stN xs bad m).1 ∧ bad = false ∧ ∀ j, j < m → InR (fldN xs bad j)
  | 0, h => ⟨by simp [catF, stN], h, fun j hj => absurd hj (by omega)⟩
  | m + 1, h => by
    have hr : rFld (stN xs bad m).1 (stN xs bad m).2 = (fldN xs bad m, (stN xs bad (m + 1)).1, false) := by
      rw [← h]
      rfl
    obtain ⟨e1, e2, e3⟩ := rFld_back (stN_bytes xs bad hb m).1 hr
    obtain ⟨i1, i2, i3⟩ := stN_back xs bad hb m e2
    refine ⟨?_, i2, fun j hj => ?_⟩
    · rw [catF, List.append_assoc, ← e1]; exact i1
    · rcases Nat.lt_or_ge j m with hlt | hge
      · exact i3 j hlt
      · obtain rfl : j = m := by omega
        exact e3
theorem allN_congr {B C : Nat → Bool} : ∀ n, (∀ j, j < n → B j = C j) → allN B n = allN C n
  | 0, _ => rfl
  | n + 1, h => by rw [allN, allN, allN_congr n (fun j hj => h j (by omega)), h n (by omega)]
theorem mayP_congr {n : Nat} {G H : Nat → Fld} (h : ∀ j, j < n → G j = H j) : mayP n G = mayP n H := by
  unfold mayP
  rw [allN_congr n (fun j hj => by rw [h j hj])]
theorem catF_congr {G H : Nat → Fld} : ∀ n, (∀ j, j < n → G j = H j) → catF G n = catF H n
  | 0, _ => rfl
  | n + 1, h => by rw [catF, catF, catF_congr n (fun j hj => h j (by omega)), h n (by omega)]
/-- What Put lays is what Get reads. -/
theorem get_front {n : Nat} {G : Nat → Fld} (ex : List Nat) (h : mayP n G = true) (hr : ∀ j, j < n → InR (G j)) : cntN (putN n G ++ ex) = n ∧ (∀ j, j < n → gotN (putN n G ++ ex) j = G j) ∧ endG (putN n G ++ ex) = endN ex false := by
  obtain ⟨h1, h6, hk⟩ := mayP_iff h
  have hn : rNum (putN n G ++ ex) false 1 = (n, catF G n ++ ex, false) := by
    rw [putN, List.append_assoc]
    exact rNum_front n 1 _ _ (by show n < 256; omega)
  obtain ⟨s1, s2⟩ := stN_front G false n ex (fun j hj => ⟨hk j hj, hr j hj⟩)
  have hc : cntN (putN n G ++ ex) = n := by unfold cntN; rw [hn]
  refine ⟨hc, fun j hj => ?_, ?_⟩
  · unfold gotN
    rw [hn]
    exact s2 j hj
  · unfold endG
    rw [hc, hn]
    simp only [s1]
theorem get_front_ok {n : Nat} {G : Nat → Fld} (h : mayP n G = true) (hr : ∀ j, j < n → InR (G j)) : getOK (putN n G) = true ∧ cntN (putN n G) = n ∧ ∀ j, j < n → gotN (putN n G) j = G j := by
  have h0 := get_front [] h hr
  rw [List.append_nil] at h0
  refine ⟨?_, h0.1, h0.2.1⟩
  unfold getOK
  rw [h0.2.2, h0.1, mayP_congr h0.2.1, h]
  rfl
theorem get_front_no {n : Nat} {G : Nat → Fld} (ex : List Nat) (h : mayP n G = true) (hr : ∀ j, j < n → InR (G j)) (he : 0 < ex.length) : getOK (putN n G ++ ex) = false := by
  unfold getOK
  rw [(get_front ex h hr).2.2]
  have : endN ex false = 2 := by unfold endN; rw [if_pos (.inr he)]
  rw [this]
  rfl
/-- What Get reads is what Put lays. -/
theorem get_back {xs : List Nat} (hb : Bytes xs) (h : getOK xs = true) : xs = putN (cntN xs) (gotN xs) ∧ mayP (cntN xs) (gotN xs) = true ∧ ∀ j, j < cntN xs → InR (gotN xs j) := by
  unfold getOK at h
  rw [Bool.and_eq_true, decide_eq_true_eq] at h
  obtain ⟨h0, hm⟩ := h
  obtain ⟨⟨n, ys, bd⟩, hR⟩ : ∃ r, rNum xs false 1 = r := ⟨_, rfl⟩
  have hc : cntN xs = n := by unfold cntN; rw [hR]
  have hg : gotN xs = fldN ys bd := by unfold gotN; rw [hR]
  unfold endG at h0
  rw [hc, hR] at h0
  simp only at h0
  have hbs := (rNum_bytes xs false 1 hb).1
  rw [hR] at hbs
  have he : (stN ys bd n).2 = false ∧ (stN ys bd n).1 = [] := by
    unfold endN at h0
    split at h0
    · cases h0
    · rename_i hx
      refine ⟨by cases hq : (stN ys bd n).2 with
        | false => rfl
        | true => exact absurd (.inl hq) hx, List.eq_nil_of_length_eq_zero (by omega)⟩
  obtain ⟨s1, s2, s3⟩ := stN_back ys bd hbs n he.1
  rw [he.2, List.append_nil] at s1
  subst s2
  obtain ⟨e1, _, _, _⟩ := rNum_back hb hR
  refine ⟨?_, hm, ?_⟩
  · rw [hc, hg, putN, ← s1]; exact e1
  · rw [hc, hg]; exact s3
end Go.Proofs.YtigbnjgmdgkgjaaDoor
