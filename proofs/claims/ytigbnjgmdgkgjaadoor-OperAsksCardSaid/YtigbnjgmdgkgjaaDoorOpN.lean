/-
  PACKAGE oper, what is pure: requests, their bytes; what Put lays is what Get reads, and nothing else is.
-/
import Derived.Test.YtigbnjgmdgkgjaaDoorTpT
namespace Go.Proofs.YtigbnjgmdgkgjaaDoor
open Go Go.RowKit Sh

/-- A request: who, its number, its kind, how long, its two rows of fields. -/
structure Rq where
  cl : Int
  sq : Int
  kd : Int
  le : Int
  n : Nat
  G : Nat → Fld
  m : Nat
  H : Nat → Fld
def isK (k : Int) : Bool := decide (1 ≤ k) && decide (k ≤ 8)
def rdK (k : Int) : Bool := decide (2 ≤ k) && decide (k ≤ 7)
def wrK (k : Int) : Bool := (k == 1) || (k == 3) || (k == 5) || (k == 6) || (k == 7)
def brK (k : Int) : Bool := (k == 1) || (k == 6) || (k == 7)
def findB (r : Rq) : Bool := if rdK r.kd then mayP r.n r.G else decide (r.n = 0)
def bringB (r : Rq) : Bool := if brK r.kd then mayV r.m r.H && (decide (0 ≤ r.le) && decide (r.le ≤ 1099511627776)) else decide (r.m = 0) && (r.le == 0)
def headB (r : Rq) : Bool := (decide (0 ≤ r.cl) && decide (r.cl < 4)) && ((decide (1 ≤ r.sq) && decide (r.sq ≤ 1073741824)) && isK r.kd)
def mayR (r : Rq) : Bool := headB r && (findB r && bringB r)
/-- The bytes of a row of fields: none of none. -/
def pf (n : Nat) (G : Nat → Fld) : List Nat := if n = 0 then [] else putN n G
def putR (r : Rq) : List Nat := ((((beN r.cl.toNat 1 ++ beN r.sq.toNat 4) ++ beN r.kd.toNat 1) ++ beN r.le.toNat 8) ++ txtN (pf r.n r.G)) ++ txtN (pf r.m r.H)
def sameR (r s : Rq) : Bool := (r.cl == s.cl) && ((r.sq == s.sq) && ((r.kd == s.kd) && ((r.le == s.le) && (sameN r.n r.G s.n s.G && sameN r.m r.H s.m s.H))))
structure InRq (r : Rq) : Prop where
  p : ∀ j, j < r.n → InR (r.G j)
  t : ∀ j, j < r.m → InR (r.H j)
def fOK (l : List Nat) : Bool := l.isEmpty || getOK l
def fN (l : List Nat) : Nat := if getOK l then cntN l else 0
def q1 (xs : List Nat) := rNum xs false 1
def q2 (xs : List Nat) := rNum (q1 xs).2.1 (q1 xs).2.2 4
def q3 (xs : List Nat) := rNum (q2 xs).2.1 (q2 xs).2.2 1
def q4 (xs : List Nat) := rNum (q3 xs).2.1 (q3 xs).2.2 8
def q5 (xs : List Nat) := rTxt (q4 xs).2.1 (q4 xs).2.2 (q4 xs).2.1.length
def q6 (xs : List Nat) := rTxt (q5 xs).2.1 (q5 xs).2.2 (q5 xs).2.1.length
def gotR (xs : List Nat) : Rq := ⟨((q1 xs).1 : Int), ((q2 xs).1 : Int), ((q3 xs).1 : Int), IntKind.i64.wrap ((q4 xs).1 : Int), fN (q5 xs).1, gotN (q5 xs).1, fN (q6 xs).1, gotN (q6 xs).1⟩
def okR (xs : List Nat) : Bool := fOK (q5 xs).1 && (fOK (q6 xs).1 && (decide (endN (q6 xs).2.1 (q6 xs).2.2 = 0) && mayR (gotR xs)))

theorem okV_P {f : Fld} (h : okV f = true) : okP f = true := by
  unfold okP
  rw [if_neg]
  · exact h
  · unfold okV at h
    split at h
    · omega
    · split at h
      · omega
      · cases h
theorem mayV_P {n : Nat} {G : Nat → Fld} (h : mayV n G = true) : mayP n G = true := by
  unfold mayV at h
  rw [Bool.and_eq_true] at h
  unfold mayP
  rw [h.1, Bool.true_and]
  exact (allN_iff _ n).2 (fun j hj => okV_P ((allN_iff _ n).1 h.2 j hj))
theorem rTxt_frontG (l ys : List Nat) (bad : Bool) (most : Nat) (hl : l.length ≤ most) (h4 : l.length < 4294967296) : rTxt (txtN l ++ ys) bad most = (l, ys, bad) := by
  unfold rTxt
  rw [txt_len l h4, txt_rest]
  rw [if_pos ⟨by rw [List.length_append, txtN, List.length_append, beN_length]; omega, hl, by rw [List.length_append, txtN, List.length_append, beN_length]; omega⟩]
  rw [List.take_left' rfl, List.drop_left' rfl]
theorem rTxt_backG {xs ys l : List Nat} {bad : Bool} {most : Nat} (hb : Bytes xs) (h : rTxt xs bad most = (l, ys, false)) : xs = txtN l ++ ys ∧ bad = false ∧ Bytes l ∧ Bytes ys := by
  unfold rTxt at h
  split at h
  · rename_i hn
    simp only [Prod.mk.injEq] at h
    obtain ⟨rfl, rfl, rfl⟩ := h
    have h4 : (xs.take 4).length = 4 := by rw [List.length_take]; omega
    have hl : ((xs.drop 4).take (val (xs.take 4))).length = val (xs.take 4) := by rw [List.length_take, List.length_drop]; omega
    refine ⟨?_, rfl, bytes_take (bytes_drop hb 4) _, bytes_drop (bytes_drop hb 4) _⟩
    rw [txtN, hl, beN_valT 4 _ h4 (bytes_take hb 4), List.append_assoc, List.take_append_drop, List.take_append_drop]
  · simp at h
theorem mayP_pos {n : Nat} {G : Nat → Fld} (h : mayP n G = true) : n ≠ 0 := by have := (mayP_iff h).1; omega
theorem getOK_nil : getOK [] = false := by decide +kernel
/-- What a row that may be is when it is read again. -/
theorem pf_back {n : Nat} {G : Nat → Fld} (h : n = 0 ∨ mayP n G = true) (hr : ∀ j, j < n → InR (G j)) : fOK (pf n G) = true ∧ fN (pf n G) = n ∧ ∀ j, j < n → gotN (pf n G) j = G j := by
  unfold pf
  rcases h with rfl | h
  · rw [if_pos rfl]
    refine ⟨rfl, ?_, fun j hj => absurd hj (by omega)⟩
    unfold fN
    rw [getOK_nil]
    rfl
  · rw [if_neg (mayP_pos h)]
    obtain ⟨g1, g2, g3⟩ := get_front_ok h hr
    refine ⟨?_, ?_, g3⟩
    · unfold fOK; rw [g1, Bool.or_true]
    · unfold fN; rw [g1]; exact g2
theorem pf_front {l : List Nat} (hb : Bytes l) (h : fOK l = true) : l = pf (fN l) (gotN l) ∧ ∀ j, j < fN l → InR (gotN l j) := by
  unfold fOK at h
  cases hg : getOK l with
  | true =>
    obtain ⟨e1, e2, e3⟩ := get_back hb hg
    have hf : fN l = cntN l := by unfold fN; rw [hg]; rfl
    rw [hf]
    refine ⟨?_, e3⟩
    unfold pf
    rw [if_neg (mayP_pos e2)]
    exact e1
  | false =>
    rw [hg, Bool.or_false] at h
    have hl : l = [] := by simpa using h
    subst hl
    have hf : fN [] = 0 := by unfold fN; rw [getOK_nil]; rfl
    rw [hf]
    exact ⟨rfl, fun j hj => absurd hj (by omega)⟩
theorem pf_length {n : Nat} {G : Nat → Fld} (h : n = 0 ∨ mayP n G = true) : (pf n G).length ≤ 271 := by
  unfold pf
  split
  · simp
  · rename_i hn
    rcases h with h | h
    · exact absurd h hn
    · exact (putN_length h).1
theorem pf_bytes (n : Nat) (G : Nat → Fld) : Bytes (pf n G) := by
  unfold pf
  split
  · exact nil_bytes
  · exact putN_bytes n G
/-- What a request that may be has. -/
structure MayH (r : Rq) : Prop where
  cl0 : 0 ≤ r.cl
  cl4 : r.cl < 4
  sq1 : 1 ≤ r.sq
  sqm : r.sq ≤ 1073741824
  k1 : 1 ≤ r.kd
  k8 : r.kd ≤ 8
  le0 : 0 ≤ r.le
  lem : r.le ≤ 1099511627776
  p : r.n = 0 ∨ mayP r.n r.G = true
  t : r.m = 0 ∨ mayP r.m r.H = true
theorem mayR_h {r : Rq} (h : mayR r = true) : MayH r := by
  unfold mayR headB isK at h
  simp only [Bool.and_eq_true, decide_eq_true_eq] at h
  obtain ⟨⟨⟨a1, a2⟩, ⟨a3, a4⟩, a5, a6⟩, hf, hg⟩ := h
  have hg2 : 0 ≤ r.le ∧ r.le ≤ 1099511627776 ∧ (r.m = 0 ∨ mayP r.m r.H = true) := by
    unfold bringB at hg
    split at hg
    · simp only [Bool.and_eq_true, decide_eq_true_eq] at hg
      exact ⟨hg.2.1, hg.2.2, .inr (mayV_P hg.1)⟩
    · simp only [Bool.and_eq_true, decide_eq_true_eq, beq_iff_eq] at hg
      exact ⟨by omega, by omega, .inl hg.1⟩
  have hf2 : r.n = 0 ∨ mayP r.n r.G = true := by
    unfold findB at hf
    split at hf
    · exact .inr hf
    · exact .inl (by simpa using hf)
  exact ⟨a1, a2, a3, a4, a5, a6, hg2.1, hg2.2.1, hf2, hg2.2.2⟩
theorem mayV_congr {n : Nat} {G H : Nat → Fld} (h : ∀ j, j < n → G j = H j) : mayV n G = mayV n H := by
  unfold mayV
  rw [allN_congr n (fun j hj => by rw [h j hj])]
theorem sameR_eq {r s : Rq} (h : sameR r s = true) : r.cl = s.cl ∧ r.sq = s.sq ∧ r.kd = s.kd ∧ r.le = s.le ∧ r.n = s.n ∧ (∀ j, j < r.n → r.G j = s.G j) ∧ r.m = s.m ∧ ∀ j, j < r.m → r.H j = s.H j := by
  unfold sameR at h
  simp only [Bool.and_eq_true, beq_iff_eq] at h
  obtain ⟨h1, h2, h3, h4, h5, h6⟩ := h
  obtain ⟨a, b⟩ := sameN_iff.1 h5
  obtain ⟨c, d⟩ := sameN_iff.1 h6
  exact ⟨h1, h2, h3, h4, a, b, c, d⟩
theorem sameR_of {r s : Rq} (h1 : r.cl = s.cl) (h2 : r.sq = s.sq) (h3 : r.kd = s.kd) (h4 : r.le = s.le) (h5 : r.n = s.n) (h6 : ∀ j, j < r.n → r.G j = s.G j) (h7 : r.m = s.m) (h8 : ∀ j, j < r.m → r.H j = s.H j) : sameR r s = true := by
  unfold sameR
  rw [sameN_of h5 h6, sameN_of h7 h8, h1, h2, h3, h4]
  simp
theorem sameR_may {r s : Rq} (h : sameR r s = true) : mayR r = mayR s := by
  obtain ⟨e1, e2, e3, e4, e5, e6, e7, e8⟩ := sameR_eq h
  unfold mayR headB findB bringB
  rw [e1, e2, e3, e4, mayP_congr e6, mayV_congr e8, e5, e7]
theorem sameR_put {r s : Rq} (h : sameR r s = true) : putR r = putR s := by
  obtain ⟨e1, e2, e3, e4, e5, e6, e7, e8⟩ := sameR_eq h
  unfold putR pf
  rw [e1, e2, e3, e4, ← e5, ← e7]
  unfold putN
  rw [catF_congr r.n e6, catF_congr r.m e8]
theorem putR_length {r : Rq} (h : mayR r = true) : (putR r).length ≤ 600 ∧ 22 ≤ (putR r).length := by
  have hh := mayR_h h
  have h1 := pf_length hh.p
  have h2 := pf_length hh.t
  unfold putR
  simp only [List.length_append, beN_length, txtN]
  omega
theorem putR_bytes (r : Rq) : Bytes (putR r) := by
  have tb : ∀ l, Bytes l → Bytes (txtN l) := fun l h => app_bytes (beN_bytes _ _) h
  exact app_bytes (app_bytes (app_bytes (app_bytes (app_bytes (beN_bytes _ _) (beN_bytes _ _)) (beN_bytes _ _)) (beN_bytes _ _)) (tb _ (pf_bytes _ _))) (tb _ (pf_bytes _ _))
/-- What Put lays is what Get reads. -/
theorem frontR {r : Rq} (ex : List Nat) (h : mayR r = true) (hr : InRq r) : okR (putR r ++ ex) = decide (endN ex false = 0) ∧ sameR r (gotR (putR r ++ ex)) = true := by
  have hh := mayR_h h
  have l1 := pf_length hh.p
  have l2 := pf_length hh.t
  have e1 : q1 (putR r ++ ex) = (r.cl.toNat, beN r.sq.toNat 4 ++ (beN r.kd.toNat 1 ++ (beN r.le.toNat 8 ++ (txtN (pf r.n r.G) ++ (txtN (pf r.m r.H) ++ ex)))), false) := by
    unfold q1 putR
    simp only [List.append_assoc]
    exact rNum_front _ 1 _ _ (by have := hh.cl0; have := hh.cl4; show _ < 256; omega)
  have e2 : q2 (putR r ++ ex) = (r.sq.toNat, beN r.kd.toNat 1 ++ (beN r.le.toNat 8 ++ (txtN (pf r.n r.G) ++ (txtN (pf r.m r.H) ++ ex))), false) := by
    unfold q2
    rw [e1]
    exact rNum_front _ 4 _ _ (by have := hh.sqm; show _ < 4294967296; omega)
  have e3 : q3 (putR r ++ ex) = (r.kd.toNat, beN r.le.toNat 8 ++ (txtN (pf r.n r.G) ++ (txtN (pf r.m r.H) ++ ex)), false) := by
    unfold q3
    rw [e2]
    exact rNum_front _ 1 _ _ (by have := hh.k8; show _ < 256; omega)
  have e4 : q4 (putR r ++ ex) = (r.le.toNat, txtN (pf r.n r.G) ++ (txtN (pf r.m r.H) ++ ex), false) := by
    unfold q4
    rw [e3]
    exact rNum_front _ 8 _ _ (by have := hh.lem; show _ < 18446744073709551616; omega)
  have e5 : q5 (putR r ++ ex) = (pf r.n r.G, txtN (pf r.m r.H) ++ ex, false) := by
    unfold q5
    rw [e4]
    exact rTxt_frontG _ _ _ _ (by simp only [List.length_append, txtN]; omega) (by omega)
  have e6 : q6 (putR r ++ ex) = (pf r.m r.H, ex, false) := by
    unfold q6
    rw [e5]
    exact rTxt_frontG _ _ _ _ (by simp only [List.length_append, txtN]; omega) (by omega)
  obtain ⟨f1, f2, f3⟩ := pf_back hh.p hr.p
  obtain ⟨g1, g2, g3⟩ := pf_back hh.t hr.t
  have hs : sameR r (gotR (putR r ++ ex)) = true := by
    unfold gotR
    rw [e1, e2, e3, e4, e5, e6]
    refine sameR_of ?_ ?_ ?_ ?_ f2.symm (fun j hj => (f3 j hj).symm) g2.symm (fun j hj => (g3 j hj).symm)
    · have := hh.cl0; show r.cl = ((r.cl.toNat : Nat) : Int); omega
    · have := hh.sq1; show r.sq = ((r.sq.toNat : Nat) : Int); omega
    · have := hh.k1; show r.kd = ((r.kd.toNat : Nat) : Int); omega
    · have h0 := hh.le0
      have h1 := hh.lem
      show r.le = IntKind.i64.wrap ((r.le.toNat : Nat) : Int)
      rw [show ((r.le.toNat : Nat) : Int) = r.le by omega]
      exact (IntWalk.i64_in _ (by omega)).symm
  refine ⟨?_, hs⟩
  unfold okR
  rw [← sameR_may hs, h, e5, e6]
  show (fOK (pf r.n r.G) && (fOK (pf r.m r.H) && (decide (endN ex false = 0) && true))) = _
  rw [f1, g1, Bool.true_and, Bool.true_and, Bool.and_true]
theorem frontR_ok {r : Rq} (h : mayR r = true) (hr : InRq r) : okR (putR r) = true ∧ sameR r (gotR (putR r)) = true := by
  have := frontR [] h hr
  rw [List.append_nil] at this
  exact ⟨this.1.trans rfl, this.2⟩
theorem frontR_no {r : Rq} (ex : List Nat) (h : mayR r = true) (hr : InRq r) (he : 0 < ex.length) : okR (putR r ++ ex) = false := by
  rw [(frontR ex h hr).1]
  have : endN ex false = 2 := by unfold endN; rw [if_pos (.inr he)]
  rw [this]
  rfl
/-- What Get reads is what Put lays. -/
theorem backR {xs : List Nat} (hb : Bytes xs) (h : okR xs = true) : xs = putR (gotR xs) ∧ mayR (gotR xs) = true ∧ InRq (gotR xs) := by
  obtain ⟨⟨v1, y1, d1⟩, E1⟩ : ∃ r, q1 xs = r := ⟨_, rfl⟩
  have F1 : rNum xs false 1 = (v1, y1, d1) := E1
  obtain ⟨⟨v2, y2, d2⟩, E2⟩ : ∃ r, q2 xs = r := ⟨_, rfl⟩
  have F2 : rNum y1 d1 4 = (v2, y2, d2) := by rw [← E2]; unfold q2; rw [E1]
  obtain ⟨⟨v3, y3, d3⟩, E3⟩ : ∃ r, q3 xs = r := ⟨_, rfl⟩
  have F3 : rNum y2 d2 1 = (v3, y3, d3) := by rw [← E3]; unfold q3; rw [E2]
  obtain ⟨⟨v4, y4, d4⟩, E4⟩ : ∃ r, q4 xs = r := ⟨_, rfl⟩
  have F4 : rNum y3 d3 8 = (v4, y4, d4) := by rw [← E4]; unfold q4; rw [E3]
  obtain ⟨⟨l5, y5, d5⟩, E5⟩ : ∃ r, q5 xs = r := ⟨_, rfl⟩
  have F5 : rTxt y4 d4 y4.length = (l5, y5, d5) := by rw [← E5]; unfold q5; rw [E4]
  obtain ⟨⟨l6, y6, d6⟩, E6⟩ : ∃ r, q6 xs = r := ⟨_, rfl⟩
  have F6 : rTxt y5 d5 y5.length = (l6, y6, d6) := by rw [← E6]; unfold q6; rw [E5]
  have hg : gotR xs = ⟨(v1 : Int), (v2 : Int), (v3 : Int), IntKind.i64.wrap (v4 : Int), fN l5, gotN l5, fN l6, gotN l6⟩ := by unfold gotR; rw [E1, E2, E3, E4, E5, E6]
  have ho : okR xs = (fOK l5 && (fOK l6 && (decide (endN y6 d6 = 0) && mayR (gotR xs)))) := by unfold okR; rw [E5, E6]
  rw [ho] at h
  clear ho E1 E2 E3 E4 E5 E6
  rw [hg] at h ⊢
  clear hg
  rw [Bool.and_eq_true, Bool.and_eq_true, Bool.and_eq_true, decide_eq_true_eq] at h
  obtain ⟨o5, o6, h0, hm⟩ := h
  have he : d6 = false ∧ y6 = [] := by
    unfold endN at h0
    split at h0
    · cases h0
    · rename_i hx
      refine ⟨by cases hq : d6 with
        | false => rfl
        | true => exact absurd (.inl hq) hx, List.eq_nil_of_length_eq_zero (by omega)⟩
  obtain ⟨rfl, rfl⟩ := he
  have hh := mayR_h hm
  have b1 := (rNum_bytes xs false 1 hb).1
  rw [F1] at b1
  have b2 := (rNum_bytes y1 d1 4 b1).1
  rw [F2] at b2
  have b3 := (rNum_bytes y2 d2 1 b2).1
  rw [F3] at b3
  have b4 := (rNum_bytes y3 d3 8 b3).1
  rw [F4] at b4
  have b5 := (rTxt_bytes y4 d4 y4.length b4).1
  rw [F5] at b5
  obtain ⟨r6, k6, z6, _⟩ := rTxt_backG b5 F6
  subst k6
  obtain ⟨r5, k5, z5, _⟩ := rTxt_backG b4 F5
  subst k5
  obtain ⟨r4, k4, w4, _⟩ := rNum_back b3 F4
  subst k4
  obtain ⟨r3, k3, w3, _⟩ := rNum_back b2 F3
  subst k3
  obtain ⟨r2, k2, w2, _⟩ := rNum_back b1 F2
  subst k2
  obtain ⟨r1, _, w1, _⟩ := rNum_back hb F1
  obtain ⟨p1, p2⟩ := pf_front z5 o5
  obtain ⟨t1, t2⟩ := pf_front z6 o6
  have hl0 : 0 ≤ IntKind.i64.wrap (v4 : Int) := hh.le0
  clear hh F1 F2 F3 F4 F5 F6 b1 b2 b3 b4 b5 h0
  have hle : (IntKind.i64.wrap (v4 : Int)).toNat = v4 := by
    have hv : v4 < 18446744073709551616 := w4
    simp only [IntKind.wrap, IntKind.bits, IntKind.signed] at hl0 ⊢
    simp at hl0 ⊢
    omega
  refine ⟨?_, hm, ⟨p2, t2⟩⟩
  have e : putR ⟨(v1 : Int), (v2 : Int), (v3 : Int), IntKind.i64.wrap (v4 : Int), fN l5, gotN l5, fN l6, gotN l6⟩ = ((((beN v1 1 ++ beN v2 4) ++ beN v3 1) ++ beN v4 8) ++ txtN l5) ++ txtN l6 := by
    unfold putR
    simp only [hle, Int.toNat_natCast]
    rw [← p1, ← t1]
  simp only at r2 r3 r4 r5 r6
  rw [e, r1, r2, r3, r4, r5, r6]
  simp only [List.append_assoc, List.append_nil]
/-- Cut off it does not come back. -/
theorem take_noR {r : Rq} {j : Nat} (h : mayR r = true) (hr : InRq r) (hj : j < (putR r).length) : okR ((putR r).take j) = false := by
  cases hq : okR ((putR r).take j) with
  | false => rfl
  | true =>
    obtain ⟨e1, e2, e3⟩ := backR (bytes_take (putR_bytes r) j) hq
    have h1 := (frontR_ok h hr).1
    have h2 : putR r = putR (gotR ((putR r).take j)) ++ (putR r).drop j := by rw [← e1, List.take_append_drop]
    have h3 := frontR_no ((putR r).drop j) e2 e3 (by rw [List.length_drop]; omega)
    rw [← h2, h1] at h3
    cases h3
theorem sameR_symm {r s : Rq} (h : sameR r s = true) : sameR s r = true := by
  obtain ⟨e1, e2, e3, e4, e5, e6, e7, e8⟩ := sameR_eq h
  exact sameR_of e1.symm e2.symm e3.symm e4.symm e5.symm (fun j hj => (e6 j (by omega)).symm) e7.symm (fun j hj => (e8 j (by omega)).symm)
theorem sameR_trans {r s t : Rq} (h : sameR r s = true) (k : sameR s t = true) : sameR r t = true := by
  obtain ⟨e1, e2, e3, e4, e5, e6, e7, e8⟩ := sameR_eq h
  obtain ⟨f1, f2, f3, f4, f5, f6, f7, f8⟩ := sameR_eq k
  exact sameR_of (e1.trans f1) (e2.trans f2) (e3.trans f3) (e4.trans f4) (e5.trans f5) (fun j hj => (e6 j hj).trans (f6 j (by omega))) (e7.trans f7) (fun j hj => (e8 j hj).trans (f8 j (by omega)))
/-- Two that are unlike have unlike bytes. -/
theorem putR_inj {r s : Rq} (h : mayR r = true) (hr : InRq r) (k : mayR s = true) (kr : InRq s) : sameR r s = decide (putR r = putR s) := by
  by_cases he : putR r = putR s
  · rw [decide_eq_true he]
    have a := (frontR_ok h hr).2
    have b := (frontR_ok k kr).2
    rw [he] at a
    exact sameR_trans a (sameR_symm b)
  · rw [decide_eq_false he]
    cases hq : sameR r s with
    | false => rfl
    | true => exact absurd (sameR_put hq) he
theorem sameR_refl (r : Rq) : sameR r r = true := sameR_of rfl rfl rfl rfl rfl (fun _ _ => rfl) rfl (fun _ _ => rfl)
/-- What is the same as one that came back is the same as it. -/
theorem sameR_congr {r s t : Rq} (h : sameR s t = true) : sameR r s = sameR r t := by
  cases hq : sameR r s with
  | true => exact (sameR_trans hq h).symm
  | false => cases hq2 : sameR r t with
    | false => rfl
    | true => rw [sameR_trans hq2 (sameR_symm h)] at hq; cases hq
end Go.Proofs.YtigbnjgmdgkgjaaDoor
