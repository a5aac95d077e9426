/-
  PACKAGE space, what is pure, for SpaceCas: the tuples of cas and replace, one step.
-/
import Derived.Test.YtlamfdeepofenaaDoorSpX
namespace Go.Proofs.YtlamfdeepofenaaDoor
open Go Go.RowKit Sh

theorem and3_nat (x : Int) : ∃ v : Nat, v < 4 ∧ bits .and .i64 x 3 = (v : Int) := by
  have h : (BitVec.ofInt 64 x &&& 3#64).toNat ≤ 3 := by
    rw [BitVec.toNat_and]
    exact Nat.and_le_right
  refine ⟨(BitVec.ofInt 64 x &&& 3#64).toNat, by omega, ?_⟩
  show IntKind.i64.wrap ((BitVec.ofInt 64 x &&& 3#64).toNat : Int) = _
  exact IntWalk.i64_in _ (by omega)
def itC (p : Nat × Nat) : It := ⟨3, 0, [fN p.1, fN p.2]⟩
theorem mT_cas (v a b : Int) : mT [fN v, fAny] [fN a, fN b] = (v == a) := by
  have e : mT [fN v, fAny] [fN a, fN b] = (((1 : Int) == 1) && ((v == a) && (eS.toList == eS.toList))) := by
    unfold mT matchN
    rw [show mayP [fN v, fAny].length (gl [fN v, fAny]) = true from two_P rfl rfl (okV_P (okN v)) okAny, show mayV [fN a, fN b].length (gl [fN a, fN b]) = true from two_V rfl rfl]
    simp [allN, gl, takesB, sameF, fN, fAny]
  rw [e]
  simp
theorem mT_exact (v i a b : Int) : mT [fN v, fN i] [fN a, fN b] = ((v == a) && (i == b)) := by
  have e : mT [fN v, fN i] [fN a, fN b] = ((((1 : Int) == 1) && ((v == a) && (eS.toList == eS.toList))) && (((1 : Int) == 1) && ((i == b) && (eS.toList == eS.toList)))) := by
    unfold mT matchN
    rw [show mayP [fN v, fN i].length (gl [fN v, fN i]) = true from two_P rfl rfl (okV_P (okN v)) (okV_P (okN i)), show mayV [fN a, fN b].length (gl [fN a, fN b]) = true from two_V rfl rfl]
    simp [allN, gl, takesB, sameF, fN]
  rw [e]
  simp
structure CasS (has : Nat → Bool) (i : Nat) (s : Sp) (L : List (Nat × Nat)) : Prop where
  o : Op15 s
  its : s.its = L.map itC
  wts : s.wts = []
  nd : (L.map (·.1)).Nodup
  v4 : ∀ p ∈ L, p.1 < 4 ∧ p.2 < i
  has : ∀ v, v < 4 → (has v = true ↔ ∃ p ∈ L, p.1 = v)
  sq : ∀ c, (lastOf s c).sq ≤ i
  now : s.now ≤ i
theorem nodup_lt : ∀ (n : Nat) (l : List Nat), l.Nodup → (∀ v ∈ l, v < n) → l.length ≤ n
  | 0, l, _, h4 => by
    match l, h4 with
    | [], _ => exact Nat.le_refl _
    | v :: _, h4 => exact absurd (h4 v List.mem_cons_self) (by omega)
  | n + 1, l, h, h4 => by
    by_cases hm : n ∈ l
    · have h1 := nodup_lt n (l.erase n) (h.erase n) (fun v hv => by
        have := (List.Nodup.mem_erase_iff h).1 hv
        have := h4 v this.2
        omega)
      rw [List.length_erase_of_mem hm] at h1
      omega
    · have := nodup_lt n l h (fun v hv => by
        have h5 := h4 v hv
        have : v ≠ n := fun e => hm (e ▸ hv)
        omega)
      omega
theorem nodup4 {l : List Nat} (h : l.Nodup) (h4 : ∀ v ∈ l, v < 4) : l.length ≤ 4 := nodup_lt 4 l h h4
theorem CasS.len {has : Nat → Bool} {i : Nat} {s : Sp} {L : List (Nat × Nat)} (h : CasS has i s L) : s.its.length ≤ 4 := by
  rw [h.its, List.length_map]
  have := nodup4 h.nd (fun v hv => by
    obtain ⟨p, hp, rfl⟩ := List.mem_map.1 hv
    exact (h.v4 p hp).1)
  simpa using this
theorem CasS.un {has : Nat → Bool} {i : Nat} {s : Sp} {L : List (Nat × Nat)} (h : CasS has i s L) : ∀ y ∈ s.its, y.un = 0 := fun y hy => by
  rw [h.its] at hy
  obtain ⟨p, _, rfl⟩ := List.mem_map.1 hy
  rfl
theorem cas_new : CasS (fun _ => false) 0 (newS 15 15) [] := ⟨Op15.new, rfl, rfl, List.nodup_nil, (fun p hp => by cases hp), (fun v _ => by simp), (fun c => by rw [last_new]; exact Int.le_refl _), Int.le_refl _⟩
theorem fnd_map {p : List Fld} {L : List (Nat × Nat)} : fnd p (L.map itC) = L.findIdx? (fun q => mT p (itC q).t) := by
  unfold fnd
  rw [List.findIdx?_map]
  rfl
def casN (hv rep : Bool) : Int := if hv = rep then (if rep then 2 else 1) else 3
theorem mayR_two {c q k : Int} {F G : Nat → Fld} (hc : clB c = true) (h1 : 1 ≤ q) (h2 : q ≤ 1073741824) (hk : k = 6 ∨ k = 7) (hf : mayP 2 F = true) (hg : mayV 2 G = true) : mayR ⟨c, q, k, 0, 2, F, 2, G⟩ = true := by
  unfold clB at hc
  simp only [Bool.and_eq_true, decide_eq_true_eq] at hc
  have e : ∀ k : Int, isK k = true → rdK k = true → brK k = true → mayR ⟨c, q, k, 0, 2, F, 2, G⟩ = true := fun k h3 h4 h5 => by
    unfold mayR headB findB bringB
    dsimp only
    rw [h3, h4, h5, if_pos rfl, if_pos rfl, decide_eq_true hc.1, decide_eq_true hc.2, decide_eq_true h1, decide_eq_true h2, hf, hg]; rfl
  rcases hk with rfl | rfl <;> exact e _ rfl rfl rfl
theorem last_find {has : Nat → Bool} {i : Nat} {s : Sp} {L : List (Nat × Nat)} (h : CasS has i s L) (v : Nat) : fnd [fN v, fN i] (L.map itC) = none := by
  rw [fnd_none]
  intro y hy
  obtain ⟨p, hp, rfl⟩ := List.mem_map.1 hy
  have := (h.v4 p hp).2
  show mT [fN v, fN i] [fN p.1, fN p.2] = false
  rw [mT_exact, show ((i : Int) == (p.2 : Int)) = false by rw [beq_eq_false_iff_ne]; omega, Bool.and_false]
theorem find_last {i : Nat} {L : List (Nat × Nat)} (v : Nat) (hn : fnd [fN v, fN i] (L.map itC) = none) : fnd [fN v, fN i] ((L ++ [(v, i)]).map itC) = some L.length := by
  rw [List.map_append]
  unfold fnd at hn ⊢
  rw [List.findIdx?_append, hn, List.map_cons, List.findIdx?_cons]
  have : mT [fN v, fN i] (itC (v, i)).t = true := by
    show mT [fN v, fN i] [fN v, fN i] = true
    rw [mT_exact]; simp
  rw [this]
  simp
theorem nodup_erase {L : List (Nat × Nat)} {k : Nat} (h : (L.map (·.1)).Nodup) (hk : k < L.length) : ((L.eraseIdx k).map (·.1)).Nodup ∧ ∀ p ∈ L.eraseIdx k, p.1 ≠ L[k].1 := by
  have e : L = L.take k ++ L[k] :: L.drop (k + 1) := by rw [← List.drop_eq_getElem_cons hk, List.take_append_drop]
  rw [List.eraseIdx_eq_take_drop_succ]
  rw [e, List.map_append, List.map_cons] at h
  have h1 := List.nodup_append.1 h
  obtain ⟨a, b, c⟩ := h1
  have b' := List.nodup_cons.1 b
  refine ⟨?_, fun p hp => ?_⟩
  · rw [List.map_append]
    exact List.nodup_append.2 ⟨a, b'.2, fun x hx y hy => c x hx y (List.mem_cons_of_mem _ hy)⟩
  · rcases List.mem_append.1 hp with hp | hp
    · exact c _ (List.mem_map_of_mem hp) _ List.mem_cons_self
    · intro e'
      exact b'.1 (by rw [← e']; exact List.mem_map_of_mem hp)
def hasU (has : Nat → Bool) (v : Nat) (rep : Bool) : Nat → Bool := fun u => if u = v ∧ casN (has v) rep = 1 then true else has u
theorem cas_step {has : Nat → Bool} {i : Nat} {s : Sp} {L : List (Nat × Nat)} (h : CasS has i s L) (hi : i < 20) {v : Nat} (hv : v < 4) (rep : Bool) {F G : Nat → Fld} (f0 : F 0 = fN v) (f1 : F 1 = fAny) (g0 : G 0 = fN v) (g1 : G 1 = fN i) {kd : Int} (hk : (if rep then (7 : Int) else 6) = kd) :
    ∃ y L', (doP s i ⟨3, (i : Int) + 1, kd, 0, 2, F, 2, G⟩).2 = [y] ∧ y.kd = casN (has v) rep ∧ CasS (hasU has v rep) (i + 1) (doP s i ⟨3, (i : Int) + 1, kd, 0, 2, F, 2, G⟩).1 L' ∧
      L'.length = L.length + (if casN (has v) rep = 1 then 1 else 0) ∧ fndI [fN v, fN i] (doP s i ⟨3, (i : Int) + 1, kd, 0, 2, F, 2, G⟩).1.its = (if casN (has v) rep = 3 then -1 else (L'.length : Int) - 1) := by
  have hp2 : mayP 2 F = true := two_P f0 f1 (okV_P (okN v)) okAny
  have hv2 : mayV 2 G = true := two_V g0 g1
  have hr : mayR ⟨3, (i : Int) + 1, kd, 0, 2, F, 2, G⟩ = true := mayR_two (by decide) (by omega) (by omega) (by cases rep <;> simp at hk <;> omega) hp2 hv2
  have hn := h.now
  have hg := goOn_stay (s := s) (i : Int) h.un
  have hlast : ∀ c, (lastOf { s with now := (i : Int) } c).sq ≤ i := h.sq
  have key := do_new (s := s) (now := (i : Int)) (okDo_mk h.o.may hr hn (by omega)) (by have := h.sq 3; show (lastOf s 3).sq < (i : Int) + 1; omega)
  have hdo := h.o.do (i : Int) ⟨3, (i : Int) + 1, kd, 0, 2, F, 2, G⟩
  have hp : (qp ⟨3, (i : Int) + 1, kd, 0, 2, F, 2, G⟩).p = [fN v, fAny] := by show [F 0, F 1] = _; rw [f0, f1]
  have ht : (qp ⟨3, (i : Int) + 1, kd, 0, 2, F, 2, G⟩).t = [fN v, fN i] := by show [G 0, G 1] = _; rw [g0, g1]
  have hkq : (qp ⟨3, (i : Int) + 1, kd, 0, 2, F, 2, G⟩).kd = kd := rfl
  have hcq : (qp ⟨3, (i : Int) + 1, kd, 0, 2, F, 2, G⟩).cl = 3 := rfl
  have hsq : (qp ⟨3, (i : Int) + 1, kd, 0, 2, F, 2, G⟩).sq = (i : Int) + 1 := rfl
  have hle : (qp ⟨3, (i : Int) + 1, kd, 0, 2, F, 2, G⟩).le = 0 := rfl
  obtain ⟨q, hq⟩ : ∃ q, qp ⟨3, (i : Int) + 1, kd, 0, 2, F, 2, G⟩ = q := ⟨_, rfl⟩
  rw [hq] at hp ht hkq hcq hsq hle
  rw [key, hg, hq] at hdo ⊢
  clear key hg hr hq hp2 hv2
  have hal : allowP { s with now := (i : Int) } q = true := allow15 (s := { s with now := (i : Int) }) h.o.rd h.o.wr (by rw [hcq]; decide)
  have hf : ∀ o, L.findIdx? (fun p => ((v : Int) == (p.1 : Int))) = o → fnd q.p s.its = o := fun o ho => by
    rw [hp, h.its, fnd_map, ← ho]
    congr 1
    funext p
    exact mT_cas _ _ _
  have hw : ∀ y ∈ ({ s with now := (i : Int) } : Sp).wts, mT y.p q.t = false := fun y hy => by
    change y ∈ s.wts at hy
    rw [h.wts] at hy; cases hy
  have hln := h.len
  have hnew : newIt { s with now := (i : Int) } q = itC (v, i) := by
    unfold newIt
    rw [hcq, hle, ht, if_pos rfl]; rfl
  cases hhv : has v with
  | false =>
    have hno : ∀ p ∈ L, p.1 ≠ v := fun p hp e => by
      have := (h.has v hv).2 ⟨p, hp, e⟩
      rw [hhv] at this; cases this
    have f := hf none (by
      rw [List.findIdx?_eq_none_iff]
      intro p hp
      have := hno p hp
      rw [beq_eq_false_iff_ne]
      omega)
    cases rep with
    | false =>
      have ea : actP { s with now := (i : Int) } q = ({ s with now := (i : Int) }, tellP q 1, true) := by
        rw [actP_o hal, hkq, if_neg (by subst hk; decide), if_pos (by subst hk; rfl)]
        show casP _ q (fnd q.p s.its) = _
        rw [f]
        unfold casP bringP
        have : ownN q.cl s.its ≤ s.its.length := List.countP_le_length
        rw [if_neg (show ¬ (64 ≤ s.its.length ∨ 24 ≤ ownN q.cl s.its) by omega)]
      have ew : answP { s with now := (i : Int) } q = ({ noteP { s with now := (i : Int) } (tellP q 1) with its := s.its ++ [itC (v, i)] }, [tellP q 1]) := by
        unfold answP
        rw [ea]
        dsimp only
        rw [if_pos rfl, put_quiet (s := noteP { s with now := (i : Int) } (tellP q 1)) hw]
        dsimp only
        rw [show newIt (noteP { s with now := (i : Int) } (tellP q 1)) q = itC (v, i) from hnew]
        rfl
      rw [ew] at hdo ⊢
      refine ⟨_, L ++ [(v, i)], rfl, rfl, ⟨hdo, ?_, h.wts, ?_, ?_, ?_, note_sq (fun c => by have := hlast c; omega) (by show q.sq ≤ _; omega), by show (i : Int) ≤ ((i + 1 : Nat) : Int); omega⟩, by simp [casN], ?_⟩
      · show s.its ++ [itC (v, i)] = _
        rw [h.its, List.map_append]; rfl
      · rw [List.map_append]
        refine List.nodup_append.2 ⟨h.nd, by simp, fun x hx y hy => ?_⟩
        obtain ⟨p, hpm, rfl⟩ := List.mem_map.1 hx
        simp only [List.map_cons, List.map_nil, List.mem_singleton] at hy
        rw [hy]
        exact hno p hpm
      · intro p hp
        rcases List.mem_append.1 hp with hp | hp
        · have := h.v4 p hp; omega
        · obtain rfl := List.mem_singleton.1 hp
          exact ⟨hv, Nat.lt_succ_self i⟩
      · intro u hu
        unfold hasU
        rw [hhv]
        by_cases e : u = v
        · subst e
          rw [if_pos ⟨rfl, rfl⟩]
          exact ⟨fun _ => ⟨(u, i), List.mem_append_right _ (List.mem_singleton.2 rfl), rfl⟩, fun _ => rfl⟩
        · rw [if_neg (fun h => e h.1), h.has u hu]
          constructor
          · rintro ⟨p, hp, e'⟩; exact ⟨p, List.mem_append_left _ hp, e'⟩
          · rintro ⟨p, hp, e'⟩
            rcases List.mem_append.1 hp with hp | hp
            · exact ⟨p, hp, e'⟩
            · obtain rfl := List.mem_singleton.1 hp
              exact absurd e'.symm e
      · show fndI [fN v, fN i] (s.its ++ [itC (v, i)]) = _
        have h1 : s.its ++ [itC (v, i)] = (L ++ [(v, i)]).map itC := by rw [h.its, List.map_append]; rfl
        unfold fndI
        rw [h1, find_last v (last_find h v), if_neg (by decide), List.length_append]
        simp
    | true =>
      have ea : actP { s with now := (i : Int) } q = ({ s with now := (i : Int) }, tellP q 3, false) := by
        rw [actP_o hal, hkq, if_neg (by subst hk; decide), if_neg (by subst hk; decide), if_pos (by subst hk; rfl)]
        show replP _ q (fnd q.p s.its) = _
        rw [f]; rfl
      have ew : answP { s with now := (i : Int) } q = (noteP { s with now := (i : Int) } (tellP q 3), [tellP q 3]) := by
        unfold answP
        rw [ea]; rfl
      rw [ew] at hdo ⊢
      refine ⟨_, L, rfl, rfl, ⟨hdo, h.its, h.wts, h.nd, fun p hp => by have := h.v4 p hp; omega, fun u hu => ?_, note_sq (fun c => by have := hlast c; omega) (by show q.sq ≤ _; omega), by show (i : Int) ≤ ((i + 1 : Nat) : Int); omega⟩, by simp [casN], ?_⟩
      · unfold hasU
        rw [if_neg (fun e => by rw [hhv] at e; exact absurd e.2 (by decide))]
        exact h.has u hu
      · show fndI [fN v, fN i] s.its = _
        unfold fndI
        rw [h.its, last_find h v]; rfl
  | true =>
    obtain ⟨p0, hp0, ep0⟩ := (h.has v hv).1 hhv
    obtain ⟨k, hk0⟩ : ∃ k, L.findIdx? (fun p => ((v : Int) == (p.1 : Int))) = some k := by
      cases hx : L.findIdx? (fun p => ((v : Int) == (p.1 : Int))) with
      | some k => exact ⟨k, rfl⟩
      | none =>
        have := (List.findIdx?_eq_none_iff.1 hx) p0 hp0
        rw [ep0] at this
        simp at this
    have f := hf _ hk0
    have hkl : k < L.length := (List.findIdx?_eq_some_iff_findIdx_eq.1 hk0).1
    have hkv : L[k].1 = v := by
      have := (List.findIdx?_eq_some_iff_getElem.1 hk0).2.1
      simp at this
      omega
    cases rep with
    | false =>
      have ea : actP { s with now := (i : Int) } q = ({ s with now := (i : Int) }, tellP q 3, false) := by
        rw [actP_o hal, hkq, if_neg (by subst hk; decide), if_pos (by subst hk; rfl)]
        show casP _ q (fnd q.p s.its) = _
        rw [f]; rfl
      have ew : answP { s with now := (i : Int) } q = (noteP { s with now := (i : Int) } (tellP q 3), [tellP q 3]) := by
        unfold answP
        rw [ea]; rfl
      rw [ew] at hdo ⊢
      refine ⟨_, L, rfl, rfl, ⟨hdo, h.its, h.wts, h.nd, fun p hp => by have := h.v4 p hp; omega, fun u hu => ?_, note_sq (fun c => by have := hlast c; omega) (by show q.sq ≤ _; omega), by show (i : Int) ≤ ((i + 1 : Nat) : Int); omega⟩, by simp [casN], ?_⟩
      · unfold hasU
        rw [if_neg (fun e => by rw [hhv] at e; exact absurd e.2 (by decide))]
        exact h.has u hu
      · show fndI [fN v, fN i] s.its = _
        unfold fndI
        rw [h.its, last_find h v]; rfl
    | true =>
      have hke : (s.its.eraseIdx k) = (L.eraseIdx k).map itC := by rw [h.its]; simp [List.eraseIdx_eq_take_drop_succ, List.map_take, List.map_drop]
      have ea : actP { s with now := (i : Int) } q = ({ s with now := (i : Int), its := (L.eraseIdx k).map itC }, giveP q (s.its.getD k i0).t, true) := by
        rw [actP_o hal, hkq, if_neg (by subst hk; decide), if_neg (by subst hk; decide), if_pos (by subst hk; rfl)]
        show replP _ q (fnd q.p s.its) = _
        rw [f]
        unfold replP
        have h1 : ownN q.cl (s.its.eraseIdx k) ≤ (s.its.eraseIdx k).length := List.countP_le_length
        have h2 : (s.its.eraseIdx k).length ≤ s.its.length := (List.eraseIdx_sublist _ _).length_le
        dsimp only
        rw [if_neg (show ¬ 24 ≤ ownN q.cl (s.its.eraseIdx k) by omega), hke]
      have ew : answP { s with now := (i : Int) } q = ({ noteP { s with now := (i : Int) } (giveP q (s.its.getD k i0).t) with its := (L.eraseIdx k).map itC ++ [itC (v, i)] }, [giveP q (s.its.getD k i0).t]) := by
        unfold answP
        rw [ea]
        dsimp only
        rw [if_pos rfl, put_quiet (s := noteP { s with now := (i : Int), its := (L.eraseIdx k).map itC } (giveP q (s.its.getD k i0).t)) hw]
        dsimp only
        rw [show newIt (noteP { s with now := (i : Int), its := (L.eraseIdx k).map itC } (giveP q (s.its.getD k i0).t)) q = itC (v, i) from hnew]
        rfl
      obtain ⟨nd1, nd2⟩ := nodup_erase h.nd hkl
      rw [hkv] at nd2
      have hle1 : (L.eraseIdx k).length = L.length - 1 := by rw [List.length_eraseIdx, if_pos hkl]
      rw [ew] at hdo ⊢
      refine ⟨_, L.eraseIdx k ++ [(v, i)], rfl, rfl, ⟨hdo, ?_, h.wts, ?_, ?_, ?_, note_sq (fun c => by have := hlast c; omega) (by show q.sq ≤ _; omega), by show (i : Int) ≤ ((i + 1 : Nat) : Int); omega⟩, ?_, ?_⟩
      · show (L.eraseIdx k).map itC ++ [itC (v, i)] = _
        rw [List.map_append]; rfl
      · rw [List.map_append]
        refine List.nodup_append.2 ⟨nd1, by simp, fun x hx y hy => ?_⟩
        obtain ⟨p, hpm, rfl⟩ := List.mem_map.1 hx
        simp only [List.map_cons, List.map_nil, List.mem_singleton] at hy
        rw [hy]
        exact nd2 p hpm
      · intro p hp
        rcases List.mem_append.1 hp with hp | hp
        · have := h.v4 p ((List.eraseIdx_sublist _ _).subset hp); omega
        · obtain rfl := List.mem_singleton.1 hp
          exact ⟨hv, Nat.lt_succ_self i⟩
      · intro u hu
        unfold hasU
        rw [if_neg (fun e => by rw [hhv] at e; exact absurd e.2 (by decide)), h.has u hu]
        by_cases e : u = v
        · subst e
          exact ⟨fun _ => ⟨(u, i), List.mem_append_right _ (List.mem_singleton.2 rfl), rfl⟩, fun _ => ⟨p0, hp0, ep0⟩⟩
        · constructor
          · rintro ⟨p, hp, e'⟩
            refine ⟨p, List.mem_append_left _ ?_, e'⟩
            obtain ⟨j, hj, ej⟩ := List.mem_iff_getElem.1 hp
            rw [List.mem_eraseIdx_iff_getElem]
            refine ⟨j, hj, ?_, ej⟩
            rintro rfl
            rw [ej] at hkv
            exact e (e'.symm.trans hkv)
          · rintro ⟨p, hp, e'⟩
            rcases List.mem_append.1 hp with hp | hp
            · exact ⟨p, (List.eraseIdx_sublist _ _).subset hp, e'⟩
            · obtain rfl := List.mem_singleton.1 hp
              exact absurd e'.symm e
      · rw [List.length_append, hle1]
        show L.length - 1 + 1 = L.length + 0
        omega
      · show fndI [fN v, fN i] ((L.eraseIdx k).map itC ++ [itC (v, i)]) = _
        have h1 : (L.eraseIdx k).map itC ++ [itC (v, i)] = (L.eraseIdx k ++ [(v, i)]).map itC := by rw [List.map_append]; rfl
        have h2 : fnd [fN v, fN i] ((L.eraseIdx k).map itC) = none := by
          rw [fnd_none]
          intro y hy
          exact fnd_none.1 (last_find h v) y (((List.eraseIdx_sublist _ _).map itC).subset hy)
        unfold fndI
        rw [h1, find_last v h2, if_neg (by decide), List.length_append]
        simp
end Go.Proofs.YtlamfdeepofenaaDoor
