/-
  PACKAGE space, what is pure, for SpaceWaits: those who wait, one behind the other; a tuple that wakes them.
-/
import Derived.Test.YtlamfdeepofenaaDoorSpXd
namespace Go.Proofs.YtlamfdeepofenaaDoor
open Go Go.RowKit Sh

/-! SpaceWaits -/
def wtW (order : Nat → Bool) (j : Nat) : Wt := ⟨((j % 2 : Nat) : Int), (j : Int) + 1, order j, [fAI]⟩
theorem mod2_cl (j : Nat) : clB ((j % 2 : Nat) : Int) = true := by
  unfold clB
  rw [decide_eq_true (show (0 : Int) ≤ ((j % 2 : Nat) : Int) by omega), decide_eq_true (show ((j % 2 : Nat) : Int) < 4 by omega)]; rfl
structure WaitA (order : Nat → Bool) (i : Nat) (s : Sp) : Prop where
  o : Op15 s
  its : s.its = []
  wts : s.wts = (List.range i).map (wtW order)
  sq : ∀ c, (lastOf s c).sq ≤ i
  s2 : (lastOf s 2).sq = 0
  now : s.now ≤ 1
theorem waitA_new (order : Nat → Bool) : WaitA order 0 (newS 15 15) := ⟨Op15.new, rfl, rfl, fun c => by rw [last_new]; exact Int.le_refl _, last_new 2, by decide⟩
theorem wait_step1 {order : Nat → Bool} {i : Nat} {s : Sp} {F G : Nat → Fld} {kd : Int} (h : WaitA order i s) (hi : i < 10) (hk : (if order i then (5 : Int) else 4) = kd) (g0 : G 0 = fAI) :
    (doP s 1 ⟨((i % 2 : Nat) : Int), (i : Int) + 1, kd, 0, 1, G, 0, F⟩).2 = [⟨((i % 2 : Nat) : Int), (i : Int) + 1, 4, [], false⟩] ∧ WaitA order (i + 1) (doP s 1 ⟨((i % 2 : Nat) : Int), (i : Int) + 1, kd, 0, 1, G, 0, F⟩).1 := by
  have hk2 : kd = 2 ∨ kd = 3 ∨ kd = 4 ∨ kd = 5 := by cases ho : order i <;> rw [ho] at hk <;> simp at hk <;> omega
  have hk3 : ¬ (kd = 2 ∨ kd = 3) := by cases ho : order i <;> rw [ho] at hk <;> simp at hk <;> omega
  have hk5 : (kd == 5) = order i := by cases ho : order i <;> rw [ho] at hk <;> simp at hk <;> subst hk <;> rfl
  have hr : mayR ⟨((i % 2 : Nat) : Int), (i : Int) + 1, kd, 0, 1, G, 0, F⟩ = true := mayR_look (mod2_cl i) (by omega) (by omega) hk2 (one_P g0 okA)
  have hg : goOnP s 1 = { s with now := 1 } := goOn_stay (s := s) 1 (fun y hy => by rw [h.its] at hy; cases hy)
  have key := look_step h.o (now := 1) hr hk2 h.now (by decide) (by have := h.sq ((i % 2 : Nat) : Int); show (lastOf s ((i % 2 : Nat) : Int)).sq < (i : Int) + 1; omega)
  have ho := h.o.do 1 ⟨((i % 2 : Nat) : Int), (i : Int) + 1, kd, 0, 1, G, 0, F⟩
  have hf : fnd (qp ⟨((i % 2 : Nat) : Int), (i : Int) + 1, kd, 0, 1, G, 0, F⟩).p ({ s with now := (1 : Int) } : Sp).its = none := by
    show fnd _ s.its = none
    rw [h.its]; rfl
  have hw : s.wts.length = i := by rw [h.wts]; simp
  have e : ∀ q : Qp, q.kd = kd → lookP { s with now := 1 } q none = ({ s with now := 1, wts := s.wts ++ [⟨q.cl, q.sq, q.kd == 5, q.p⟩] }, tellP q 4) := fun q hq => by
    unfold lookP
    dsimp only
    rw [if_neg (show ¬ (q.kd = 2 ∨ q.kd = 3) by rw [hq]; exact hk3), if_neg (show ¬ 16 ≤ s.wts.length by omega)]
  rw [key] at ho ⊢
  rw [hg, hf, e _ rfl] at ho ⊢
  refine ⟨rfl, ho, h.its, ?_, note_sq (s := { s with now := 1, wts := _ }) (fun c => by have := h.sq c; show (lastOf s c).sq ≤ _; omega) (by show (i : Int) + 1 ≤ ((i + 1 : Nat) : Int); omega), ?_, Int.le_refl _⟩
  · show s.wts ++ [(⟨_, _, kd == 5, [G 0]⟩ : Wt)] = _
    rw [h.wts, List.range_succ, List.map_append, hk5, g0]
    rfl
  · rw [lastOf_note, if_neg]
    · exact h.s2
    · rintro ⟨e1, _⟩
      have e2 : (((i % 2 : Nat) : Int)).toNat = (2 : Int).toNat := e1
      rw [Int.toNat_natCast] at e2
      have : (2 : Int).toNat = 2 := rfl
      omega
/-- Up to the first that takes. -/
def runW (order : Nat → Bool) : Nat → Nat → Nat × Bool
  | a, 0 => (a, false)
  | a, k + 1 => if order a then (a + 1, true) else runW order (a + 1) k
theorem runW_ge (order : Nat → Bool) : ∀ k a, a ≤ (runW order a k).1 ∧ (runW order a k).1 ≤ a + k
  | 0, a => ⟨Nat.le_refl _, Nat.le_refl _⟩
  | k + 1, a => by
    unfold runW
    split
    · exact ⟨by omega, by show a + 1 ≤ a + (k + 1); omega⟩
    · have := runW_ge order k (a + 1)
      omega
theorem wake_run (order : Nat → Bool) (v : Int) : ∀ k a, wakeP [fN v] ((List.range' a k).map (wtW order)) =
    ((List.range' (runW order a k).1 (a + k - (runW order a k).1)).map (wtW order), (List.range' a ((runW order a k).1 - a)).map (fun j => lateP [fN v] (wtW order j)), (runW order a k).2)
  | 0, a => by simp [runW, wakeP]
  | k + 1, a => by
    rw [List.range'_succ, List.map_cons]
    unfold wakeP runW
    rw [if_pos (show mT (wtW order a).p [fN v] = true from mT_any v)]
    cases ho : order a with
    | true =>
      rw [if_pos (show (wtW order a).tk = true from ho), if_pos rfl]
      dsimp only
      rw [show a + (k + 1) - (a + 1) = k by omega, show a + 1 - a = 1 by omega]
      rfl
    | false =>
      rw [if_neg (show ¬ (wtW order a).tk = true by show ¬ order a = true; rw [ho]; decide), if_neg (by decide), wake_run order v k (a + 1)]
      have h := runW_ge order k (a + 1)
      dsimp only
      rw [show a + 1 + k - (runW order (a + 1) k).1 = a + (k + 1) - (runW order (a + 1) k).1 by omega, show (runW order (a + 1) k).1 - a = ((runW order (a + 1) k).1 - (a + 1)) + 1 by omega, List.range'_succ, List.map_cons]
structure WaitB (order : Nat → Bool) (n a i : Nat) (s : Sp) : Prop where
  o : Op15 s
  an : a ≤ n
  wts : s.wts = (List.range' a (n - a)).map (wtW order)
  un : ∀ y ∈ s.its, y.un = 0
  il : s.its.length ≤ i
  sq : (lastOf s 2).sq ≤ i
  now : s.now ≤ 2
theorem WaitA.go {order : Nat → Bool} {n : Nat} {s : Sp} (h : WaitA order n s) : WaitB order n 0 0 s :=
  ⟨h.o, Nat.zero_le _, by rw [h.wts, List.range_eq_range']; rfl, fun y hy => by rw [h.its] at hy; (cases hy), by rw [h.its]; exact Nat.le_refl _, by rw [h.s2]; exact Int.le_refl _, by have := h.now; omega⟩
theorem wait_step2 {order : Nat → Bool} {n a i : Nat} {s : Sp} {F G : Nat → Fld} (h : WaitB order n a i s) (hi : i < 10) (g0 : G 0 = fN i) :
    (doP s 2 ⟨2, (i : Int) + 1, 1, 0, 0, F, 1, G⟩).2 = ⟨2, (i : Int) + 1, 1, [], false⟩ :: (List.range' a ((runW order a (n - a)).1 - a)).map (fun j => lateP [fN i] (wtW order j)) ∧
    WaitB order n (runW order a (n - a)).1 (i + 1) (doP s 2 ⟨2, (i : Int) + 1, 1, 0, 0, F, 1, G⟩).1 ∧
    (doP s 2 ⟨2, (i : Int) + 1, 1, 0, 0, F, 1, G⟩).1.its.length = s.its.length + (if (runW order a (n - a)).2 then 0 else 1) := by
  have hr : mayR ⟨2, (i : Int) + 1, 1, 0, 0, F, 1, G⟩ = true := mayR_out (by decide) (by omega) (by omega) (by decide) (by decide) (one_V g0)
  have hg : goOnP s 2 = { s with now := 2 } := goOn_stay (s := s) 2 h.un
  have key := do_new (s := s) (now := 2) (okDo_mk h.o.may hr h.now (by decide)) (by have := h.sq; show (lastOf s 2).sq < (i : Int) + 1; omega)
  have ho := h.o.do 2 ⟨2, (i : Int) + 1, 1, 0, 0, F, 1, G⟩
  have ht : (qp ⟨2, (i : Int) + 1, 1, 0, 0, F, 1, G⟩).t = [fN i] := by show [G 0] = _; rw [g0]
  obtain ⟨q, hq⟩ : ∃ q, qp ⟨2, (i : Int) + 1, 1, 0, 0, F, 1, G⟩ = q := ⟨_, rfl⟩
  have hkq : q.kd = 1 := by rw [← hq]; rfl
  have hcq : q.cl = 2 := by rw [← hq]; rfl
  have hsq : q.sq = (i : Int) + 1 := by rw [← hq]; rfl
  have hle : q.le = 0 := by rw [← hq]; rfl
  rw [hq] at ht
  rw [key, hg, hq] at ho ⊢
  clear key hg hr hq
  have hil := h.il
  have hown : ownN q.cl s.its ≤ s.its.length := List.countP_le_length
  have ea : actP { s with now := 2 } q = ({ s with now := 2 }, tellP q 1, true) := by
    rw [actP_o (allow15 (s := { s with now := 2 }) h.o.rd h.o.wr (by rw [hcq]; decide)), if_pos hkq]
    unfold bringP
    rw [if_neg (show ¬ (64 ≤ s.its.length ∨ 24 ≤ ownN q.cl s.its) by omega)]
  have hw : wakeP q.t (noteP { s with now := 2 } (tellP q 1)).wts = ((List.range' (runW order a (n - a)).1 (a + (n - a) - (runW order a (n - a)).1)).map (wtW order), (List.range' a ((runW order a (n - a)).1 - a)).map (fun j => lateP [fN i] (wtW order j)), (runW order a (n - a)).2) := by
    show wakeP q.t s.wts = _
    rw [ht, h.wts]
    exact wake_run order i (n - a) a
  obtain ⟨r1, r2⟩ := runW_ge order (n - a) a
  have hn2 : (lastOf (noteP { s with now := 2 } (tellP q 1)) 2).sq = (i : Int) + 1 := by
    rw [lastOf_note, if_pos ⟨by show q.cl.toNat = _; rw [hcq], by show q.cl.toNat < s.last.length; rw [hcq, h.o.l4]; decide⟩]
    exact hsq
  have epl : answP { s with now := 2 } q = ((putP (noteP { s with now := 2 } (tellP q 1)) q).1, tellP q 1 :: (putP (noteP { s with now := 2 } (tellP q 1)) q).2) := by
    unfold answP
    rw [ea]
    rfl
  have hsq2 := put_sq (noteP { s with now := 2 } (tellP q 1)) q 2
  have hkp := put_kept (noteP { s with now := 2 } (tellP q 1)) q
  rw [epl] at ho ⊢
  have hput : (putP (noteP { s with now := 2 } (tellP q 1)) q).2 = (List.range' a ((runW order a (n - a)).1 - a)).map (fun j => lateP [fN i] (wtW order j)) ∧
      (putP (noteP { s with now := 2 } (tellP q 1)) q).1.wts = (List.range' (runW order a (n - a)).1 (n - (runW order a (n - a)).1)).map (wtW order) ∧
      (putP (noteP { s with now := 2 } (tellP q 1)) q).1.its = s.its ++ (if (runW order a (n - a)).2 then [] else [newIt { s with now := 2 } q]) := by
    unfold putP
    dsimp only
    rw [hw]
    dsimp only
    obtain ⟨_, _, _, _, k5, k6⟩ := late_kept ((List.range' a ((runW order a (n - a)).1 - a)).map (fun j => lateP [fN i] (wtW order j))) { noteP { s with now := 2 } (tellP q 1) with wts := (List.range' (runW order a (n - a)).1 (a + (n - a) - (runW order a (n - a)).1)).map (wtW order) }
    have e1 : a + (n - a) - (runW order a (n - a)).1 = n - (runW order a (n - a)).1 := by have := h.an; omega
    cases hx : (runW order a (n - a)).2 with
    | true =>
      refine ⟨rfl, ?_, ?_⟩
      · rw [if_pos rfl, k6, e1]
      · rw [if_pos rfl, k5, if_pos rfl, List.append_nil]; rfl
    | false =>
      refine ⟨rfl, ?_, ?_⟩
      · rw [if_neg (by decide)]
        show (List.foldl lateS _ _).wts = _
        rw [k6, e1]
      · rw [if_neg (show ¬ false = true by decide), if_neg (show ¬ false = true by decide)]
        show (List.foldl lateS _ _).its ++ _ = _
        rw [k5]
        rfl
  obtain ⟨p1, p2, p3⟩ := hput
  refine ⟨?_, ⟨ho, by have := h.an; omega, p2, fun y hy => ?_, ?_, by show (lastOf (putP _ q).1 2).sq ≤ _; rw [hsq2, hn2]; omega, ?_⟩, ?_⟩
  · rw [p1]
    show tellP q 1 :: _ = _
    unfold tellP
    rw [hcq, hsq]
  · change y ∈ (putP _ q).1.its at hy
    rw [p3] at hy
    rcases List.mem_append.1 hy with hy | hy
    · exact h.un y hy
    · split at hy
      · cases hy
      · obtain rfl := List.mem_singleton.1 hy
        unfold newIt
        rw [hle]; rfl
  · show (putP _ q).1.its.length ≤ _
    rw [p3, List.length_append]
    split
    · simp; omega
    · simp; omega
  · show (putP _ q).1.now ≤ 2
    rw [hkp.2.2.2]
    exact Int.le_refl _
  · show (putP _ q).1.its.length = _
    rw [p3, List.length_append]
    cases (runW order a (n - a)).2 <;> simp
end Go.Proofs.YtlamfdeepofenaaDoor
