/-
  PACKAGE space, what is pure, for SpaceFull: so many tuples of one client, of all, so many who wait.
-/
import Derived.Test.YtlamfdeepofenaaDoorSpXc
namespace Go.Proofs.YtlamfdeepofenaaDoor
open Go Go.RowKit Sh

/-! SpaceFull -/
def fAT : Fld := ⟨4, 0, eS⟩
theorem okAT : okP fAT = true := by kernel_rfl
theorem one_P {G : Nat → Fld} {f : Fld} (h0 : G 0 = f) (hf : okP f = true) : mayP 1 G = true := by
  unfold mayP
  simp only [allN, h0, hf]; rfl
theorem mT_text (a : Int) : mT [fAT] [fN a] = false := by
  unfold mT matchN
  rw [show mayP [fAT].length (gl [fAT]) = true from one_P rfl okAT, show mayV [fN a].length (gl [fN a]) = true from one_V rfl]
  simp [allN, gl, takesB, fN, fAT]
theorem mT_any (a : Int) : mT [fAI] [fN a] = true := by
  unfold mT matchN
  rw [show mayP [fAI].length (gl [fAI]) = true from one_P rfl okA, show mayV [fN a].length (gl [fN a]) = true from one_V rfl]
  simp [allN, gl, takesB, fN, fAI]
def capF (one : Bool) : Nat := if one then 24 else 64
def clF (one : Bool) (j : Nat) : Nat := if one then 1 else j % 4
def itF (one : Bool) (j : Nat) : It := ⟨(clF one j : Int), 0, [fN j]⟩
theorem clF4 (one : Bool) (j : Nat) : clF one j < 4 := by
  unfold clF
  cases one
  · exact Nat.mod_lt _ (by decide)
  · exact (show 1 < 4 by decide)
theorem clB_clF (one : Bool) (j : Nat) : clB (clF one j : Int) = true := by
  have := clF4 one j
  unfold clB
  rw [decide_eq_true (show (0 : Int) ≤ (clF one j : Int) by omega), decide_eq_true (show (clF one j : Int) < 4 by omega)]; rfl
def ownC (one : Bool) (c i : Nat) : Nat := (List.range i).countP (fun j => clF one j == c)
theorem own_map (one : Bool) (c i : Nat) : ownN (c : Int) ((List.range i).map (itF one)) = ownC one c i := by
  unfold ownN ownC
  rw [List.countP_map]
  congr 1
  funext j
  show ((clF one j : Int) == (c : Int)) = (clF one j == c)
  rw [Bool.eq_iff_iff, beq_iff_eq, beq_iff_eq]
  omega
theorem own_many : ∀ i, i < 64 → ∀ c, c < 4 → ownC false c i < 24 := by decide +kernel
theorem own_one : ∀ i, i ≤ 24 → ownC true 1 i = i := by decide +kernel
structure FullS (one : Bool) (i : Nat) (b : Int) (s : Sp) : Prop where
  o : Op15 s
  its : s.its = (List.range (min i (capF one))).map (itF one)
  wts : s.wts = []
  sq : ∀ c, (lastOf s c).sq ≤ b
  now : s.now = 0
theorem full_new (one : Bool) : FullS one 0 0 (newS 15 15) := ⟨Op15.new, by simp [newS], rfl, fun c => by rw [last_new]; exact Int.le_refl _, rfl⟩
theorem FullS.un {one : Bool} {i : Nat} {b : Int} {s : Sp} (h : FullS one i b s) : ∀ y ∈ s.its, y.un = 0 := fun y hy => by
  rw [h.its] at hy
  obtain ⟨j, _, rfl⟩ := List.mem_map.1 hy
  rfl
theorem full_step1 {one : Bool} {i : Nat} {s : Sp} {F G : Nat → Fld} (h : FullS one i i s) (hi : i < 91) (g0 : G 0 = fN i) :
    (doP s 0 ⟨(clF one i : Int), (i : Int) + 1, 1, 0, 0, F, 1, G⟩).2 = [⟨(clF one i : Int), (i : Int) + 1, if i < capF one then 1 else 5, [], false⟩] ∧ FullS one (i + 1) ((i : Int) + 1) (doP s 0 ⟨(clF one i : Int), (i : Int) + 1, 1, 0, 0, F, 1, G⟩).1 := by
  have hv : mayV 1 G = true := one_V g0
  have hr : mayR ⟨(clF one i : Int), (i : Int) + 1, 1, 0, 0, F, 1, G⟩ = true := mayR_out (clB_clF one i) (by omega) (by omega) (by decide) (by decide) hv
  have hg : goOnP s 0 = s := by
    have := goOn_stay (s := s) 0 h.un
    rw [this, ← h.now]
  have hq : (lastOf s (⟨(clF one i : Int), (i : Int) + 1, 1, 0, 0, F, 1, G⟩ : Rq).cl).sq < (⟨(clF one i : Int), (i : Int) + 1, 1, 0, 0, F, 1, G⟩ : Rq).sq := by
    have := h.sq (clF one i : Int)
    show (lastOf s (clF one i : Int)).sq < (i : Int) + 1
    omega
  have ho := h.o.do 0 ⟨(clF one i : Int), (i : Int) + 1, 1, 0, 0, F, 1, G⟩
  have hn : s.now ≤ 0 := by rw [h.now]; exact Int.le_refl _
  by_cases hc : i < capF one
  · have hm : min i (capF one) = i := by omega
    have hlen : s.its.length = i := by rw [h.its, hm]; simp
    have hown : ownN (clF one i : Int) s.its < 24 := by
      rw [h.its, hm, own_map]
      cases one with
      | false => exact own_many i (by simpa [capF] using hc) _ (clF4 false i)
      | true =>
        have hc' : i < 24 := by simpa [capF] using hc
        show ownC true 1 i < 24
        rw [own_one i (by omega)]
        exact hc'
    have key := out_step h.o (now := 0) hr rfl hn (by decide) hq (by rw [hg, hlen]; unfold capF at hc; cases one <;> simp at hc <;> omega) (by rw [hg]; exact hown) (fun y hy => by rw [h.wts] at hy; cases hy)
    rw [key] at ho ⊢
    rw [hg] at ho ⊢
    refine ⟨by rw [if_pos hc]; rfl, ho, ?_, h.wts, note_sq (fun c => by have := h.sq c; omega) (Int.le_refl _), h.now⟩
    show s.its ++ [newIt s _] = _
    rw [show min (i + 1) (capF one) = i + 1 by omega, List.range_succ, List.map_append, h.its, hm]
    congr 1
    show [(⟨(clF one i : Int), 0, [G 0]⟩ : It)] = _
    rw [g0]; rfl
  · have hm : min i (capF one) = capF one := by omega
    have hlen : s.its.length = capF one := by rw [h.its, hm]; simp
    have key := full_step h.o (now := 0) hr rfl hn (by decide) hq (by
      rw [hg]
      cases one with
      | false => exact .inl (by rw [hlen]; decide)
      | true =>
        refine .inr ?_
        show 24 ≤ ownN ((1 : Nat) : Int) s.its
        rw [h.its, hm, own_map]
        show 24 ≤ ownC true 1 24
        rw [own_one 24 (by decide)]
        decide)
    rw [key] at ho ⊢
    rw [hg] at ho ⊢
    refine ⟨by rw [if_neg hc]; rfl, ho, ?_, h.wts, note_sq (fun c => by have := h.sq c; omega) (Int.le_refl _), h.now⟩
    show s.its = _
    rw [h.its, hm, show min (i + 1) (capF one) = capF one by omega]
structure FullW (i : Nat) (b : Int) (s : Sp) : Prop where
  o : Op15 s
  its : ∀ y ∈ s.its, y.un = 0 ∧ ∃ a, y.t = [fN a]
  wl : s.wts.length = min i 16
  sq : ∀ c, (lastOf s c).sq ≤ b
  now : s.now = 0
theorem FullS.wait {one : Bool} {i : Nat} {b : Int} {s : Sp} (h : FullS one i b s) : FullW 0 b s :=
  ⟨h.o, fun y hy => ⟨h.un y hy, by
    rw [h.its] at hy
    obtain ⟨j, _, rfl⟩ := List.mem_map.1 hy
    exact ⟨_, rfl⟩⟩, by rw [h.wts]; rfl, h.sq, h.now⟩
theorem full_wait {i : Nat} {b : Int} {s : Sp} {F G : Nat → Fld} (h : FullW i b s) (hi : i < 21) (hb : b < 200 + (i : Int)) (g0 : G 0 = fAT) :
    (doP s 0 ⟨((i % 4 : Nat) : Int), 200 + (i : Int), 5, 0, 1, G, 0, F⟩).2 = [⟨((i % 4 : Nat) : Int), 200 + (i : Int), if i < 16 then 4 else 5, [], false⟩] ∧ FullW (i + 1) (200 + (i : Int)) (doP s 0 ⟨((i % 4 : Nat) : Int), 200 + (i : Int), 5, 0, 1, G, 0, F⟩).1 := by
  have hr : mayR ⟨((i % 4 : Nat) : Int), 200 + (i : Int), 5, 0, 1, G, 0, F⟩ = true := mayR_look (mod4_cl i) (by omega) (by omega) (.inr (.inr (.inr rfl))) (one_P g0 okAT)
  have hg : goOnP s 0 = s := by
    have := goOn_stay (s := s) 0 (fun y hy => (h.its y hy).1)
    rw [this, ← h.now]
  have hn : s.now ≤ 0 := by rw [h.now]; exact Int.le_refl _
  have key := look_step h.o (now := 0) hr (.inr (.inr (.inr rfl))) hn (by decide) (by have := h.sq ((i % 4 : Nat) : Int); show (lastOf s ((i % 4 : Nat) : Int)).sq < 200 + (i : Int); omega)
  have ho := h.o.do 0 ⟨((i % 4 : Nat) : Int), 200 + (i : Int), 5, 0, 1, G, 0, F⟩
  have hf : fnd (qp ⟨((i % 4 : Nat) : Int), 200 + (i : Int), 5, 0, 1, G, 0, F⟩).p s.its = none := by
    rw [fnd_none]
    intro y hy
    obtain ⟨_, a, ha⟩ := h.its y hy
    show mT [G 0] y.t = false
    rw [g0, ha]
    exact mT_text a
  rw [key] at ho ⊢
  rw [hg, hf] at ho ⊢
  have hsq := fun x (hx : x.sq ≤ 200 + (i : Int)) => note_sq (s := s) (x := x) (fun c => by have := h.sq c; show (lastOf s c).sq ≤ 200 + (i : Int); omega) hx
  have e : ∀ q : Qp, q.kd = 5 → lookP s q none = if 16 ≤ s.wts.length then (s, tellP q 5) else ({ s with wts := s.wts ++ [⟨q.cl, q.sq, q.kd == 5, q.p⟩] }, tellP q 4) := fun q hk => by
    unfold lookP
    dsimp only
    rw [if_neg (show ¬ (q.kd = 2 ∨ q.kd = 3) by omega)]
  rw [e _ rfl] at ho ⊢
  by_cases h16 : i < 16
  · have hw : s.wts.length = i := by rw [h.wl]; omega
    rw [if_neg (show ¬ 16 ≤ s.wts.length by omega)] at ho ⊢
    refine ⟨by rw [if_pos h16]; rfl, ho, h.its, ?_, hsq _ (Int.le_refl _), h.now⟩
    show (s.wts ++ [_]).length = _
    rw [List.length_append, hw, List.length_singleton]
    omega
  · rw [if_pos (show 16 ≤ s.wts.length by rw [h.wl]; omega)] at ho ⊢
    refine ⟨by rw [if_neg h16]; rfl, ho, h.its, ?_, hsq _ (Int.le_refl _), h.now⟩
    show s.wts.length = _
    rw [h.wl]
    omega
end Go.Proofs.YtlamfdeepofenaaDoor
