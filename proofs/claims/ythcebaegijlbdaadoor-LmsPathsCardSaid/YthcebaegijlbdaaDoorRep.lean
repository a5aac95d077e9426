/-
  A Digest's three parts stand for a text: taking more bytes, and what finish makes of them, in plain terms.
-/
import Derived.Test.YthcebaegijlbdaaDoorFin
namespace Go.Proofs.YthcebaegijlbdaaDoor
open Sh

theorem first_congr {l l' : List Nat} {a a' : Nat} : ∀ n, (∀ j, j < 4 * n → gt l (a + j) = gt l' (a' + j)) → first l a n = first l' a' n
  | 0, _ => rfl
  | n + 1, h => by
    have e : word l a n = word l' a' n := by
      unfold word
      rw [show a + 4 * n + 1 = a + (4 * n + 1) from rfl, show a + 4 * n + 2 = a + (4 * n + 2) from rfl, show a + 4 * n + 3 = a + (4 * n + 3) from rfl,
        show a' + 4 * n + 1 = a' + (4 * n + 1) from rfl, show a' + 4 * n + 2 = a' + (4 * n + 2) from rfl, show a' + 4 * n + 3 = a' + (4 * n + 3) from rfl,
        h (4 * n) (by omega), h (4 * n + 1) (by omega), h (4 * n + 2) (by omega), h (4 * n + 3) (by omega)]
    unfold first
    rw [first_congr n (fun j hj => h j (by omega)), e]
theorem sched_congr {l l' : List Nat} {a a' : Nat} (h : ∀ j, j < 64 → gt l (a + j) = gt l' (a' + j)) : sched l a = sched l' a' := by
  unfold sched; rw [first_congr 16 (fun j hj => h j (by omega))]
theorem run_congr {l l' : List Nat} : ∀ n, (∀ j, j < 64 * n → gt l j = gt l' j) → run l n = run l' n
  | 0, _ => rfl
  | n + 1, h => by
    unfold run
    rw [run_congr n (fun j hj => h j (by omega)), sched_congr (fun j hj => h (64 * n + j) (by omega))]

/-- s, r stand for the text l: the state behind its whole blocks, and the bytes behind them. -/
structure Rep (s : S8) (r l : List Nat) : Prop where
  ok : s.ok
  state : s = run l (l.length / 64)
  len : r.length = 64
  bytes : Bytes r
  rest : ∀ j, j < l.length % 64 → gt r j = gt l (64 * (l.length / 64) + j)
theorem Rep.nil {r : List Nat} (hr : r.length = 64) (hb : Bytes r) : Rep h0 r [] := ⟨h0_ok, rfl, hr, hb, fun j hj => absurd hj (by simp)⟩

/-- What a copy of ys into r at k leaves. -/
def put (r : List Nat) (k : Nat) (ys : List Nat) : List Nat := r.take k ++ (ys ++ r.drop (k + ys.length))
theorem put_length {r ys : List Nat} {k : Nat} (hr : r.length = 64) (h : k + ys.length ≤ 64) : (put r k ys).length = 64 := by simp [put, hr]; omega
theorem put_front {r ys : List Nat} {k j : Nat} (hk : k ≤ r.length) (hj : j < k) : gt (put r k ys) j = gt r j := by
  unfold put
  rw [gt_app_left (by simp; omega)]
  simp [gt, List.getD_eq_getElem?_getD, hj]
theorem put_mid {r ys : List Nat} {k j : Nat} (hk : k ≤ r.length) (hj : j < ys.length) : gt (put r k ys) (k + j) = gt ys j := by
  unfold put
  rw [gt_app_right (by simp; omega), gt_app_left (by simp; omega)]
  congr 1; simp; omega
theorem put_bytes {r ys : List Nat} {k : Nat} (hr : Bytes r) (hy : Bytes ys) : Bytes (put r k ys) := by
  rw [bytes_mem] at *
  intro x hx
  rcases List.mem_append.1 hx with h | h
  · exact hr x (List.mem_of_mem_take h)
  · rcases List.mem_append.1 h with h | h
    · exact hy x h
    · exact hr x (List.mem_of_mem_drop h)
theorem Rep.more {s : S8} {r l ys : List Nat} (h : Rep s r l) (hy : Bytes ys) (hlt : l.length % 64 + ys.length < 64) : Rep s (put r (l.length % 64) ys) (l ++ ys) := by
  have e : (l ++ ys).length / 64 = l.length / 64 := by rw [List.length_append]; omega
  have e2 : (l ++ ys).length % 64 = l.length % 64 + ys.length := by rw [List.length_append]; omega
  refine ⟨h.ok, ?_, put_length h.len (by omega), put_bytes h.bytes hy, ?_⟩
  · rw [e, h.state]
    exact run_congr _ (fun j hj => (gt_app_left (by omega)).symm)
  · intro j hj
    rw [e2] at hj
    rw [e]
    have hl := h.len
    rcases Nat.lt_or_ge j (l.length % 64) with hj2 | hj2
    · rw [put_front (by omega) hj2, h.rest j hj2, gt_app_left (by omega)]
    · obtain ⟨i, rfl⟩ : ∃ i, j = l.length % 64 + i := ⟨j - l.length % 64, by omega⟩
      rw [put_mid (by omega) (by omega), gt_app_right (by omega)]
      congr 1; omega
theorem Rep.full {s : S8} {r l ys : List Nat} (h : Rep s r l) (hy : Bytes ys) (hlt : l.length % 64 + ys.length = 64) : Rep (cmp s (sched (put r (l.length % 64) ys) 0)) (put r (l.length % 64) ys) (l ++ ys) := by
  have e : (l ++ ys).length / 64 = l.length / 64 + 1 := by rw [List.length_append]; omega
  have e2 : (l ++ ys).length % 64 = 0 := by rw [List.length_append]; omega
  refine ⟨cmp_ok _ _, ?_, put_length h.len (by omega), put_bytes h.bytes hy, fun j hj => absurd hj (by omega)⟩
  rw [e]
  unfold run
  rw [h.state, run_congr (l := l ++ ys) (l' := l) _ (fun j hj => gt_app_left (by omega))]
  refine congrArg (cmp _) ?_
  refine sched_congr (fun j hj => ?_)
  rw [Nat.zero_add]
  have hl := h.len
  rcases Nat.lt_or_ge j (l.length % 64) with hj2 | hj2
  · rw [put_front (by omega) hj2, h.rest j hj2, gt_app_left (by omega)]
  · obtain ⟨i, rfl⟩ : ∃ i, j = l.length % 64 + i := ⟨j - l.length % 64, by omega⟩
    rw [put_mid (by omega) (by omega), gt_app_right (by omega)]
    congr 1; omega

theorem gt_rep (n i : Nat) : gt (List.replicate n 0) i = 0 := by
  unfold gt
  rw [List.getD_eq_getElem?_getD, List.getElem?_replicate]
  by_cases h : i < n <;> simp [h]
theorem pad_length (l : List Nat) : (pad l).length = l.length + 9 + zeros l.length := by simp [pad, len8]; omega
theorem finA_gt {r : List Nat} {k : Nat} (hr : r.length = 64) (hk : k < 64) (j : Nat) (_ : j < 64) : gt (finA r k) j = if j < k then gt r j else if j = k then 128 else 0 := by
  unfold finA
  rcases Nat.lt_or_ge j (k + 1) with h | h
  · rw [gt_app_left (by simp [hr]; omega)]
    have e : gt ((r.set k 128).take (k + 1)) j = gt (r.set k 128) j := by simp [gt, List.getD_eq_getElem?_getD, h]
    rw [e]
    by_cases hjk : j = k
    · subst hjk
      rw [if_neg (by omega), if_pos rfl, gt_of_lt (by simp [hr]; omega)]
      simp
    · rw [if_pos (by omega)]
      unfold gt
      rw [List.getD_eq_getElem?_getD, List.getElem?_set_ne (by omega), ← List.getD_eq_getElem?_getD]
  · rw [gt_app_right (by simp [hr]; omega), gt_rep, if_neg (by omega), if_neg (by omega)]
theorem finC_gt {r : List Nat} {n : Nat} (hr : r.length = 64) (j : Nat) (hj : j < 64) : gt (finC r n 8) j = if j < 56 then gt r j else gt (len8 (8 * n)) (j - 56) := by
  unfold finC
  rcases Nat.lt_or_ge j 56 with h | h
  · rw [gt_app_left (by simp [hr]; omega), if_pos h]
    simp [gt, List.getD_eq_getElem?_getD, h]
  · rw [gt_app_right (by simp [hr]; omega), if_neg (by omega), gt_app_left (by simp [hr, len8_length]; omega)]
    have e : (r.take 56).length = 56 := by simp [hr]
    rw [e]
    have e2 : (len8 (8 * n)).take 8 = len8 (8 * n) := by rw [List.take_of_length_le (by rw [len8_length]; omega)]
    rw [e2]
theorem pad_gt (l : List Nat) (j : Nat) : gt (pad l) j = if j < l.length then gt l j else if j = l.length then 128 else if j < l.length + 1 + zeros l.length then 0 else gt (len8 (8 * l.length)) (j - (l.length + 1 + zeros l.length)) := by
  unfold pad
  rcases Nat.lt_trichotomy j l.length with h | h | h
  · rw [gt_app_left h, if_pos h]
  · subst h
    rw [gt_app_right (Nat.le_refl _), if_neg (by omega), if_pos rfl, Nat.sub_self]; rfl
  · rw [gt_app_right (by omega), if_neg (by omega), if_neg (by omega)]
    obtain ⟨i, rfl⟩ : ∃ i, j = l.length + 1 + i := ⟨j - l.length - 1, by omega⟩
    rw [show l.length + 1 + i - l.length = i + 1 from by omega]
    have e : gt (128 :: (List.replicate (zeros l.length) 0 ++ len8 (8 * l.length))) (i + 1) = gt (List.replicate (zeros l.length) 0 ++ len8 (8 * l.length)) i := by simp [gt]
    rw [e]
    rcases Nat.lt_or_ge i (zeros l.length) with hi | hi
    · rw [gt_app_left (by simpa using hi), if_pos (by omega), gt_rep]
    · rw [gt_app_right (by simpa using hi), if_neg (by omega), List.length_replicate]
      congr 1; omega
/-- What finish makes is SHA-256 of the text. -/
theorem fin_sum {s : S8} {r l : List Nat} (h : Rep s r l) (n : Nat) (hn : n = l.length) : out (fin s r n) = sum l := by
  subst hn
  unfold sum
  refine congrArg out ?_
  have hs : (if l.length = 0 then h0 else s) = s := by
    by_cases h0' : l.length = 0
    · rw [if_pos h0', h.state, h0']; rfl
    · rw [if_neg h0']
  unfold fin finD
  rw [hs]
  have hk : l.length % 64 < 64 := Nat.mod_lt _ (by decide)
  have hr := h.len
  have base : run (pad l) (l.length / 64) = s := by
    rw [h.state]
    refine run_congr _ (fun j hj => ?_)
    rw [pad_gt, if_pos (by omega)]
  have hA : ∀ j, j < 64 → (j < l.length % 64 + 1 + zeros l.length) → gt (finA r (l.length % 64)) j = gt (pad l) (64 * (l.length / 64) + j) := by
    intro j hj hz
    rw [finA_gt hr hk j hj, pad_gt]
    by_cases h1 : j < l.length % 64
    · rw [if_pos h1, if_pos (by omega), h.rest j h1]
    · rw [if_neg h1, if_neg (show ¬ 64 * (l.length / 64) + j < l.length by omega)]
      by_cases h2 : j = l.length % 64
      · rw [if_pos h2, if_pos (by omega)]
      · rw [if_neg h2, if_neg (by omega), if_pos (by omega)]
  have hz : zeros l.length = (119 - l.length % 64) % 64 := rfl
  unfold finB
  by_cases h56 : 56 ≤ l.length % 64
  · rw [if_pos h56]
    have hzv : zeros l.length = 119 - l.length % 64 := by rw [hz]; omega
    have hn : nblk l.length = l.length / 64 + 2 := by unfold nblk; omega
    rw [hn]
    have e1 : run (pad l) (l.length / 64 + 1) = cmp s (sched (finA r (l.length % 64)) 0) := by
      show cmp (run (pad l) (l.length / 64)) (sched (pad l) (64 * (l.length / 64))) = _
      rw [base]
      refine congrArg (cmp _) ?_
      exact (sched_congr (fun j hj => by rw [Nat.zero_add]; exact hA j hj (by omega))).symm
    show _ = cmp (run (pad l) (l.length / 64 + 1)) (sched (pad l) (64 * (l.length / 64 + 1)))
    rw [e1]
    refine congrArg (cmp _) ?_
    refine sched_congr (fun j hj => ?_)
    rw [Nat.zero_add, finC_gt List.length_replicate j hj, pad_gt, if_neg (show ¬ 64 * (l.length / 64 + 1) + j < l.length by omega), if_neg (show ¬ 64 * (l.length / 64 + 1) + j = l.length by omega), gt_rep]
    by_cases hj56 : j < 56
    · rw [if_pos hj56, if_pos (by omega)]
    · rw [if_neg hj56, if_neg (by omega)]
      congr 1; omega
  · rw [if_neg h56]
    have hzv : zeros l.length = 55 - l.length % 64 := by rw [hz]; omega
    have hn : nblk l.length = l.length / 64 + 1 := by unfold nblk; omega
    rw [hn]
    show _ = cmp (run (pad l) (l.length / 64)) (sched (pad l) (64 * (l.length / 64)))
    rw [base]
    refine congrArg (cmp _) ?_
    refine sched_congr (fun j hj => ?_)
    rw [Nat.zero_add, finC_gt (finA_length r _ hr hk) j hj]
    by_cases hj56 : j < 56
    · rw [if_pos hj56, hA j hj (by omega)]
    · rw [if_neg hj56, pad_gt, if_neg (by omega), if_neg (by omega), if_neg (by omega)]
      congr 1; omega
end Go.Proofs.YthcebaegijlbdaaDoor
