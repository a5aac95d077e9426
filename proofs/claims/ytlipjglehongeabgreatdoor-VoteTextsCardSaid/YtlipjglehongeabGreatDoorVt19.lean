/-
  PACKAGE space
-/
import Derived.Test.YtlipjglehongeabGreatDoorVt18
namespace Go.Proofs.YtlipjglehongeabGreatDoor
open Go Go.RowKit Sh

structure SF (B : Nat) (W : World) (x : Spv) : Prop where
  its : W.ownsRow B 101 3 (.slice x.ip x.its.length x.ic) x.its.length (x.its.flatMap iv)
  it : ∀ y ∈ x.its, FT W B y.p y.c y.i.t
  wts : W.ownsRow B 106 4 (.slice x.wp x.wts.length x.wc) x.wts.length (x.wts.flatMap wv)
  wt : ∀ y ∈ x.wts, FT W B y.p y.c y.x.p
  l4 : x.last.length = 4
  la : ∀ y ∈ x.last, FT W B y.p y.c y.r.t
structure CL (w0 W : World) (z : Spv) (x : Spv) (j k m : Nat) : Prop where
  box : Blk W w0.heap.size 75 (sv x)
  out : Blk W (w0.heap.size + 1) 75 [.int .i64 0, .slice none 0 0, .slice none 0 0, .int .i64 0, .int .i64 0, .int .i64 0, .int .i64 0, .int .i64 0, .slice none 0 0, .bool false, .int .i64 0, .int .i64 0, .int .i64 0, .slice none 0 0, .bool false, .int .i64 0, .int .i64 0, .int .i64 0, .slice none 0 0, .bool false, .int .i64 0, .int .i64 0, .int .i64 0, .slice none 0 0, .bool false]
  its : W.ownsRow w0.heap.size 101 3 (.slice x.ip x.its.length x.ic) x.its.length (x.its.flatMap iv)
  it : ∀ i y, i < j → x.its[i]? = some y → FT W w0.heap.size y.p y.c y.i.t
  itz : ∀ i, j ≤ i → x.its[i]? = z.its[i]?
  wts : 0 < k → W.ownsRow w0.heap.size 106 4 (.slice x.wp x.wts.length x.wc) x.wts.length (x.wts.flatMap wv)
  wt : ∀ i y, i + 1 < k → x.wts[i]? = some y → FT W w0.heap.size y.p y.c y.x.p
  wtz : ∀ i, k ≤ i + 1 → x.wts[i]? = z.wts[i]?
  l4 : x.last.length = 4
  la : ∀ i y, i < m → x.last[i]? = some y → FT W w0.heap.size y.p y.c y.r.t
  laz : ∀ i, m ≤ i → x.last[i]? = z.last[i]?
  sp : x.sp = z.sp
  wpz : k = 0 → x.wp = z.wp ∧ x.wc = z.wc ∧ x.wts = z.wts
  bel : Below w0.heap.size w0 W
def svL (x : Spv) (j : Nat) : List Value := svA x ++ (x.last.take j).flatMap pv
def svR (x : Spv) (j : Nat) : List Value := (x.last.drop (j + 1)).flatMap pv
theorem svL_len (x : Spv) (j : Nat) (h : j ≤ x.last.length) : (svL x j).length = 5 + j * 5 := by
  unfold svL
  rw [List.length_append, flat_length pv_len, List.length_take, Nat.min_eq_left h]
  rfl
theorem sv_at (x : Spv) (j : Nat) (y : Rpv) (hy : x.last[j]? = some y) : sv x = svL x j ++ (pv y ++ svR x j) := by
  obtain ⟨hj, rfl⟩ := List.getElem?_eq_some_iff.1 hy
  have e : x.last = x.last.take j ++ (x.last[j] :: x.last.drop (j + 1)) := by rw [← List.drop_eq_getElem_cons hj, List.take_append_drop]
  show svA x ++ x.last.flatMap pv = _
  conv => lhs; rw [e]
  unfold svL svR
  rw [List.flatMap_append, List.flatMap_cons, List.append_assoc]
theorem sv_put (x : Spv) (j : Nat) (y y' : Rpv) (hy : x.last[j]? = some y) : sv { x with last := x.last.set j y' } = svL x j ++ (pv y' ++ svR x j) := by
  obtain ⟨hj, rfl⟩ := List.getElem?_eq_some_iff.1 hy
  show svA x ++ (x.last.set j y').flatMap pv = _
  rw [List.set_eq_take_append_cons_drop, if_pos hj]
  unfold svL svR
  rw [List.flatMap_append, List.flatMap_cons, List.append_assoc]
theorem sv_one (x : Spv) : (sv x).toArray.all (·.oneCell') = true := by
  rw [Array.all_eq_true']
  intro v hv
  have hv : v ∈ sv x := by simpa using hv
  unfold sv at hv
  rcases List.mem_append.1 hv with h | h
  · simp only [List.mem_cons, List.not_mem_nil, or_false] at h
    rcases h with rfl | rfl | rfl | rfl | rfl <;> rfl
  · exact flat_one pv_one x.last v h
end Go.Proofs.YtlipjglehongeabGreatDoor
