/-
  PACKAGE tuple: append of rows of fields.
-/
import Derived.Test.YtigbnjgmdgkgjaaDoorTpT
namespace Go.Proofs.YtigbnjgmdgkgjaaDoor
open Go Go.RowKit Sh

theorem rowC_get (G : Nat → Fld) : ∀ n j i, j < n → i < 3 → (rowC G n)[j * 3 + i]? = (fv (G j))[i]?
  | 0, j, _, hj, _ => absurd hj (by omega)
  | n + 1, j, i, hj, hi => by
    rw [rowC]
    rcases Nat.lt_or_ge j n with hlt | hge
    · rw [List.getElem?_append_left (by rw [rowC_length]; omega), rowC_get G n j i hlt hi]
    · obtain rfl : j = n := by omega
      rw [List.getElem?_append_right (by rw [rowC_length]; omega), rowC_length, Nat.add_sub_cancel_left]
theorem rowC_one (G : Nat → Fld) : ∀ n, ∀ v ∈ rowC G n, v.oneCell' = true
  | 0 => fun v hv => absurd hv List.not_mem_nil
  | n + 1 => fun v hv => by
    rcases List.mem_append.1 hv with h | h
    · exact rowC_one G n v h
    · simp only [fv, List.mem_cons, List.not_mem_nil, or_false] at h
      rcases h with rfl | rfl | rfl <;> rfl
/-- A row that is the call's own reads as one. -/
theorem rw_of_own {W : World} {base n c : Nat} {A : Option Addr} {G : Nat → Fld} (h : W.ownsRow base 40 3 (.slice A n c) n (rowC G n)) : Rw W A n G := fun j hj => by
  rcases h.2 with ⟨_, h0⟩ | ⟨g, cap, cur, e, _, hh, _⟩
  · omega
  · have hA : A = some ⟨g, 0, none⟩ := by injection e
    subst hA
    refine ⟨g, 0, rfl, (Array.getElem?_eq_some_iff.1 hh).1, fun i v hv => ?_⟩
    have hi : i < 3 := (List.getElem?_eq_some_iff.1 hv).1
    rw [show 0 + j * 3 + i = j * 3 + i by omega, h.cellAt (j * 3 + i) (by omega), rowC_get G n j i hj hi]
    exact hv
/-- The row of fields at an address, cell by cell. -/
theorem Rw.flat {W : World} {p : Option Addr} {n : Nat} {G : Nat → Fld} (h : Rw W p n G) (hn : 0 < n) : ∃ a : Addr, p = some a ∧ a.spot = none ∧ ∀ j u, (rowC G n)[j]? = some u → W.cell? (a.add j) = some u := by
  obtain ⟨b, o, rfl, _, _⟩ := h 0 hn
  refine ⟨⟨b, o, none⟩, rfl, rfl, fun j u hu => ?_⟩
  have hj : j < n * 3 := by have := (List.getElem?_eq_some_iff.1 hu).1; rwa [rowC_length] at this
  obtain ⟨b', o', e, _, r⟩ := h (j / 3) (by omega)
  injection e with e
  injection e with e1 e2
  subst e1 e2
  rw [show j = j / 3 * 3 + j % 3 by omega, rowC_get G n (j / 3) (j % 3) (by omega) (by omega)] at hu
  have := r (j % 3) u hu
  rw [show o + j / 3 * 3 + j % 3 = o + j by omega] at this
  rw [show (⟨b, o, none⟩ : Addr).add j = ⟨b, o + j, none⟩ by unfold Addr.add; split <;> simp_all]
  exact this
section
variable {ops : Array Oper} {rest : List Oper} {o : Oper} {a : Act} {Q : Exit → Act → World → Prop} {w : World}
theorem run_append_flds (ty : TypeId) (base : Nat) (v : Value) (n : Nat) (xs : List Value) (hown : w.ownsRow base 40 3 v n xs) (p : Option Addr) (m c : Nat) (H : Nat → Fld) (hm : 0 < m) (hp : Rw w p m H) (h63 : n + m ≤ 1000000) (hbase : base ≤ w.heap.size) :
    ∃ v' w', (Builtin.append_ #[22, 22] ty #[v, .slice p m c]).run Tryd.prog w = .ok v' w' ∧ w'.ownsRow base 40 3 v' (n + m) (xs ++ rowC H m) ∧ w.grownBy w' v.ownBlock ∧ (v'.ownBlock = v.ownBlock ∨ v'.ownBlock = some w.heap.size) := by
  have hinfo : (Tryd.prog.info? 40).map (fun i => (i.zero, i.size, i.bytes)) = some (some (.agg zC), 3, 32) := by kernel_rfl
  obtain ⟨i, hi, hzz⟩ := Option.map_eq_some_iff.1 hinfo
  simp only [Prod.mk.injEq] at hzz
  obtain ⟨hz, hs, hb⟩ := hzz
  obtain ⟨ad, rfl, _, hc⟩ := hp.flat hm
  obtain ⟨v', w', hr, h2, h3, _, h5⟩ := run_append_own_at (P := Tryd.prog) w base 22 ty 40 i (.agg zC) 3 32 Tryd.underlying22 hi hz hs hb rfl (by omega) v n xs hown ad m c (rowC H m) (by rw [rowC_length]) hc (rowC_one H m) (by simp only [maxLen]; omega) (by omega) hbase
  exact ⟨v', w', hr, h2, h3, h5⟩
theorem append_flds (s x : Operand) (hgd : o.guard = none) (ho : o.op = .call { callee := .builtin .append, args := #[s, x], argTypes := #[22, 22] })
    (base : Nat) (v : Value) (n : Nat) (xs : List Value) (hs : a.eval s = v) (hown : w.ownsRow base 40 3 v n xs) (p : Option Addr) (m c : Nat) (hx : a.eval x = .slice p m c) (H : Nat → Fld) (hm : 0 < m) (hp : Rw w p m H) (h63 : n + m ≤ 1000000) (hbase : base ≤ w.heap.size)
    (h : ∀ v' w', Hid (w'.ownsRow base 40 3 v' (n + m) (xs ++ rowC H m)) → Hid (w.grownBy w' v.ownBlock) → Hid (v'.ownBlock = v.ownBlock ∨ v'.ownBlock = some w.heap.size) → wpList Tryd.prog ops Q rest (a.put o.dst v') w') : wpList Tryd.prog ops Q (o :: rest) a w := by
  refine wpList_plain hgd fun K hK => ?_
  obtain ⟨v', w', hr, h2, h3, h5⟩ := run_append_flds (w := w) o.type base v n xs hown p m c H hm hp h63 hbase
  unfold Oper.wp execOp
  simp only [ho, resolve, invoke, builtin, Sem.run_bind, Sem.run_pure, Result.andThen_ok, List.map_toArray, List.map_cons, List.map_nil, hs, hx, hr]
  exact hK _ _ (h v' w' (Lib.hid h2) (Lib.hid h3) (Lib.hid h5))
theorem own_emptyF (w : World) (base : Nat) (h : base ≤ w.heap.size) : (w.alloc (.cells #[] 40)).ownsRow base 40 3 (.slice (some ⟨w.heap.size, 0, none⟩) 0 0) 0 [] := by
  have := World.ownsRow_lit w (e := 40) (size := 3) (base := base) #[] 0 h (Nat.zero_le _) rfl
  simpa using this
end
end Go.Proofs.YtigbnjgmdgkgjaaDoor
