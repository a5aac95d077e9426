/-
  PACKAGE lms, A PUBLIC KEY's BYTES: readKey.
-/
import Derived.Test.YtkcjiidimmefdaaDoorLmA
namespace Go.Proofs.YtkcjiidimmefdaaDoor
open Go Go.RowKit Sh

theorem Kept.at_below {B g : Nat} {a b : World} (h : Kept (fun k => k = g) a b) (hg : B ≤ g) (hB : B ≤ a.heap.size) : Below B a b :=
  (h.mono (G := fun k => B ≤ k) (fun k e => by subst e; exact hg)).to_below hB
/-- The cells of a public key: its width, I and the root. -/
def pkv (n : Nat) (J : List Nat) : List Value := .int .i64 (n : Int) :: u8s J
def pkz : List Value := pkv 0 (List.replicate 48 0)
theorem pkv_one (n : Nat) (J : List Nat) : (pkv n J).toArray.all (·.oneCell') = true := all_oneCell_toArray (fun v hv => by
  rcases List.mem_cons.1 hv with rfl | h
  · rfl
  · exact u8s_each _ _ h)
theorem pkz_one : pkz.toArray.all (·.oneCell') = true := pkv_one _ _
theorem pkv_length (n : Nat) (J : List Nat) (h : J.length = 48) : (pkv n J).length = 49 := by rw [pkv, List.length_cons, u8s_length, h]
/-- The form of a public key, as bytes. -/
def formN (xs : List Nat) : Bool := decide (xs.length = 56 ∧ val (xs.take 4) = 5 ∧ 1 ≤ val ((xs.drop 4).take 4) ∧ val ((xs.drop 4).take 4) ≤ 4)
/-- A row of bytes of the call's own, opened. -/
theorem own_bytes {w : World} {base : Nat} {v : Value} {l : List Nat} {n : Nat} (h : w.ownsRow base 5 1 v n (u8s l)) (hn : 0 < n) : ∃ g c, v = .slice (some ⟨g, 0, none⟩) n c ∧ n ≤ c ∧ w.rangeAt g 0 (u8s l) ∧ base ≤ g ∧ g < w.heap.size := by
  obtain ⟨g, cap, rfl, hb, hlt⟩ := h.form hn
  obtain ⟨_, _, e, hc⟩ := own_form h
  injection e with _ _ e
  subst e
  refine ⟨g, cap, rfl, hc, fun j v hv => ?_, hb, hlt⟩
  have := h.cells (g := g) rfl j v hv
  rwa [Addr.add_mid] at this
theorem rg_kept {F : Nat → Prop} {w w' : World} {b o : Nat} {cs : List Value} (h : w.rangeAt b o cs) (hk : Kept F w w') (hb : b < w.heap.size) (hf : ¬ F b) : w'.rangeAt b o cs := fun j v hv => (hk.cell (p := ⟨b, o + j, none⟩) hb hf).trans (h j v hv)
theorem arrayAt_ok (t n : Nat) (hu : Tryd.prog.underlying t = some (.array n 5)) (b o m c : Nat) (hm : n ≤ m) (W : World) : (Instr.arrayAt t (.slice (some ⟨b, o, none⟩) m c)).run Tryd.prog W = .ok (.pointer (some ⟨b, o, none⟩)) W := by
  simp [Instr.arrayAt, run_underlying hu, Result.andThen, Nat.not_lt.2 hm]
theorem wbuild3 {P : Program} {o : Oper} {a : Act} {w : World} {K : Act → World → Prop} {Q : Exit → Act → World → Prop} (t : TypeId) (x y z : Operand) (ho : o.op = .build t #[(0, x), (1, y), (2, z)]) (cs : List Value) (u v s : Value) (hx : a.eval x = u) (hy : a.eval y = v) (hz : a.eval z = s)
    (hb : P.built t [(0, u), (1, v), (2, s)] = some cs.toArray) (h : K (a.put o.dst (.agg cs.toArray)) w) : o.wp P a w K Q := by
  have e : ((#[(0, x), (1, y), (2, z)] : Array (Nat × Operand)).map fun (i, x) => (i, a.eval x)).toList = [(0, u), (1, v), (2, s)] := by simp [hx, hy, hz]
  unfold Oper.wp execOp
  simp only [ho, Sem.run_bind, run_build w t _ cs.toArray (by rw [e]; exact hb), Result.andThen_ok]
  exact h
theorem size16' (l : List Nat) (h : l.length = 16) : (Tryd.prog.info? 26).map (·.size) = some (u8s l).length := by
  rw [u8s_length, h]
  kernel_rfl
theorem split48 (xs : List Nat) (h : xs.length = 56) : ((xs.drop 4).drop 4).take 16 ++ (((xs.drop 4).drop 4).drop 16).take 32 = xs.drop 8 := by
  rw [List.take_of_length_le (l := ((xs.drop 4).drop 4).drop 16) (by simp [h]), List.take_append_drop, List.drop_drop]
end Go.Proofs.YtkcjiidimmefdaaDoor
