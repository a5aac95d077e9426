/-
  LAYER 8: what its laws share: Do of a space that all may use, with its answer given; numbers of a law; requests that are built.
-/
import Derived.Test.YtojianpbjckipaaDoorSpX
import Derived.Test.YtojianpbjckipaaDoorSpV
import Derived.Test.YtojianpbjckipaaDoorSrP
namespace Go.Proofs.YtojianpbjckipaaDoor
open Go Go.RowKit Sh

theorem mod_s (m : Nat) (hm : 0 < m) (hm2 : m ≤ 1000) (n : Int) : ∃ k : Nat, k < m ∧ wrap64 ((IntKind.u64.wrap n).tmod (m : Int)) = (k : Int) := by
  have h0 : 0 ≤ IntKind.u64.wrap n := by simp [IntKind.wrap, IntKind.bits, IntKind.signed]; omega
  rw [Int.tmod_eq_emod_of_nonneg h0]
  generalize IntKind.u64.wrap n = x at *
  have h3 : 0 ≤ x % (m : Int) := Int.emod_nonneg _ (by omega)
  have h4 : x % (m : Int) < (m : Int) := Int.emod_lt_of_pos _ (by omega)
  refine ⟨(x % (m : Int)).toNat, by omega, ?_⟩
  generalize x % (m : Int) = y at *
  unfold wrap64
  omega
def z0 : Nat → Fld := fun _ => f0
/-- What Do leaves of a space that may be. -/
theorem DoM (x : Spv) (now : Int) (r : Rv) (w : World) (hx : SpW w x) (ho : MayS x.sp) (hr : RvW w r) (hn : r.r.n ≤ 1000) (hm : r.r.m ≤ 1000) (hu : UT w) (y : Sp × List Rp) (hy : doP x.sp now r.r = y) :
    Calls Tryd.prog 9 #[.agg (sv x).toArray, .int .i64 now, .agg (rv r).toArray] w fun e w' => ∃ (x' : Spv) (R : List Rpv) (q : Option Addr) (c : Nat), e = .returned (.tuple #[.agg (sv x').toArray, .slice q R.length c]) ∧ x'.sp = y.1 ∧ R.map (·.r) = y.2 ∧ SF w.heap.size w' x' ∧ SpW w' x' ∧ MayS x'.sp ∧ w'.ownsRow w.heap.size 28 5 (.slice q R.length c) R.length (R.flatMap pv) ∧ (∀ y ∈ R, FT w' w.heap.size y.p y.c y.r.t) ∧ (r.r.kd = 2 → ∀ y ∈ R, AP y x') ∧ Below w.heap.size w w' := by
  refine (Do_t x now r w hx ho.small hr hn hm hu).mono ?_
  rintro e w' ⟨x', R, q, c, he, p, rr, sf, o, ft, ap, b⟩
  have hm' : MayS x'.sp := by rw [p]; exact (do_ok ho now r.r).1
  exact ⟨x', R, q, c, he, p.trans (congrArg Prod.fst hy), rr.trans (congrArg Prod.snd hy), sf, sf.w hm'.small, hm', o, ft, ap, b⟩
theorem built_out (k q le : Int) (p : Option Addr) (n c : Nat) (F G : Nat → Fld) : Tryd.prog.built 35 [(0, .int .i64 k), (1, .int .i64 q), (2, .int .i64 1), (4, .slice p n c), (5, .int .i64 le)] = some (rv ⟨⟨k, q, 1, le, 0, F, n, G⟩, none, 0, p, c⟩).toArray := by kernel_rfl
theorem built_out0 (q : Int) (p : Option Addr) (n c : Nat) (F G : Nat → Fld) : Tryd.prog.built 35 [(1, .int .i64 q), (2, .int .i64 1), (4, .slice p n c)] = some (rv ⟨⟨0, q, 1, 0, 0, F, n, G⟩, none, 0, p, c⟩).toArray := by kernel_rfl
theorem built_look (k q d : Int) (p : Option Addr) (n c : Nat) (F G : Nat → Fld) : Tryd.prog.built 35 [(0, .int .i64 k), (1, .int .i64 q), (2, .int .i64 d), (3, .slice p n c)] = some (rv ⟨⟨k, q, d, 0, n, G, 0, F⟩, p, c, none, 0⟩).toArray := by kernel_rfl
theorem built_look0 (q d : Int) (p : Option Addr) (n c : Nat) (F G : Nat → Fld) : Tryd.prog.built 35 [(1, .int .i64 q), (2, .int .i64 d), (3, .slice p n c)] = some (rv ⟨⟨0, q, d, 0, n, G, 0, F⟩, p, c, none, 0⟩).toArray := by kernel_rfl
/-- A space as a new one is. -/
theorem new_sp (w : World) : ∃ x0, nsp 15 15 0 1 2 3 = x0 ∧ SpW w x0 ∧ x0.sp = newS 15 15 := ⟨_, rfl, nsp_w 15 15 0 1 2 3 w, nsp_sp 15 15⟩
theorem cell_its {W : World} {g : Nat} {x : Spv} (h : KSp W g x) : W.cell? ⟨g, 1, none⟩ = some (.slice x.ip x.its.length x.ic) := (sv_cells h.box).2.1
theorem its_len {x : Spv} {s : Sp} (h : x.sp = s) : x.its.length = s.its.length := by rw [← h]; exact (List.length_map _).symm
theorem wts_len {x : Spv} {s : Sp} (h : x.sp = s) : x.wts.length = s.wts.length := by rw [← h]; exact (List.length_map _).symm
theorem no_rows {R : List Rpv} (h : R.map (·.r) = []) : R = [] := List.map_eq_nil_iff.1 h
/-- The reply's kind, in its row's block. -/
structure RO (W : World) (b : Nat) (y : Rpv) : Prop where
  lt : b < W.heap.size
  at_ : W.rangeAt b 0 (pv y)
theorem RO.below {W W' : World} {b : Nat} {y : Rpv} (h : RO W b y) (hb : Below W.heap.size W W') : RO W' b y := ⟨Nat.lt_of_lt_of_le h.lt hb.size, rows_below h.at_ hb h.lt⟩
theorem RO.cells {W : World} {b : Nat} {y : Rpv} (h : RO W b y) : W.cell? ⟨b, 0, none⟩ = some (.int .i64 y.r.cl) ∧ W.cell? ⟨b, 1, none⟩ = some (.int .i64 y.r.sq) ∧ W.cell? ⟨b, 2, none⟩ = some (.int .i64 y.r.kd) ∧ W.cell? ⟨b, 3, none⟩ = some (.slice y.p y.r.t.length y.c) ∧ W.cell? ⟨b, 4, none⟩ = some (.bool y.r.lt) := by
  have h0 := h.at_ 0 _ rfl; have h1 := h.at_ 1 _ rfl; have h2 := h.at_ 2 _ rfl; have h3 := h.at_ 3 _ rfl; have h4 := h.at_ 4 _ rfl
  simp only [Nat.zero_add] at h0 h1 h2 h3 h4
  exact ⟨h0, h1, h2, h3, h4⟩
theorem rep_one {W : World} {B c : Nat} {q : Option Addr} {R : List Rpv} {r : Rp} (h : W.ownsRow B 28 5 (.slice q R.length c) R.length (R.flatMap pv)) (hr : R.map (·.r) = [r]) : ∃ y b, R = [y] ∧ y.r = r ∧ q = some ⟨b, 0, none⟩ ∧ RO W b y := by
  obtain ⟨y, b, e1, e2, e3, e4, e5⟩ := rows_one h hr
  exact ⟨y, b, e1, e2, e3, ⟨e4, e5⟩⟩
end Go.Proofs.YtojianpbjckipaaDoor
