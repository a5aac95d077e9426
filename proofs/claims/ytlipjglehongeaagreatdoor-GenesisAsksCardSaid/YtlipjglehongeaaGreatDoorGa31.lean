/-
  THE REFERENCE
  PACKAGE space, what is pure, for its laws
-/
import Derived.Test.YtlipjglehongeaaGreatDoorGa9
import Derived.Test.YtlipjglehongeaaGreatDoorGa28
import Derived.Test.YtlipjglehongeaaGreatDoorGa13
namespace Go.Proofs.YtlipjglehongeaaGreatDoor
open Go Go.RowKit Sh

set_option maxRecDepth 100000 in
theorem refOwn_t (x : Spv) (c : Int) (w : World) (hx : SpW w x) :
    Calls Tryz.prog 122 #[.agg (sv x).toArray, .int .i64 c] w fun e w' => e = .returned (.int .i64 (ownN c x.sp.its : Nat)) ∧ Below w.heap.size w w' := by
  have S0 := Lib.hid (SB.new hx)
  have HN := Lib.hid hx.n
  show Calls _ _ _ _ fun e w' => e = .returned (.int .i64 (ownN c (x.its.map (·.i)) : Nat)) ∧ _
  clear hx
  go_enter Tryz.func122, Tryz.ntmps122
  go_upto_region 1 with (fail)
  change Code.wp _ _ _ _ (w.alloc (.cells (sv x).toArray 46))
  obtain ⟨V, hV⟩ : ∃ V, w.alloc (.cells (sv x).toArray 46) = V := ⟨_, rfl⟩
  rw [hV] at S0 ⊢
  clear hV
  obtain ⟨_, c1, _, _, _⟩ := sv_cells S0.out.a
  have HI := Lib.hid S0.out.rx.its
  obtain ⟨ip, hip⟩ : ∃ p, x.ip = p := ⟨_, rfl⟩
  obtain ⟨n, hn⟩ : ∃ n, x.its.length = n := ⟨_, rfl⟩
  rw [hip, hn] at c1
  rw [hip] at HI
  rw [hn] at HN
  have HL := Lib.hid hn
  have nB : (n : Int) ≤ 9223372036854775807 := by have := HN.out; omega
  clear hip hn
  go_upto_region 3 with (fail)
  go_loopw [5, 6] (fun s t wr => ∃ j cn : Nat, j ≤ n ∧ s = .int .i64 (cn : Int) ∧ t = .int .i64 (j : Int) ∧ cn = ownN c ((x.its.take j).map (·.i)) ∧ V = wr) (fun _ t _ => n - (intOf t).toNat)
  case atStart => exact ⟨0, 0, by omega, rfl, rfl, rfl, rfl⟩
  case round =>
    obtain ⟨j, cn, hj, rfl, rfl, hcn, rfl⟩ := hrel
    by_cases hlt : j < n
    · obtain ⟨y, hy⟩ : ∃ y, x.its[j]? = some y := ⟨_, List.getElem?_eq_getElem (by rw [HL.out]; exact hlt)⟩
      obtain ⟨b, o, rfl, hbl, rg⟩ := HI.out j y hy
      have y0 : V.cell? ⟨b, o + j * 3, none⟩ = some (.int .i64 y.i.own) := rg 0 _ rfl
      have j1 : (j : Int) < (n : Int) := by omega
      have hs : ownN c ((x.its.take (j + 1)).map (·.i)) = cn + if y.i.own == c then 1 else 0 := by rw [take_snoc hy, List.map_append, hcn]; exact ownN_snoc _ _ _
      have cb : cn ≤ j := by
        rw [hcn]
        exact Nat.le_trans (ownN_le _ _) (by rw [List.length_map, List.length_take]; omega)
      have cnB : (cn : Int) < 9223372036854775807 := by omega
      obtain ⟨z, hz⟩ : ∃ z, y.i.own = z := ⟨_, rfl⟩
      rw [hz] at y0 hs
      clear hcn rg hy hbl cb
      cases he : (z == c) with
      | true =>
        rw [he, if_pos rfl] at hs
        have HS := Lib.hid hs
        clear hs
        go_wp2_with fail
        go_roundw
        case rel => exact ⟨j + 1, cn + 1, hlt, by go_num, by go_num, HS.out.symm, trivial⟩
        case measure => simp [intOf]; omega
      | false =>
        rw [he, if_neg (by decide)] at hs
        have HS := Lib.hid hs
        clear hs
        go_wp2_with fail
        go_roundw
        case rel => exact ⟨j + 1, cn, hlt, rfl, by go_num, HS.out.symm, trivial⟩
        case measure => simp [intOf]; omega
    · obtain rfl : j = n := by omega
      have hr : cn = ownN c (x.its.map (·.i)) := by rw [hcn, List.take_of_length_le (by rw [HL.out]; exact Nat.le_refl _)]
      have HR := Lib.hid hr
      clear hlt hcn hr
      go_wp2_with fail
      go_ret
      exact ⟨by rw [HR.out]; rfl, S0.out.bel⟩
end Go.Proofs.YtlipjglehongeaaGreatDoor
namespace Go.Proofs.YtlipjglehongeaaGreatDoor
open Go Go.RowKit Sh

structure MayS (s : Sp) : Prop where
  n0 : 0 ≤ s.now
  n1 : s.now ≤ 1099511627776
  rd : alB s.rd = true
  wr : alB s.wr = true
  il : s.its.length ≤ 64
  it : ∀ y ∈ s.its, itB s.now y = true
  io : ∀ c, ownN c s.its ≤ 24
  wl : s.wts.length ≤ 16
  wt : ∀ y ∈ s.wts, wtB y = true
  la : ∀ (j : Nat) (y : Rp), s.last[j]? = some y → y.cl = (j : Int) ∧ rpB y = true
theorem lasB_iff : ∀ {l : List Rp} {c : Nat}, lasB c l = true ↔ ∀ (j : Nat) (y : Rp), l[j]? = some y → y.cl = ((c + j : Nat) : Int) ∧ rpB y = true
  | [], c => by simp [lasB]
  | r :: l, c => by
    unfold lasB
    simp only [Bool.and_eq_true, beq_iff_eq]
    rw [lasB_iff (l := l) (c := c + 1)]
    constructor
    · rintro ⟨h1, h2, h3⟩ j y hy
      cases j with
      | zero =>
        obtain rfl : r = y := by simpa using hy
        exact ⟨by simpa using h1, h2⟩
      | succ j =>
        have := h3 j y (by simpa using hy)
        exact ⟨by rw [this.1]; congr 1; omega, this.2⟩
    · intro h
      have h0 := h 0 r rfl
      refine ⟨by simpa using h0.1, h0.2, fun j y hy => ?_⟩
      have := h (j + 1) y (by simpa using hy)
      exact ⟨by rw [this.1]; congr 1; omega, this.2⟩
theorem ownN_pos {c : Int} {l : List It} (h : ownN c l ≠ 0) : ∃ i ∈ l, i.own = c := by
  unfold ownN at h
  have h1 : 0 < l.countP (fun i => i.own == c) := by omega
  rw [List.countP_pos_iff] at h1
  obtain ⟨i, hi, e⟩ := h1
  exact ⟨i, hi, by simpa using e⟩
theorem mayS_iff {s : Sp} : spMay s = true ↔ MayS s := by
  unfold spMay itsB wtsB
  simp only [Bool.and_eq_true, decide_eq_true_eq, List.all_eq_true, lasB_iff]
  constructor
  · rintro ⟨h1, h2, h3, h4, ⟨h5, h6, h7⟩, ⟨h8, h9⟩, h10⟩
    refine ⟨h1, h2, h3, h4, h5, h6, fun c => ?_, h8, h9, fun j y hy => by simpa using h10 j y hy⟩
    by_cases hc : ownN c s.its = 0
    · omega
    · obtain ⟨i, hi, rfl⟩ := ownN_pos hc
      exact h7 i hi
  · intro h
    exact ⟨h.n0, h.n1, h.rd, h.wr, ⟨h.il, h.it, fun y _ => h.io y.own⟩, ⟨h.wl, h.wt⟩, fun j y hy => by simpa using h.la j y hy⟩
end Go.Proofs.YtlipjglehongeaaGreatDoor
