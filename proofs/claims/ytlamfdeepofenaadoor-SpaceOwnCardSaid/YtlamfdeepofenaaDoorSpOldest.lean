/-
  SpaceOldest walked.
-/
import Derived.Test.YtlamfdeepofenaaDoorSpZ
import Derived.Deep.OwnRows
namespace Go.Proofs.YtlamfdeepofenaaDoor
open Go Go.RowKit Sh

/-- A row of numbers that came in. -/
def NsW (w : World) (A : Option Addr) (n : Nat) (L : Nat → Int) : Prop := ∀ j, j < n → ∃ b o, A = some ⟨b, o, none⟩ ∧ b < w.heap.size ∧ w.cell? ⟨b, o + j, none⟩ = some (.int .i64 (L j)) ∧ -9223372036854775808 ≤ L j ∧ L j ≤ 9223372036854775807
/-- A row of bools that came in. -/
def BsW (w : World) (A : Option Addr) (n : Nat) (L : Nat → Bool) : Prop := ∀ j, j < n → ∃ b o, A = some ⟨b, o, none⟩ ∧ b < w.heap.size ∧ w.cell? ⟨b, o + j, none⟩ = some (.bool (L j))
theorem NsW.at {w W : World} {A : Option Addr} {n : Nat} {L : Nat → Int} (h : NsW w A n L) (hb : Below w.heap.size w W) {j : Nat} (hj : j < n) : ∃ b o, A = some ⟨b, o, none⟩ ∧ b < w.heap.size ∧ W.cell? ⟨b, o + j, none⟩ = some (.int .i64 (L j)) := by
  obtain ⟨b, o, e, hl, hc, _, _⟩ := h j hj
  exact ⟨b, o, e, hl, (hb.cell (p := ⟨b, o + j, none⟩) hl).trans hc⟩
theorem BsW.at {w W : World} {A : Option Addr} {n : Nat} {L : Nat → Bool} (h : BsW w A n L) (hb : Below w.heap.size w W) {j : Nat} (hj : j < n) : ∃ b o, A = some ⟨b, o, none⟩ ∧ b < w.heap.size ∧ W.cell? ⟨b, o + j, none⟩ = some (.bool (L j)) := by
  obtain ⟨b, o, e, hl, hc⟩ := h j hj
  exact ⟨b, o, e, hl, (hb.cell (p := ⟨b, o + j, none⟩) hl).trans hc⟩
theorem and3 : ∀ k : Nat, k < 64 → bits .and .i64 (k : Int) 3 = ((k % 4 : Nat) : Int) := by decide +kernel
theorem rw_two {W : World} {g : Nat} {f f' : Fld} (h : Blk W g 25 (fv f ++ fv f')) : Rw W (some ⟨g, 0, none⟩) 2 (gl [f, f']) := fun j hj => by
  refine ⟨g, 0, rfl, h.lt, fun i v hv => ?_⟩
  have hr := rows_of_blk h
  rcases (show j = 0 ∨ j = 1 by omega) with rfl | rfl
  · have hi : i < 3 := by have := (List.getElem?_eq_some_iff.1 hv).1; simpa [fv] using this
    have := hr i v (by rw [List.getElem?_append_left (by simpa [fv] using hi)]; exact hv)
    simpa using this
  · have hi : i < 3 := by have := (List.getElem?_eq_some_iff.1 hv).1; simpa [fv] using this
    have := hr (3 + i) v (by rw [List.getElem?_append_right (by rw [fv_len]; omega), fv_len, Nat.add_sub_cancel_left]; exact hv)
    rw [show 0 + 1 * 3 + i = 0 + (3 + i) by omega]
    exact this
theorem bool_info : (Tryd.prog.info? 4).map (fun i => (i.zero, i.size, i.bytes)) = some (some (.bool false), 1, 1) := by kernel_rfl
theorem made_false (k : Nat) : madeCells #[Value.bool false] k = (List.replicate k (Value.bool false)).toArray := by
  apply Array.ext
  · rw [size_madeCells, List.size_toArray, List.length_replicate]
  · intro i h1 h2
    simp [madeCells, Nat.mod_one]
def gonL (k : Nat) (keep : Nat → Bool) : List Value := (List.range k).map (fun j => .bool (!keep j))
theorem gon_all (k : Nat) : List.replicate k (Value.bool false) = gonL k (fun _ => true) := by
  unfold gonL
  rw [show (fun _ : Nat => Value.bool (!true)) = fun _ => Value.bool false from rfl, List.map_const', List.length_range]
theorem gon_get {k : Nat} {keep : Nat → Bool} {j : Nat} (hj : j < k) : (gonL k keep)[j]? = some (.bool (!keep j)) := by
  unfold gonL
  rw [List.getElem?_map, List.getElem?_range hj]
  rfl
theorem gon_set {k : Nat} {keep : Nat → Bool} {j : Nat} : (gonL k keep).set j (.bool true) = gonL k (fun z => keep z && !(true && decide (z = j))) := by
  apply List.ext_getElem?
  intro i
  rw [List.getElem?_set]
  unfold gonL
  rw [List.length_map, List.length_range, List.getElem?_map, List.getElem?_map]
  rcases Nat.lt_or_ge i k with h | h
  · rw [List.getElem?_range h]
    by_cases e : j = i
    · subst e
      simp [h]
    · rw [if_neg e]
      simp [show ¬ i = j from fun h => e h.symm]
  · rw [List.getElem?_eq_none (by simpa using h)]
    simp
    omega
theorem OldS.later {L : Nat → Int} {n : Nat} {keep : Nat → Bool} {b t t' : Int} {s : Sp} (h : OldS L n keep b t s) (ht : t ≤ t') : OldS L n keep b t' s := ⟨h.o, h.its, h.wts, h.sq, Int.le_trans h.now ht⟩
theorem PL.far {w0 W W' : World} {g b : Nat} {t : TypeId} {x : Spv} {cs : List Value} (h : PL w0 W g x) (hb : Blk W b t cs) (h1 : 33 ≠ t) (h2 : 64 ≠ t) (h3 : 67 ≠ t) (h4 : 25 ≠ t) (hge : w0.heap.size ≤ b) (hk : Kept (fun k => k = b) W W') : PL w0 W' g x := by
  have f : ∀ {B sz n : Nat} {e : TypeId} {v : Value} {xs : List Value}, W.ownsRow B e sz v n xs → e ≠ t → W'.ownsRow B e sz v n xs := fun ho he => own_kept ho hk (fun k hk' e' => own_apart ho hb he (by rw [hk', e']))
  exact ⟨h.box.kept hk (h.box.apart hb h1), ⟨f h.sf.its h2, fun y hy => f (h.sf.it y hy) h4, f h.sf.wts h3, fun y hy => f (h.sf.wt y hy) h4, h.sf.l4, fun y hy => f (h.sf.la y hy) h4⟩, h.op, h.ge, h.bel.trans ⟨hk.os, hk.tape, hk.output, hk.size, fun k hlt => hk.block k (Nat.lt_of_lt_of_le hlt h.bel.size) (by omega)⟩⟩
theorem Rw.keptF {W W' : World} {g b n : Nat} {t : TypeId} {G : Nat → Fld} {cs ds : List Value} (h : Rw W (some ⟨g, 0, none⟩) n G) (hg : Blk W g 25 ds) (hb : Blk W b t cs) (hne : 25 ≠ t) (hk : Kept (fun k => k = b) W W') : Rw W' (some ⟨g, 0, none⟩) n G := fun j hj => by
  obtain ⟨b', o, e, hl, r⟩ := h j hj
  have e1 : b' = g := by injection e with e; injection e with e; exact e.symm
  subst e1
  exact ⟨b', o, e, Nat.lt_of_lt_of_le hl hk.size, fun i v hv => (hk.cell (p := ⟨b', o + j * 3 + i, none⟩) hl (hg.apart hb hne)).trans (r i v hv)⟩
theorem RO.keptS {W W' : World} {b g : Nat} {y : Rpv} (h : RO W b y) (hne : b ≠ g) (hk : Kept (fun k => k = g) W W') : RO W' b y :=
  ⟨Nat.lt_of_lt_of_le h.lt hk.size, fun j v hv => (hk.cell (p := ⟨b, 0 + j, none⟩) h.lt hne).trans (h.at_ j v hv)⟩
/-- The least number that is kept and stands for c, of those from q on. -/
structure PickS (LL : Nat → Int) (keep : Nat → Bool) (c : Int) (k q : Nat) (o : Option Nat) : Prop where
  no : o = none → ∀ j, q ≤ j → j < k → keep j = true → LL j ≠ c
  yes : ∀ z, o = some z → q ≤ z ∧ z < k ∧ keep z = true ∧ LL z = c ∧ ∀ j, q ≤ j → j < z → keep j = true → LL j ≠ c
def replyO (c : Int) (i : Nat) (L : Nat → Int) : Option Nat → Rp
  | none => ⟨c, 100 + (i : Int), 3, [], false⟩
  | some k => ⟨c, 100 + (i : Int), 2, [fN (L k), fN k], false⟩
def keepO (keep : Nat → Bool) (tk : Bool) : Option Nat → Nat → Bool
  | none => keep
  | some k => fun j => keep j && !(tk && decide (j = k))
theorem old_takeC {L : Nat → Int} {n i : Nat} {keep : Nat → Bool} {s : Sp} {F G : Nat → Fld} {b c kd : Int} (hc : ((i % 4 : Nat) : Int) = c) (tk : Bool) (hkd : (if tk then (3 : Int) else 2) = kd) (h : OldS L n keep b 50 s) (hi : i < 30) (hb : b < 100 + (i : Int)) (g0 : G 0 = fN c) (g1 : G 1 = fAI) (o : Option Nat)
    (hp : PickS L keep c n 0 o) :
    (doP s 50 ⟨c, 100 + (i : Int), kd, 0, 2, G, 0, F⟩).2 = [replyO c i L o] ∧ OldS L n (keepO keep tk o) (100 + (i : Int)) 50 (doP s 50 ⟨c, 100 + (i : Int), kd, 0, 2, G, 0, F⟩).1 := by
  subst hc hkd
  have := old_take (F := F) tk h hi hb g0 g1 o (fun ho j hj hk => hp.no ho j (Nat.zero_le _) hj hk) (fun z hz => by
    obtain ⟨_, a, b, c, d⟩ := hp.yes z hz
    exact ⟨a, b, c, fun j hj hk => d j (Nat.zero_le _) hj hk⟩)
  cases o with
  | none => exact this
  | some k => exact this
def rqO (c4 : Int) (i : Nat) (kd : Int) (h1 : Nat) : Rv := ⟨⟨c4, (100 : Int) + (i : Int), kd, 0, 2, gl [fN c4, fAI], 0, z0⟩, some ⟨h1, 0, none⟩, 2, none, 0⟩
theorem gon_same (k : Nat) (keep : Nat → Bool) (z : Nat) : gonL k (fun j => keep j && !(false && decide (j = z))) = gonL k keep := by
  congr 1
  funext j
  simp
theorem PickS.start {LL : Nat → Int} {keep : Nat → Bool} {c : Int} {k : Nat} : PickS LL keep c k k none := ⟨fun _ j h1 h2 => absurd h2 (by omega), fun z h => by cases h⟩
theorem PickS.pass {LL : Nat → Int} {keep : Nat → Bool} {c : Int} {k q : Nat} {o : Option Nat} (h : PickS LL keep c k (q + 1) o) (hn : keep q = true → LL q ≠ c) : PickS LL keep c k q o :=
  ⟨fun ho j h1 h2 h3 => by
    by_cases e : j = q
    · subst e; exact hn h3
    · exact h.no ho j (by omega) h2 h3, fun z hz => by
    obtain ⟨a, b, c, d, e⟩ := h.yes z hz
    refine ⟨by omega, b, c, d, fun j h1 h2 h3 => ?_⟩
    by_cases e' : j = q
    · subst e'; exact hn h3
    · exact e j (by omega) h2 h3⟩
theorem PickS.take {LL : Nat → Int} {keep : Nat → Bool} {c : Int} {k q : Nat} (hq : q < k) (h1 : keep q = true) (h2 : LL q = c) : PickS LL keep c k q (some q) :=
  ⟨(fun h => by cases h), fun z hz => by
    obtain rfl := Option.some.inj hz
    exact ⟨Nat.le_refl _, hq, h1, h2, fun j a b => absurd b (by omega)⟩⟩
theorem built_out4 (k q : Int) (p : Option Addr) (n c : Nat) (F G : Nat → Fld) : Tryd.prog.built 39 [(0, .int .i64 k), (1, .int .i64 q), (2, .int .i64 1), (4, .slice p n c)] = some (rv ⟨⟨k, q, 1, 0, 0, F, n, G⟩, none, 0, p, c⟩).toArray := by kernel_rfl
end Go.Proofs.YtlamfdeepofenaaDoor
