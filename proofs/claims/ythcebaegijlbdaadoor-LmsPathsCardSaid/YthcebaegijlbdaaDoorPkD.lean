/-
  THE READER OF PACKAGE pack: what a Reader is in memory; New, Left, End, fail, take.
-/
import Derived.Test.YthcebaegijlbdaaDoorPkW
namespace Go.Proofs.YthcebaegijlbdaaDoor
open Go Go.RowKit Sh

/-- Block g is a Reader that has the bytes xs left; bad: it is wrong. -/
structure Rd (w : World) (g : Nat) (xs : List Nat) (bad : Bool) : Prop where
  is : ∃ A c, Blk w g 133 [.slice A xs.length c, .bool bad] ∧ xs.length ≤ c ∧ Sr w A xs
  none_ : bad = true → xs = []
theorem Rd.lt {w : World} {g : Nat} {xs : List Nat} {bad : Bool} (x : Rd w g xs bad) : g < w.heap.size := by
  obtain ⟨_, _, h, _⟩ := x.is
  exact h.lt
/-- Bytes do not lie in a Reader's own block. -/
theorem sr_far {w : World} {g : Nat} {t : TypeId} {A p : Option Addr} {n c : Nat} {bad : Bool} {xs : List Nat} (hg : Blk w g t [.slice A n c, .bool bad]) (h : Sr w p xs) : 0 < xs.length → ∀ a : Addr, p = some a → a.block ≠ g := fun hx a ha => by
  obtain ⟨b, o, e, h1, h2⟩ := h hx
  rw [ha] at e
  injection e with e
  subst e
  rintro rfl
  have h3 := h2 0 hx
  rw [hg.cell] at h3
  rcases Nat.lt_or_ge (o + 0) 2 with hl | hl
  · have : o + 0 = 0 ∨ o + 0 = 1 := by omega
    rcases this with e | e <;> rw [e] at h3 <;> simp at h3
  · rw [List.getElem?_eq_none (by simpa using hl)] at h3
    cases h3
theorem Sr.but1 {w w' : World} {g : Nat} {p : Option Addr} {xs : List Nat} (h : Sr w p xs) (hk : Kept (fun k => k = g) w w') (hf : 0 < xs.length → ∀ a : Addr, p = some a → a.block ≠ g) : Sr w' p xs := fun hx => by
  obtain ⟨b, o, rfl, h1, h2⟩ := h hx
  have hne := hf hx ⟨b, o, none⟩ rfl
  exact ⟨b, o, rfl, Nat.lt_of_lt_of_le h1 hk.size, fun j hj => (hk.cell (p := ⟨b, o + j, none⟩) h1 hne).trans (h2 j hj)⟩
theorem Sr.take {w : World} {p : Option Addr} {xs : List Nat} (h : Sr w p xs) (n : Nat) : Sr w p (xs.take n) := fun hx => by
  rw [List.length_take] at hx
  obtain ⟨b, o, e, h1, h2⟩ := h (by omega)
  refine ⟨b, o, e, h1, fun j hj => ?_⟩
  rw [List.length_take] at hj
  rw [h2 j (by omega)]
  congr 3
  simp [gt, List.getD_eq_getElem?_getD, show j < n by omega]
theorem gt_dropn (l : List Nat) (n j : Nat) : gt (l.drop n) j = gt l (n + j) := by simp [gt, List.getD_eq_getElem?_getD]
theorem Sr.drop {w : World} {p p2 : Option Addr} {xs : List Nat} {n : Nat} (h : Sr w p xs) (h2 : n < xs.length → ∀ g off, p = some ⟨g, off, none⟩ → p2 = some ⟨g, off + n, none⟩) : Sr w p2 (xs.drop n) := fun hx => by
  have hx' : n < xs.length := by rw [List.length_drop] at hx; omega
  obtain ⟨b, o, e, h1, h4⟩ := h (by omega)
  refine ⟨b, o + n, h2 hx' _ _ e, h1, fun j hj => ?_⟩
  rw [List.length_drop] at hj
  rw [gt_dropn, Nat.add_assoc]
  exact h4 (n + j) (by omega)
theorem Rd.stays {w w' : World} {G : Nat → Prop} {g : Nat} {xs : List Nat} {bad : Bool} (x : Rd w g xs bad) (hk : Kept G w w') (hg : ¬ G g) (hr : ∀ A n c b, Blk w g 133 [.slice A n c, .bool b] → ∀ a : Addr, A = some a → ¬ G a.block) : Rd w' g xs bad := by
  obtain ⟨A, c, h1, h2, h3⟩ := x.is
  exact ⟨⟨A, c, h1.kept hk hg, h2, h3.kept hk (fun _ => hr _ _ _ _ h1)⟩, x.none_⟩
theorem Rd.below {w w' : World} {g : Nat} {xs : List Nat} {bad : Bool} (x : Rd w g xs bad) (hb : Below w.heap.size w w') : Rd w' g xs bad :=
  x.stays (G := fun _ => False) (Kept.of_below hb) id fun _ _ _ _ _ _ _ h => h

theorem left_nil (w : World) : Calls Tryd.prog 89 #[.pointer none] w fun e w' => e = .returned (.int .i64 0) ∧ w = w' := by
  go_enter Tryd.func89, Tryd.ntmps89
  go_wp2
  go_ret
  exact ⟨rfl, rfl⟩
theorem left_t (g : Nat) (xs : List Nat) (bad : Bool) (w : World) (x : Rd w g xs bad) : Calls Tryd.prog 89 #[.pointer (some ⟨g, 0, none⟩)] w fun e w' => e = .returned (.int .i64 (xs.length : Int)) ∧ w = w' := by
  obtain ⟨A, c, h1, _, _⟩ := x.is
  have c0 : w.cell? ⟨g, 0, none⟩ = some (.slice A xs.length c) := h1.cell 0
  clear x h1
  go_enter Tryd.func89, Tryd.ntmps89
  go_wp2
  go_ret
  exact ⟨rfl, rfl⟩
/-- What End answers. -/
def endN (xs : List Nat) (bad : Bool) : Nat := if bad = true ∨ 0 < xs.length then 2 else 0
theorem rdr_info : (Tryd.prog.info? 133).map (·.size) = some 2 := by kernel_rfl
theorem rfail_t (g : Nat) (xs : List Nat) (bad : Bool) (w : World) (x : Rd w g xs bad) : Calls Tryd.prog 74 #[.pointer (some ⟨g, 0, none⟩)] w fun e w' => e = .returned (.tuple #[]) ∧ Rd w' g [] true ∧ Kept (fun k => k = g) w w' := by
  obtain ⟨A, c, h1, _, _⟩ := x.is
  have c0 : w.cell? ⟨g, 0, none⟩ = some (.slice A xs.length c) := h1.cell 0
  have c1 : w.cell? ⟨g, 1, none⟩ = some (.bool bad) := h1.cell 1
  have f0 := h1.frozen 0
  have f1 := h1.frozen 1
  have H1 := Lib.hid h1
  clear x h1
  go_enter Tryd.func74, Tryd.ntmps74
  go_wp2
  go_end0
  refine ⟨rfl, ⟨⟨none, 0, ?_, Nat.le_refl _, Sr.nil⟩, fun _ => rfl⟩, ?_⟩
  · exact (H1.out.store 0 (.slice none 0 0)).store 1 (.bool true)
  · exact Kept.setCell (F := fun k => k = g) (Kept.setCell (F := fun k => k = g) (Kept.refl _ w) (p := ⟨g, 0, none⟩) (.inl rfl) _) (p := ⟨g, 1, none⟩) (.inl rfl) _
/-- take, where there are so many. -/
theorem take_ok (g : Nat) (xs : List Nat) (bad : Bool) (n : Nat) (w : World) (x : Rd w g xs bad) (hn : n ≤ xs.length) (hl : xs.length ≤ 70368744177664) :
    Calls Tryd.prog 75 #[.pointer (some ⟨g, 0, none⟩), .int .i64 n] w fun e w' => (∃ A c, e = .returned (.slice A n c) ∧ n ≤ c ∧ Sr w' A (xs.take n)) ∧ Rd w' g (xs.drop n) bad ∧ Kept (fun k => k = g) w w' := by
  have X := Lib.hid x; have HL := Lib.hid hl
  obtain ⟨A, c, h1, hc, h3⟩ := x.is
  have c0 : w.cell? ⟨g, 0, none⟩ = some (.slice A xs.length c) := h1.cell 0
  have f0 := h1.frozen 0
  have far := sr_far h1 h3
  have H1 := Lib.hid h1; have H3 := Lib.hid h3; have FAR := Lib.hid far
  have HN := Lib.hid hn; have HC := Lib.hid hc
  obtain ⟨p2, hp2, he2⟩ := slice_low (P := Tryd.prog) (t := 27) (e := 5) Tryd.underlying27 byte_size A xs.length c .i64 n hn hc
  have he1 := slice_high (P := Tryd.prog) (t := 27) (e := 5) Tryd.underlying27 byte_size A xs.length c .i64 n (by omega)
  have HP2 := Lib.hid hp2
  have i1 : (n : Int) ≤ (xs.length : Int) := by omega
  clear x h1 h3 far hp2 hl
  go_enter Tryd.func75, Tryd.ntmps75
  go_wp2_with (go_at_call 89; refine (left_t g xs bad _ (by exact X.out)).mono ?_; rintro e w2 ⟨rfl, rfl⟩)
  go_ret
  have kk : Kept (fun k => k = g) w (w.setCell ⟨g, 0, none⟩ (.slice p2 (xs.length - n) (c - n))) := Kept.setCell (F := fun k => k = g) (Kept.refl _ w) (p := ⟨g, 0, none⟩) (.inl rfl) _
  have hx := FAR.out
  refine ⟨⟨A, c, rfl, by have := HN.out; have := HC.out; omega, (H3.out.but1 kk hx).take n⟩, ⟨⟨p2, c - n, ?_, ?_, (H3.out.but1 kk hx).drop HP2.out⟩, fun e => ?_⟩, kk⟩
  · rw [List.length_drop]
    exact H1.out.store 0 (.slice p2 (xs.length - n) (c - n))
  · rw [List.length_drop]
    have := HC.out; omega
  · rw [X.out.none_ e]; simp
theorem take_bad (g : Nat) (xs : List Nat) (bad : Bool) (n : Int) (w : World) (x : Rd w g xs bad) (hn : n < 0 ∨ (xs.length : Int) < n) :
    Calls Tryd.prog 75 #[.pointer (some ⟨g, 0, none⟩), .int .i64 n] w fun e w' => e = .returned (.slice none 0 0) ∧ Rd w' g [] true ∧ Kept (fun k => k = g) w w' := by
  have X := Lib.hid x
  clear x
  by_cases hneg : n < 0
  · clear hn
    go_enter Tryd.func75, Tryd.ntmps75
    go_wp2_with (go_at_call 74; refine (rfail_t g xs bad _ (by exact X.out)).mono ?_; rintro e w2 ⟨rfl, x2, k2⟩; have X2 := Lib.hid x2; have K2 := Lib.hid k2; clear x2 k2)
    go_ret
    exact ⟨rfl, X2.out, K2.out⟩
  · have h1 : (xs.length : Int) < n := by omega
    have h0 : 0 ≤ n := by omega
    clear hn
    go_enter Tryd.func75, Tryd.ntmps75
    go_wp2_with (first
      | (go_at_call 89; refine (left_t g xs bad _ (by exact X.out)).mono ?_; rintro e w2 ⟨rfl, rfl⟩)
      | (go_at_call 74; refine (rfail_t g xs bad _ (by exact X.out)).mono ?_; rintro e w2 ⟨rfl, x2, k2⟩; have X2 := Lib.hid x2; have K2 := Lib.hid k2; clear x2 k2))
    go_ret
    exact ⟨rfl, X2.out, K2.out⟩
theorem rnew_t (xs : List Nat) (p : Option Addr) (n c : Nat) (w : World) (hn : xs.length = n) (hp : Sr w p xs) (hl : n ≤ 70368744177664) :
    Calls Tryd.prog 58 #[.slice p n c] w fun e w' => ∃ g, e = .returned (.pointer (some ⟨g, 0, none⟩)) ∧ w.heap.size ≤ g ∧ Rd w' g xs false ∧ Below w.heap.size w w' := by
  subst hn
  have HP := Lib.hid hp; have HL := Lib.hid hl
  clear hp hl
  go_enter Tryd.func58, Tryd.ntmps58
  go_wp2_with ((with_reducible refine append_bytes (.const (.slice none 0 0)) (.tmp 3) 27 rfl rfl 5 Tryd.underlying27 byte_info w.heap.size (.slice none 0 0) 0 [] xs rfl (nil_own _ _) p xs.length c rfl rfl HP.out (by have := HL.out; omega) (Nat.le_refl _) ?_); intro v w1 h1 h2 h3; obtain ⟨A, cap, rfl, hcap⟩ := own_form h1.out)
  go_ret
  have b1 : Below w.heap.size w w1 := (Below.refl _ w).grown h2.out (Nat.le_refl _) (by simp [Value.ownBlock])
  have o := h1.out
  simp only [Nat.zero_add, List.nil_append] at o hcap
  refine ⟨w1.heap.size, rfl, b1.size, ⟨⟨A, cap, Blk.new w1 _ _, hcap, ?_⟩, fun e => by cases e⟩, b1.alloc b1.size _⟩
  exact (Sr.of_own o).below ((Below.refl _ _).alloc (Nat.le_refl _) _)
/-- Another Reader's call leaves it. -/
theorem Rd.other {w w' : World} {g g' : Nat} {xs ys : List Nat} {bad bad' : Bool} (x : Rd w g xs bad) (y : Rd w g' ys bad') (hne : g ≠ g') (hk : Kept (fun k => k = g') w w') : Rd w' g xs bad := by
  obtain ⟨A, c, h1, h2, h3⟩ := x.is
  obtain ⟨_, _, k1, _, _⟩ := y.is
  exact ⟨⟨A, c, h1.kept hk hne, h2, h3.but1 hk (sr_far k1 h3)⟩, x.none_⟩
/-- Bytes that were handed out stay. -/
theorem Rd.leaves {w w' : World} {g : Nat} {p : Option Addr} {xs ys : List Nat} {bad : Bool} (x : Rd w g xs bad) (h : Sr w p ys) (hk : Kept (fun k => k = g) w w') : Sr w' p ys := by
  obtain ⟨_, _, k1, _, _⟩ := x.is
  exact h.but1 hk (sr_far k1 h)
end Go.Proofs.YthcebaegijlbdaaDoor
