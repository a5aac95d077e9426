/-
  Writer.part and Writer.Raw.
-/
import Derived.Test.YthcebaegijlbdaaDoorPkW
import Derived.Test.YthcebaegijlbdaaDoorOrd
namespace Go.Proofs.YthcebaegijlbdaaDoor
open Go Go.RowKit Sh

theorem part_t (F : Nat → Prop) (g : Nat) (l : List Nat) (w : World) (x : Wr w F g l) :
    Calls Tryd.prog 57 #[.pointer (some ⟨g, 0, none⟩)] w fun e w' => e = .returned (.tuple #[]) ∧ ∃ h v, Wk w' (More w w' F) g l h v ∧ Kept (fun k => k = g) w w' := by
  rcases x.is with ⟨hb, rfl⟩ | ⟨h, v, y⟩
  · refine (part_new g w hb).mono ?_
    rintro e w' ⟨rfl, n, rfl⟩
    have hlt := hb.lt
    have hn : g ≠ w.heap.size := by omega
    refine ⟨rfl, w.heap.size, .slice none 0 0, ⟨.inl x.mine, .inr ⟨Nat.le_refl _, by simp [World.setCell]⟩, fun k hk => by simp [Value.ownBlock] at hk, ?_, ?_, nil_own _ _⟩, ?_⟩
    · exact ((hb.drewN n).alloc (.cells #[.slice none 0 0] 110)).store 0 (.pointer (some ⟨w.heap.size, 0, none⟩))
    · exact (Blk.new (w.drewN n) 110 [.slice none 0 0]).far (by simp; omega) _
    · exact Kept.setCell (F := fun k => k = g) (((Kept.refl _ w).drewN n).alloc _) (p := ⟨g, 0, none⟩) (.inl rfl) _
  · refine (part_kept F g l h v w y).mono ?_
    rintro e w' ⟨rfl, n, rfl⟩
    exact ⟨rfl, h, v, ⟨.inl y.mine, .inl y.at_, fun k hk => .inl (y.row k hk), y.blk, y.kept, y.own⟩, (Kept.refl _ w).drewN n⟩
theorem raw_nil (p : Option Addr) (n c : Nat) (w : World) : Calls Tryd.prog 30 #[.pointer none, .slice p n c] w fun e w' => e = .returned (.tuple #[]) ∧ w = w' := by
  go_enter Tryd.func30, Tryd.ntmps30
  go_wp2
  exact bodyPost_ret (results_none rfl _ _ _) rfl ⟨rfl, rfl⟩
theorem Wr.blk {w : World} {F : Nat → Prop} {g : Nat} {l : List Nat} (x : Wr w F g l) : ∃ (q : Option Addr) (n : Nat), Blk w g 68 [.pointer q, .int .i64 (n : Int)] := by
  rcases x.is with ⟨hb, _⟩ | ⟨_, _, y⟩
  · exact ⟨none, 0, hb⟩
  · exact ⟨_, _, y.blk⟩
/-- A slice of bytes does not lie in the Writer's own block. -/
theorem Sr.over {w w1 : World} {p : Option Addr} {xs : List Nat} {g : Nat} {t : TypeId} {x : Option Addr} {n : Nat} (h : Sr w p xs) (hk : Kept (fun k => k = g) w w1) (hg : Blk w g t [.pointer x, .int .i64 n]) : Sr w1 p xs := fun hx => by
  obtain ⟨b, o, rfl, h1, h2⟩ := h hx
  have hne : b ≠ g := by
    rintro rfl
    have h3 := h2 0 hx
    rw [hg.cell] at h3
    rcases Nat.lt_or_ge (o + 0) 2 with hl | hl
    · have : o + 0 = 0 ∨ o + 0 = 1 := by omega
      rcases this with e | e <;> rw [e] at h3 <;> simp at h3
    · rw [List.getElem?_eq_none (by simpa using hl)] at h3
      cases h3
  exact ⟨b, o, rfl, Nat.lt_of_lt_of_le h1 hk.size, fun j hj => (hk.cell (p := ⟨b, o + j, none⟩) h1 hne).trans (h2 j hj)⟩

set_option maxRecDepth 100000 in
set_option maxHeartbeats 400000 in
theorem raw_t (F : Nat → Prop) (g : Nat) (l xs : List Nat) (p : Option Addr) (n c : Nat) (w : World) (x : Wr w F g l) (hn : xs.length = n) (hp : Sr w p xs) (hl : l.length + n ≤ 70368744177664) :
    Calls Tryd.prog 30 #[.pointer (some ⟨g, 0, none⟩), .slice p n c] w fun e w' => e = .returned (.tuple #[]) ∧ Wr w' (More w w' F) g (l ++ xs) ∧ Kept F w w' := by
  have MINE := Lib.hid x.mine; have HN := Lib.hid hn; have HP := Lib.hid hp; have HL := Lib.hid hl
  have PT := Lib.hid (part_t F g l w x)
  obtain ⟨_, _, hgb⟩ := x.blk
  have HGB := Lib.hid hgb
  clear x hn hp hl hgb
  go_enter Tryd.func30, Tryd.ntmps30
  go_wp2_with fail
  refine (PT.out).mono ?_
  rintro e w1 ⟨rfl, h, v, y, k1⟩
  have hp1 := HP.out.over k1 HGB.out
  obtain ⟨A, cap, rfl, hcap⟩ := y.form
  have c0 : w1.cell? ⟨g, 0, none⟩ = some (.pointer (some ⟨h, 0, none⟩)) := y.blk.cell 0
  have c2 : w1.cell? ⟨h, 0, none⟩ = some (.slice A l.length cap) := y.kept.cell 0
  have Y := Lib.hid y; have K1 := Lib.hid k1; have HP1 := Lib.hid hp1
  clear y k1 hp1 PT HP HGB
  go_wp2_with fail
  refine wp_region_E (fun W => W.cell? ⟨g, 0, none⟩ = some (.pointer (some ⟨h, 0, none⟩)) ∧ W.cell? ⟨h, 0, none⟩ = some (.slice A l.length cap)) (fun i => i == 15) (by kernel_rfl) ?_
  change wpAnyE _ _ _ _ _ _ _ _ _ w1.drew
  refine wpAnyE_take (i := 0) (v := ?_) rfl (by kernel_rfl) (by kernel_rfl) (by kernel_rfl) (by kernel_rfl) (fun _ _ _ h => h) (Or.inl ⟨by kernel_rfl, ?_⟩) ⟨c0, c2⟩ ?_
  rotate_left 1
  · (intro w hS; obtain ⟨s1, s2⟩ := hS; go_simp; try (with_reducible rfl))
  refine wpAnyE_take (i := 1) (v := ?_) rfl (by kernel_rfl) (by kernel_rfl) (by kernel_rfl) (by kernel_rfl) (fun _ _ _ h => h) (Or.inl ⟨by kernel_rfl, ?_⟩) ⟨c0, c2⟩ ?_
  rotate_left 1
  · (intro w hS; obtain ⟨s1, s2⟩ := hS; go_simp; try (with_reducible rfl))
  refine wpAnyE_take (i := 2) (v := ?_) rfl (by kernel_rfl) (by kernel_rfl) (by kernel_rfl) (by kernel_rfl) (fun _ _ _ h => h) (Or.inl ⟨by kernel_rfl, ?_⟩) ⟨c0, c2⟩ ?_
  rotate_left 1
  · (intro w hS; obtain ⟨s1, s2⟩ := hS; go_simp; try (with_reducible rfl))
  refine wpAnyE_take (i := 3) (v := ?_) rfl (by kernel_rfl) (by kernel_rfl) (by kernel_rfl) (by kernel_rfl) (fun _ _ _ h => h) (Or.inl ⟨by kernel_rfl, ?_⟩) ⟨c0, c2⟩ ?_
  rotate_left 1
  · (intro w hS; obtain ⟨s1, s2⟩ := hS; go_simp; try (with_reducible rfl))
  refine wpAnyE_take (i := 4) (v := ?_) rfl (by kernel_rfl) (by kernel_rfl) (by kernel_rfl) (by kernel_rfl) (fun _ _ _ h => h) (Or.inl ⟨by kernel_rfl, ?_⟩) ⟨c0, c2⟩ ?_
  rotate_left 1
  · (intro w hS; obtain ⟨s1, s2⟩ := hS; go_simp; try (with_reducible rfl))
  refine wpAnyE_take (i := 5) (v := ?_) rfl (by kernel_rfl) (by kernel_rfl) (by kernel_rfl) (by kernel_rfl) (fun _ _ _ h => h) (Or.inl ⟨by kernel_rfl, ?_⟩) ⟨c0, c2⟩ ?_
  rotate_left 1
  · (intro w hS; obtain ⟨s1, s2⟩ := hS; go_simp; try (with_reducible rfl))
  refine wpAnyE_take (i := 6) (v := ?_) rfl (by kernel_rfl) (by kernel_rfl) (by kernel_rfl) (by kernel_rfl) (fun _ _ _ h => h) (Or.inl ⟨by kernel_rfl, ?_⟩) ⟨c0, c2⟩ ?_
  rotate_left 1
  · (intro w hS; obtain ⟨s1, s2⟩ := hS; go_simp; try (with_reducible rfl))
  refine wpAnyE_take (i := 7) (v := ?_) rfl (by kernel_rfl) (by kernel_rfl) (by kernel_rfl) (by kernel_rfl) (fun _ _ _ h => h) (Or.inl ⟨by kernel_rfl, ?_⟩) ⟨c0, c2⟩ ?_
  rotate_left 1
  · (intro w hS; obtain ⟨s1, s2⟩ := hS; go_simp; try (with_reducible rfl))
  refine wpAnyE_take (i := 8) (v := ?_) rfl (by kernel_rfl) (by kernel_rfl) (by kernel_rfl) (by kernel_rfl) (fun _ _ _ h => h) (Or.inl ⟨by kernel_rfl, ?_⟩) ⟨c0, c2⟩ ?_
  rotate_left 1
  · (intro w hS; obtain ⟨s1, s2⟩ := hS; go_simp; try (with_reducible rfl))
  refine wpAnyE_take (i := 9) (v := ?_) rfl (by kernel_rfl) (by kernel_rfl) (by kernel_rfl) (by kernel_rfl) (fun _ _ _ h => h) (Or.inl ⟨by kernel_rfl, ?_⟩) ⟨c0, c2⟩ ?_
  rotate_left 1
  · (intro w hS; obtain ⟨s1, s2⟩ := hS; go_simp; try (with_reducible rfl))
  refine wpAnyE_take (i := 10) (v := ?_) rfl (by kernel_rfl) (by kernel_rfl) (by kernel_rfl) (by kernel_rfl) (fun _ _ _ h => h) (Or.inl ⟨by kernel_rfl, ?_⟩) ⟨c0, c2⟩ ?_
  rotate_left 1
  · (intro w hS; obtain ⟨s1, s2⟩ := hS; go_simp; try (with_reducible rfl))
  refine wpAnyE_take (i := 11) (v := ?_) rfl (by kernel_rfl) (by kernel_rfl) (by kernel_rfl) (by kernel_rfl) (fun _ _ _ h => h) (Or.inl ⟨by kernel_rfl, ?_⟩) ⟨c0, c2⟩ ?_
  rotate_left 1
  · (intro w hS; obtain ⟨s1, s2⟩ := hS; go_simp; try (with_reducible rfl))
  refine wpAnyE_one (i := 12) (by kernel_rfl) rfl (by kernel_rfl) (fun K hK => ?_)
  have ow : w1.drew.ownsRow 0 5 1 (.slice A l.length cap) l.length (u8s l) := Y.out.own
  have sr : Sr w1.drew p xs := HP1.out
  refine wp_append_bytes (.tmp 18) (.tmp 19) 27 ?_ 5 Tryd.underlying27 byte_info 0 (.slice A l.length cap) l.length l xs ?_ ow p n c ?_ HN.out sr HL.out (Nat.zero_le _) ?_
  · rfl
  · go_simp
  · go_simp
  intro v2 w2 h1 h2 h3
  obtain ⟨A2, cap2, rfl, hcap2⟩ := own_form h1.out
  have hg2 : Blk w2 g 68 [.pointer (some ⟨h, 0, none⟩), .int .i64 (l.length : Int)] := (h2.out.block g Y.out.blk.lt (fun e => Y.out.rowg e.symm)).trans Y.out.blk
  have hh2 : Blk w2 h 110 [.slice A l.length cap] := (h2.out.block h Y.out.kept.lt (fun e => Y.out.rowh e.symm)).trans Y.out.kept
  have d2 : w2.cell? ⟨h, 0, none⟩ = some (.slice A l.length cap) := hh2.cell 0
  have e2 : w2.frozen? ⟨h, 0, none⟩ = false := hh2.frozen 0
  have hg3 := hg2.far (p := ⟨h, 0, none⟩) Y.out.ne_.symm (.slice A2 (l.length + n) cap2)
  have hh3 := hh2.store 0 (.slice A2 (l.length + n) cap2)
  have d3 : (w2.setCell ⟨h, 0, none⟩ (.slice A2 (l.length + n) cap2)).cell? ⟨g, 1, none⟩ = some (.int .i64 (l.length : Int)) := hg3.cell 1
  have e3 : (w2.setCell ⟨h, 0, none⟩ (.slice A2 (l.length + n) cap2)).frozen? ⟨g, 1, none⟩ = false := hg3.frozen 1
  have i1 : (l.length : Int) + (n : Int) ≤ 70368744177664 := by have := HL.out; omega
  have H1 := h1; have H2 := h2; have H3 := h3
  have HG := Lib.hid hg3; have HH := Lib.hid hh3; have HG2 := Lib.hid hg2; have HH2 := Lib.hid hh2
  clear hg2 hh2 hg3 hh3 h1 h2 h3 
  have s0 : w2.cell? ⟨g, 0, none⟩ = some (.pointer (some ⟨h, 0, none⟩)) := HG2.out.cell 0
  refine hK.out _ _ (.inr ⟨s0, d2⟩) ?_
  clear hK K
  refine wpAnyE_one (i := 13) (by kernel_rfl) rfl (by kernel_rfl) (fun K hK => ?_)
  go_simp
  refine hK.out _ _ (.inr ⟨s0, d2⟩) ?_
  clear hK K
  refine wpAnyE_take (i := 14) (v := ?_) rfl (by kernel_rfl) (by kernel_rfl) (by kernel_rfl) (by kernel_rfl) (fun _ _ _ h => h) (Or.inl ⟨by kernel_rfl, ?_⟩) ⟨s0, d2⟩ ?_
  rotate_left 1
  · (intro w hS; obtain ⟨s1, s2⟩ := hS; go_simp; try (with_reducible rfl))
  refine wpAnyE_one (i := 15) (by kernel_rfl) rfl (by kernel_rfl) (fun K hK => ?_)
  go_simp
  refine hK.out _ _ (.inl rfl) ?_
  clear hK K
  refine wpAnyE_done (by kernel_rfl) ?_ _
  go_simp
  go_wp2
  go_end0
  have hn := HN.out
  subst hn
  have y := Y.out
  have hw2 : w1.heap.size ≤ w2.heap.size := H2.out.size
  have hsz : ∀ (W : World) (p : Addr) (v : Value), (W.setCell p v).heap.size = W.heap.size := fun _ _ _ => by simp [World.setCell]
  have up : ∀ k, More w w1 F k → More w ((w2.setCell ⟨h, 0, none⟩ (.slice A2 (l.length + xs.length) cap2)).setCell ⟨g, 1, none⟩ (.int .i64 ((l.length : Int) + (xs.length : Int)))) F k := fun k hk => hk.grow (by rw [hsz, hsz]; exact hw2)
  have sel : ∀ k, More w w1 F k → F k ∨ w.heap.size ≤ k := fun k hk => hk.imp id (fun e => e.1)
  have k1 : Kept F w w1 := K1.out.mono fun k e => by subst e; exact MINE.out
  have k2 : Kept F w w2 := k1.drew.grown H2.out fun k e => sel k (y.row k e)
  have k4 : Kept (fun k => k = h ∨ k = g) w2 ((w2.setCell ⟨h, 0, none⟩ (.slice A2 (l.length + xs.length) cap2)).setCell ⟨g, 1, none⟩ (.int .i64 ((l.length : Int) + (xs.length : Int)))) :=
    Kept.setCell (F := fun k => k = h ∨ k = g) (Kept.setCell (F := fun k => k = h ∨ k = g) (Kept.refl _ w2) (p := ⟨h, 0, none⟩) (.inl (.inl rfl)) _) (p := ⟨g, 1, none⟩) (.inl (.inr rfl)) _
  have o2 := H1.out
  refine ⟨rfl, ⟨up _ y.mine, .inr ⟨h, .slice A2 (l.length + xs.length) cap2, up _ y.mine, up _ y.at_, fun k e => ?_, ?_, ?_, ?_⟩⟩, ?_⟩
  · rcases H3.out with e3 | e3
    · exact up _ (y.row k (e3.symm.trans e))
    · have e4 : w1.heap.size = k := Option.some.inj (e3.symm.trans e)
      have e5 := (o2.lt k e).2
      exact .inr ⟨by have := K1.out.size; omega, by rw [hsz, hsz]; exact e5⟩
  · have b := HG.out.store 1 (.int .i64 ((l.length : Int) + (xs.length : Int)))
    rw [List.length_append]
    exact b
  · exact HH.out.far (p := ⟨g, 1, none⟩) y.ne_ _
  · rw [List.length_append]
    refine own_kept o2 k4 fun k e hk => ?_
    rcases hk with rfl | rfl
    · exact own_apart o2 HH2.out (by decide) e
    · exact own_apart o2 HG2.out (by decide) e
  · exact ((k2.setCell (p := ⟨h, 0, none⟩) (sel _ y.at_) _)).setCell (p := ⟨g, 1, none⟩) (sel _ y.mine) _
end Go.Proofs.YthcebaegijlbdaaDoor
