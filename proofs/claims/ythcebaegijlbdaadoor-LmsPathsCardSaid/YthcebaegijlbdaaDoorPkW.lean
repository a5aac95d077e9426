/-
  THE WRITER OF PACKAGE pack: what a Writer is in memory, and the contracts of wide, Bytes, part, Raw.
-/
import Derived.Test.YthcebaegijlbdaaDoorGen
namespace Go.Proofs.YthcebaegijlbdaaDoor
open Go Go.RowKit Sh

/-- Block g is a Writer that holds the bytes l in the row v, which block h keeps; what it may turn lies in F. -/
structure Wk (w : World) (F : Nat → Prop) (g : Nat) (l : List Nat) (h : Nat) (v : Value) : Prop where
  mine : F g
  at_ : F h
  row : ∀ k, v.ownBlock = some k → F k
  blk : Blk w g 68 [.pointer (some ⟨h, 0, none⟩), .int .i64 (l.length : Int)]
  kept : Blk w h 110 [v]
  own : w.ownsRow 0 5 1 v l.length (u8s l)
/-- Block g is a Writer that holds the bytes l. -/
structure Wr (w : World) (F : Nat → Prop) (g : Nat) (l : List Nat) : Prop where
  mine : F g
  is : (Blk w g 68 [.pointer none, .int .i64 0] ∧ l = []) ∨ ∃ h v, Wk w F g l h v
section
variable {w w' : World} {F G : Nat → Prop} {g h : Nat} {l : List Nat} {v : Value}
theorem Wk.mono (x : Wk w F g l h v) (hF : ∀ k, F k → G k) : Wk w G g l h v := ⟨hF _ x.mine, hF _ x.at_, fun k hk => hF _ (x.row k hk), x.blk, x.kept, x.own⟩
theorem Wk.stays (x : Wk w F g l h v) (hk : Kept G w w') (hFG : ∀ k, F k → ¬ G k) : Wk w' F g l h v :=
  ⟨x.mine, x.at_, x.row, x.blk.kept hk (hFG _ x.mine), x.kept.kept hk (hFG _ x.at_), own_kept x.own hk fun k e => hFG _ (x.row k e)⟩
theorem Wk.below (x : Wk w F g l h v) (hb : Below w.heap.size w w') : Wk w' F g l h v := x.stays (G := fun _ => False) (Kept.of_below hb) fun _ _ e => e
theorem Wk.ne_ (x : Wk w F g l h v) : h ≠ g := x.kept.apart x.blk (by decide)
theorem Wk.rowg (x : Wk w F g l h v) : v.ownBlock ≠ some g := own_apart x.own x.blk (by decide)
theorem Wk.rowh (x : Wk w F g l h v) : v.ownBlock ≠ some h := own_apart x.own x.kept (by decide)
theorem Wk.form (x : Wk w F g l h v) : ∃ A c, v = .slice A l.length c ∧ l.length ≤ c := own_form x.own
theorem Wr.lt (x : Wr w F g l) : g < w.heap.size := by
  rcases x.is with ⟨hb, _⟩ | ⟨_, _, y⟩
  · exact hb.lt
  · exact y.blk.lt
theorem Wr.mono (x : Wr w F g l) (hF : ∀ k, F k → G k) : Wr w G g l := by
  refine ⟨hF _ x.mine, ?_⟩
  rcases x.is with hb | ⟨h, v, y⟩
  · exact .inl hb
  · exact .inr ⟨h, v, y.mono hF⟩
/-- Its blocks are there. -/
theorem Wr.there (x : Wr w F g l) : Wr w (fun k => F k ∧ k < w.heap.size) g l := by
  refine ⟨⟨x.mine, x.lt⟩, ?_⟩
  rcases x.is with hb | ⟨h, v, y⟩
  · exact .inl hb
  · exact .inr ⟨h, v, ⟨y.mine, y.blk.lt⟩, ⟨y.at_, y.kept.lt⟩, fun k hk => ⟨y.row k hk, (y.own.lt k hk).2⟩, y.blk, y.kept, y.own⟩
/-- It stays where none of its blocks turns. -/
theorem Wr.stays (x : Wr w F g l) (hk : Kept G w w') (hFG : ∀ k, F k → ¬ G k) : Wr w' F g l := by
  refine ⟨x.mine, ?_⟩
  rcases x.is with ⟨hb, e⟩ | ⟨h, v, y⟩
  · exact .inl ⟨hb.kept hk (hFG _ x.mine), e⟩
  · exact .inr ⟨h, v, y.stays hk hFG⟩
theorem Wr.below (x : Wr w F g l) (hb : Below w.heap.size w w') : Wr w' F g l := x.stays (G := fun _ => False) (Kept.of_below hb) fun _ _ e => e
/-- The Writer's number of bytes. -/
theorem Wr.size (x : Wr w F g l) : w.cell? ⟨g, 1, none⟩ = some (.int .i64 (l.length : Int)) := by
  rcases x.is with ⟨hb, rfl⟩ | ⟨_, _, y⟩
  · exact hb.cell 1
  · exact y.blk.cell 1
end
/-- F, and the blocks that were made from w to w'. -/
def More (w w' : World) (F : Nat → Prop) (k : Nat) : Prop := F k ∨ (w.heap.size ≤ k ∧ k < w'.heap.size)
theorem More.of {w w' : World} {F : Nat → Prop} {k : Nat} (h : F k) : More w w' F k := .inl h
theorem More.trans {a b c : World} {F : Nat → Prop} (h1 : a.heap.size ≤ b.heap.size) (h2 : b.heap.size ≤ c.heap.size) {k : Nat} (h : More b c (More a b F) k) : More a c F k := by
  rcases h with (h | h) | h
  · exact .inl h
  · exact .inr (by omega)
  · exact .inr (by omega)
theorem More.grow {a b c : World} {F : Nat → Prop} (h2 : b.heap.size ≤ c.heap.size) {k : Nat} (h : More a b F k) : More a c F k := by
  rcases h with h | h
  · exact .inl h
  · exact .inr (by omega)
theorem Kept.more {a b c : World} {F : Nat → Prop} (h : Kept F a b) (k : Kept (More a b F) b c) : Kept F a c :=
  ⟨k.os.trans h.os, k.tape.trans h.tape, k.output.trans h.output, Nat.le_trans h.size k.size, fun i hi hf => (k.block i (Nat.lt_of_lt_of_le hi h.size) (fun e => by
    rcases e with e | e
    · exact hf e
    · omega)).trans (h.block i hi hf)⟩

theorem wide_yes (n : Int) (w : World) (h1 : 1 ≤ n) (h2 : n ≤ 8) : Calls Tryd.prog 56 #[.int .i64 n] w fun e w' => e = .returned (.bool true) ∧ w = w' := by
  go_enter Tryd.func56, Tryd.ntmps56
  go_wp2
  go_ret
  exact ⟨rfl, rfl⟩
theorem wide_low (n : Int) (w : World) (h1 : n < 1) : Calls Tryd.prog 56 #[.int .i64 n] w fun e w' => e = .returned (.bool false) ∧ w = w' := by
  go_enter Tryd.func56, Tryd.ntmps56
  go_wp2
  go_ret
  exact ⟨rfl, rfl⟩
theorem wide_high (n : Int) (w : World) (h1 : 8 < n) : Calls Tryd.prog 56 #[.int .i64 n] w fun e w' => e = .returned (.bool false) ∧ w = w' := by
  have h2 : 1 ≤ n := by omega
  go_enter Tryd.func56, Tryd.ntmps56
  go_wp2
  go_ret
  exact ⟨congrArg (fun b => Ending.returned (.bool b)) (by simpa using h1), rfl⟩
theorem wide_no (n : Int) (w : World) (h1 : ¬ (1 ≤ n ∧ n ≤ 8)) : Calls Tryd.prog 56 #[.int .i64 n] w fun e w' => e = .returned (.bool false) ∧ w = w' := by
  by_cases h : n < 1
  · exact wide_low n w h
  · exact wide_high n w (by omega)

theorem wbytes_nil (w : World) : Calls Tryd.prog 31 #[.pointer none] w fun e w' => e = .returned (.slice none 0 0) ∧ w = w' := by
  go_enter Tryd.func31, Tryd.ntmps31
  go_wp2
  go_ret
  exact ⟨rfl, rfl⟩
theorem wbytes_none (g : Nat) (w : World) (hc : w.cell? ⟨g, 1, none⟩ = some (.int .i64 0)) : Calls Tryd.prog 31 #[.pointer (some ⟨g, 0, none⟩)] w fun e w' => e = .returned (.slice none 0 0) ∧ w = w' := by
  go_enter Tryd.func31, Tryd.ntmps31
  go_wp2
  go_ret
  exact ⟨rfl, rfl⟩
set_option maxRecDepth 100000 in
set_option maxHeartbeats 400000 in
theorem wbytes_t (F : Nat → Prop) (g : Nat) (l : List Nat) (w : World) (h : Wr w F g l) (hl : l.length ≤ 70368744177664) :
    Calls Tryd.prog 31 #[.pointer (some ⟨g, 0, none⟩)] w fun e w' => ∃ v, e = .returned v ∧ Fresh 5 w w' v l := by
  by_cases h0 : l = []
  · subst h0
    refine (wbytes_none g w h.size).mono ?_
    rintro e w' ⟨rfl, rfl⟩
    exact ⟨_, rfl, nil_own _ _, Below.refl _ _⟩
  · have hpos : 0 < l.length := List.length_pos_iff.2 h0
    rcases h.is with ⟨_, e⟩ | ⟨hh, v, y⟩
    · exact absurd e h0
    · have hown := y.own
      obtain ⟨A, cap, rfl, hcap⟩ := y.form
      have c0 : w.cell? ⟨g, 0, none⟩ = some (.pointer (some ⟨hh, 0, none⟩)) := y.blk.cell 0
      have c1 : w.cell? ⟨g, 1, none⟩ = some (.int .i64 (l.length : Int)) := y.blk.cell 1
      have c2 : w.cell? ⟨hh, 0, none⟩ = some (.slice A l.length cap) := y.kept.cell 0
      have t0 : ((l.length : Int) == 0) = false := by rw [beq_eq_false_iff_ne]; omega
      have hsl := slice_high (P := Tryd.prog) (t := 27) (e := 5) Tryd.underlying27 byte_size A l.length cap .i64 l.length hcap
      have HS := Lib.hid (Sr.of_own hown)
      have HL := Lib.hid hl
      clear hown h h0 hl y
      go_enter Tryd.func31, Tryd.ntmps31
      go_wp2_with fail
      refine wp_region_still_tail 12 (by kernel_rfl) (by kernel_rfl) ?_
      simp only [List.take_succ_cons, List.take_zero, List.drop_succ_cons, List.drop_zero]
      repeat (refine wpStill_step (fun K hK => ?_); go_simp; (try go_bits); refine hK _ ?_; clear hK K)
      refine wpStill_nil ?_
      refine append_bytes (.const (.slice none 0 0)) (.tmp 23) 27 rfl rfl 5 Tryd.underlying27 byte_info w.heap.size (.slice none 0 0) 0 [] l rfl (nil_own _ _) A l.length cap rfl rfl HS.out (by have := HL.out; omega) (Nat.le_refl _) ?_
      intro v w1 h1 h2 _
      go_wp2
      go_ret
      refine ⟨v, rfl, by simpa using h1.out, ?_⟩
      exact ((Below.refl _ w).drew).grown h2.out (Nat.le_refl _) (by simp [Value.ownBlock])

set_option maxRecDepth 100000 in
set_option maxHeartbeats 400000 in
theorem part_kept (F : Nat → Prop) (g : Nat) (l : List Nat) (h : Nat) (v : Value) (w : World) (x : Wk w F g l h v) :
    Calls Tryd.prog 57 #[.pointer (some ⟨g, 0, none⟩)] w fun e w' => e = .returned (.tuple #[]) ∧ ∃ n, w' = w.drewN n := by
  obtain ⟨A, cap, rfl, hcap⟩ := x.form
  have c0 : w.cell? ⟨g, 0, none⟩ = some (.pointer (some ⟨h, 0, none⟩)) := x.blk.cell 0
  have c1 : w.cell? ⟨g, 1, none⟩ = some (.int .i64 (l.length : Int)) := x.blk.cell 1
  have c2 : w.cell? ⟨h, 0, none⟩ = some (.slice A l.length cap) := x.kept.cell 0
  have t0 : ((l.length : Int) != (l.length : Int)) = false := bne_self_eq_false _
  clear x
  go_enter Tryd.func57, Tryd.ntmps57
  go_wp2_with fail
  go_quiet (fail)
  go_wp2
  go_end0
  exact ⟨rfl, _, rfl⟩
set_option maxRecDepth 100000 in
set_option maxHeartbeats 400000 in
theorem part_new (g : Nat) (w : World) (x : Blk w g 68 [.pointer none, .int .i64 0]) :
    Calls Tryd.prog 57 #[.pointer (some ⟨g, 0, none⟩)] w fun e w' => e = .returned (.tuple #[]) ∧ ∃ n, w' = ((w.drewN n).alloc (.cells #[.slice none 0 0] 110)).setCell ⟨g, 0, none⟩ (.pointer (some ⟨w.heap.size, 0, none⟩)) := by
  have c0 : w.cell? ⟨g, 0, none⟩ = some (.pointer none) := x.cell 0
  have c1 : w.cell? ⟨g, 1, none⟩ = some (.int .i64 0) := x.cell 1
  have f0 : w.frozen? ⟨g, 0, none⟩ = false := x.frozen 0
  have hlt := x.lt
  clear x
  go_enter Tryd.func57, Tryd.ntmps57
  go_wp2_with fail
  go_quiet (fail)
  have ca : ((w.drewN nq).alloc (.cells #[.slice none 0 0] 110)).cell? ⟨g, 0, none⟩ = some (.pointer none) := (World.cell?_alloc_lt _ _ ⟨g, 0, none⟩ hlt).trans c0
  have fa : ((w.drewN nq).alloc (.cells #[.slice none 0 0] 110)).frozen? ⟨g, 0, none⟩ = false := (((Below.refl w.heap.size (w.drewN nq)).alloc (Nat.le_refl _) _).frozen (p := ⟨g, 0, none⟩) hlt).trans f0
  go_wp2_with (go_at_call 31; refine (wbytes_none g _ (by exact c1)).mono ?_; rintro e w2 ⟨rfl, rfl⟩)
  go_end0
  exact ⟨rfl, _, rfl⟩
end Go.Proofs.YthcebaegijlbdaaDoor
