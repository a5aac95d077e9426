/-
  THE WRITER OF PACKAGE pack
-/
import Derived.Test.YtidklgicmhdapaaGreatDoorAv1
import Derived.Laws.BitsAllLaws
import Derived.IntWalk
import Derived.Lib.SlBytesConst
namespace Go.Proofs.YtidklgicmhdapaaGreatDoor
open Go Go.RowKit Sh

structure Wk (w : World) (F : Nat → Prop) (g : Nat) (l : List Nat) (h : Nat) (v : Value) : Prop where
  mine : F g
  at_ : F h
  row : ∀ k, v.ownBlock = some k → F k
  blk : Blk w g 66 [.pointer (some ⟨h, 0, none⟩), .int .i64 (l.length : Int)]
  kept : Blk w h 71 [v]
  own : w.ownsRow 0 5 1 v l.length (u8s l)
structure Wr (w : World) (F : Nat → Prop) (g : Nat) (l : List Nat) : Prop where
  mine : F g
  is : (Blk w g 66 [.pointer none, .int .i64 0] ∧ l = []) ∨ ∃ h v, Wk w F g l h v
section
variable {w w' : World} {F G : Nat → Prop} {g h : Nat} {l : List Nat} {v : Value}
theorem Wk.mono (x : Wk w F g l h v) (hF : ∀ k, F k → G k) : Wk w G g l h v := ⟨hF _ x.mine, hF _ x.at_, fun k hk => hF _ (x.row k hk), x.blk, x.kept, x.own⟩
theorem Wk.stays (x : Wk w F g l h v) (hk : Kept G w w') (hFG : ∀ k, F k → ¬ G k) : Wk w' F g l h v :=
  ⟨x.mine, x.at_, x.row, x.blk.kept hk (hFG _ x.mine), x.kept.kept hk (hFG _ x.at_), own_kept x.own hk fun k e => hFG _ (x.row k e)⟩
theorem Wk.ne_ (x : Wk w F g l h v) : h ≠ g := x.kept.apart x.blk (by decide)
theorem Wk.rowg (x : Wk w F g l h v) : v.ownBlock ≠ some g := own_apart x.own x.blk (by decide)
theorem Wk.rowh (x : Wk w F g l h v) : v.ownBlock ≠ some h := own_apart x.own x.kept (by decide)
theorem Wk.form (x : Wk w F g l h v) : ∃ A c, v = .slice A l.length c ∧ l.length ≤ c := own_form x.own
theorem Wr.lt (x : Wr w F g l) : g < w.heap.size := by
  rcases x.is with ⟨hb, _⟩ | ⟨_, _, y⟩
  · exact hb.lt
  · exact y.blk.lt
theorem Wr.mono (x : Wr w F g l) (hF : ∀ k, F k → G k) : Wr w G g l := by
  refine ⟨hF _ x.mine, ?_⟩
  rcases x.is with hb | ⟨h, v, y⟩
  · exact .inl hb
  · exact .inr ⟨h, v, y.mono hF⟩
theorem Wr.there (x : Wr w F g l) : Wr w (fun k => F k ∧ k < w.heap.size) g l := by
  refine ⟨⟨x.mine, x.lt⟩, ?_⟩
  rcases x.is with hb | ⟨h, v, y⟩
  · exact .inl hb
  · exact .inr ⟨h, v, ⟨y.mine, y.blk.lt⟩, ⟨y.at_, y.kept.lt⟩, fun k hk => ⟨y.row k hk, (y.own.lt k hk).2⟩, y.blk, y.kept, y.own⟩
theorem Wr.stays (x : Wr w F g l) (hk : Kept G w w') (hFG : ∀ k, F k → ¬ G k) : Wr w' F g l := by
  refine ⟨x.mine, ?_⟩
  rcases x.is with ⟨hb, e⟩ | ⟨h, v, y⟩
  · exact .inl ⟨hb.kept hk (hFG _ x.mine), e⟩
  · exact .inr ⟨h, v, y.stays hk hFG⟩
theorem Wr.below (x : Wr w F g l) (hb : Below w.heap.size w w') : Wr w' F g l := x.stays (G := fun _ => False) (Kept.of_below hb) fun _ _ e => e
theorem Wr.size (x : Wr w F g l) : w.cell? ⟨g, 1, none⟩ = some (.int .i64 (l.length : Int)) := by
  rcases x.is with ⟨hb, rfl⟩ | ⟨_, _, y⟩
  · exact hb.cell 1
  · exact y.blk.cell 1
end
def More (w w' : World) (F : Nat → Prop) (k : Nat) : Prop := F k ∨ (w.heap.size ≤ k ∧ k < w'.heap.size)
theorem More.trans {a b c : World} {F : Nat → Prop} (h1 : a.heap.size ≤ b.heap.size) (h2 : b.heap.size ≤ c.heap.size) {k : Nat} (h : More b c (More a b F) k) : More a c F k := by
  rcases h with (h | h) | h
  · exact .inl h
  · exact .inr (by omega)
  · exact .inr (by omega)
theorem More.grow {a b c : World} {F : Nat → Prop} (h2 : b.heap.size ≤ c.heap.size) {k : Nat} (h : More a b F k) : More a c F k := by
  rcases h with h | h
  · exact .inl h
  · exact .inr (by omega)
theorem Kept.more {a b c : World} {F : Nat → Prop} (h : Kept F a b) (k : Kept (More a b F) b c) : Kept F a c :=
  ⟨k.os.trans h.os, k.tape.trans h.tape, k.output.trans h.output, Nat.le_trans h.size k.size, fun i hi hf => (k.block i (Nat.lt_of_lt_of_le hi h.size) (fun e => by
    rcases e with e | e
    · exact hf e
    · omega)).trans (h.block i hi hf)⟩

theorem wide_yes (n : Int) (w : World) (h1 : 1 ≤ n) (h2 : n ≤ 8) : Calls Tryz.prog 41 #[.int .i64 n] w fun e w' => e = .returned (.bool true) ∧ w = w' := by
  go_enter Tryz.func41, Tryz.ntmps41
  go_wp2
  go_ret
  exact ⟨rfl, rfl⟩
theorem wbytes_none (g : Nat) (w : World) (hc : w.cell? ⟨g, 1, none⟩ = some (.int .i64 0)) : Calls Tryz.prog 40 #[.pointer (some ⟨g, 0, none⟩)] w fun e w' => e = .returned (.slice none 0 0) ∧ w = w' := by
  go_enter Tryz.func40, Tryz.ntmps40
  go_wp2
  go_ret
  exact ⟨rfl, rfl⟩
set_option maxRecDepth 100000 in
set_option maxHeartbeats 400000 in
theorem wbytes_t (F : Nat → Prop) (g : Nat) (l : List Nat) (w : World) (h : Wr w F g l) (hl : l.length ≤ 70368744177664) :
    Calls Tryz.prog 40 #[.pointer (some ⟨g, 0, none⟩)] w fun e w' => ∃ v, e = .returned v ∧ Fresh 5 w w' v l := by
  by_cases h0 : l = []
  · subst h0
    refine (wbytes_none g w h.size).mono ?_
    rintro e w' ⟨rfl, rfl⟩
    exact ⟨_, rfl, nil_own _ _, Below.refl _ _⟩
  · have hpos : 0 < l.length := List.length_pos_iff.2 h0
    rcases h.is with ⟨_, e⟩ | ⟨hh, v, y⟩
    · exact absurd e h0
    · have hown := y.own
      obtain ⟨A, cap, rfl, hcap⟩ := y.form
      have c0 : w.cell? ⟨g, 0, none⟩ = some (.pointer (some ⟨hh, 0, none⟩)) := y.blk.cell 0
      have c1 : w.cell? ⟨g, 1, none⟩ = some (.int .i64 (l.length : Int)) := y.blk.cell 1
      have c2 : w.cell? ⟨hh, 0, none⟩ = some (.slice A l.length cap) := y.kept.cell 0
      have t0 : ((l.length : Int) == 0) = false := by rw [beq_eq_false_iff_ne]; omega
      have hsl := slice_high (P := Tryz.prog) (t := 24) (e := 5) Tryz.underlying24 byte_size A l.length cap .i64 l.length hcap
      have HS := Lib.hid (Sr.of_own hown)
      have HL := Lib.hid hl
      clear hown h h0 hl y
      go_enter Tryz.func40, Tryz.ntmps40
      go_wp2_with fail
      refine wp_region_still_tail 12 (by kernel_rfl) (by kernel_rfl) ?_
      simp only [List.take_succ_cons, List.take_zero, List.drop_succ_cons, List.drop_zero]
      repeat (refine wpStill_step (fun K hK => ?_); go_simp; (try go_bits); refine hK _ ?_; clear hK K)
      refine wpStill_nil ?_
      refine append_bytes (.const (.slice none 0 0)) (.tmp 23) 24 rfl rfl 5 Tryz.underlying24 byte_info w.heap.size (.slice none 0 0) 0 [] l rfl (nil_own _ _) A l.length cap rfl rfl HS.out (by have := HL.out; omega) (Nat.le_refl _) ?_
      intro v w1 h1 h2 _
      go_wp2
      go_ret
      refine ⟨v, rfl, by simpa using h1.out, ?_⟩
      exact ((Below.refl _ w).drew).grown h2.out (Nat.le_refl _) (by simp [Value.ownBlock])

set_option maxRecDepth 100000 in
set_option maxHeartbeats 400000 in
theorem part_kept (F : Nat → Prop) (g : Nat) (l : List Nat) (h : Nat) (v : Value) (w : World) (x : Wk w F g l h v) :
    Calls Tryz.prog 42 #[.pointer (some ⟨g, 0, none⟩)] w fun e w' => e = .returned (.tuple #[]) ∧ ∃ n, w' = w.drewN n := by
  obtain ⟨A, cap, rfl, hcap⟩ := x.form
  have c0 : w.cell? ⟨g, 0, none⟩ = some (.pointer (some ⟨h, 0, none⟩)) := x.blk.cell 0
  have c1 : w.cell? ⟨g, 1, none⟩ = some (.int .i64 (l.length : Int)) := x.blk.cell 1
  have c2 : w.cell? ⟨h, 0, none⟩ = some (.slice A l.length cap) := x.kept.cell 0
  have t0 : ((l.length : Int) != (l.length : Int)) = false := bne_self_eq_false _
  clear x
  go_enter Tryz.func42, Tryz.ntmps42
  go_wp2_with fail
  go_quiet (fail)
  go_wp2
  go_end0
  exact ⟨rfl, _, rfl⟩
set_option maxRecDepth 100000 in
set_option maxHeartbeats 400000 in
theorem part_new (g : Nat) (w : World) (x : Blk w g 66 [.pointer none, .int .i64 0]) :
    Calls Tryz.prog 42 #[.pointer (some ⟨g, 0, none⟩)] w fun e w' => e = .returned (.tuple #[]) ∧ ∃ n, w' = ((w.drewN n).alloc (.cells #[.slice none 0 0] 71)).setCell ⟨g, 0, none⟩ (.pointer (some ⟨w.heap.size, 0, none⟩)) := by
  have c0 : w.cell? ⟨g, 0, none⟩ = some (.pointer none) := x.cell 0
  have c1 : w.cell? ⟨g, 1, none⟩ = some (.int .i64 0) := x.cell 1
  have f0 : w.frozen? ⟨g, 0, none⟩ = false := x.frozen 0
  have hlt := x.lt
  clear x
  go_enter Tryz.func42, Tryz.ntmps42
  go_wp2_with fail
  go_quiet (fail)
  have ca : ((w.drewN nq).alloc (.cells #[.slice none 0 0] 71)).cell? ⟨g, 0, none⟩ = some (.pointer none) := (World.cell?_alloc_lt _ _ ⟨g, 0, none⟩ hlt).trans c0
  have fa : ((w.drewN nq).alloc (.cells #[.slice none 0 0] 71)).frozen? ⟨g, 0, none⟩ = false := (((Below.refl w.heap.size (w.drewN nq)).alloc (Nat.le_refl _) _).frozen (p := ⟨g, 0, none⟩) hlt).trans f0
  go_wp2_with (go_at_call 40; refine (wbytes_none g _ (by exact c1)).mono ?_; rintro e w2 ⟨rfl, rfl⟩)
  go_end0
  exact ⟨rfl, _, rfl⟩
end Go.Proofs.YtidklgicmhdapaaGreatDoor
namespace Go.Proofs.YtidklgicmhdapaaGreatDoor
open Go Go.RowKit Sh

structure Rd (w : World) (g : Nat) (xs : List Nat) (bad : Bool) : Prop where
  is : ∃ A c, Blk w g 73 [.slice A xs.length c, .bool bad] ∧ xs.length ≤ c ∧ Sr w A xs
  none_ : bad = true → xs = []
theorem Rd.lt {w : World} {g : Nat} {xs : List Nat} {bad : Bool} (x : Rd w g xs bad) : g < w.heap.size := by
  obtain ⟨_, _, h, _⟩ := x.is
  exact h.lt
theorem sr_far {w : World} {g : Nat} {t : TypeId} {A p : Option Addr} {n c : Nat} {bad : Bool} {xs : List Nat} (hg : Blk w g t [.slice A n c, .bool bad]) (h : Sr w p xs) : 0 < xs.length → ∀ a : Addr, p = some a → a.block ≠ g := fun hx a ha => by
  obtain ⟨b, o, e, h1, h2⟩ := h hx
  rw [ha] at e
  injection e with e
  subst e
  rintro rfl
  have h3 := h2 0 hx
  rw [hg.cell] at h3
  rcases Nat.lt_or_ge (o + 0) 2 with hl | hl
  · have : o + 0 = 0 ∨ o + 0 = 1 := by omega
    rcases this with e | e <;> rw [e] at h3 <;> simp at h3
  · rw [List.getElem?_eq_none (by simpa using hl)] at h3
    cases h3
theorem Sr.but1 {w w' : World} {g : Nat} {p : Option Addr} {xs : List Nat} (h : Sr w p xs) (hk : Kept (fun k => k = g) w w') (hf : 0 < xs.length → ∀ a : Addr, p = some a → a.block ≠ g) : Sr w' p xs := fun hx => by
  obtain ⟨b, o, rfl, h1, h2⟩ := h hx
  have hne := hf hx ⟨b, o, none⟩ rfl
  exact ⟨b, o, rfl, Nat.lt_of_lt_of_le h1 hk.size, fun j hj => (hk.cell (p := ⟨b, o + j, none⟩) h1 hne).trans (h2 j hj)⟩
theorem Sr.take {w : World} {p : Option Addr} {xs : List Nat} (h : Sr w p xs) (n : Nat) : Sr w p (xs.take n) := fun hx => by
  rw [List.length_take] at hx
  obtain ⟨b, o, e, h1, h2⟩ := h (by omega)
  refine ⟨b, o, e, h1, fun j hj => ?_⟩
  rw [List.length_take] at hj
  rw [h2 j (by omega)]
  congr 3
  simp [gt, List.getD_eq_getElem?_getD, show j < n by omega]
theorem gt_dropn (l : List Nat) (n j : Nat) : gt (l.drop n) j = gt l (n + j) := by simp [gt, List.getD_eq_getElem?_getD]
theorem Sr.drop {w : World} {p p2 : Option Addr} {xs : List Nat} {n : Nat} (h : Sr w p xs) (h2 : n < xs.length → ∀ g off, p = some ⟨g, off, none⟩ → p2 = some ⟨g, off + n, none⟩) : Sr w p2 (xs.drop n) := fun hx => by
  have hx' : n < xs.length := by rw [List.length_drop] at hx; omega
  obtain ⟨b, o, e, h1, h4⟩ := h (by omega)
  refine ⟨b, o + n, h2 hx' _ _ e, h1, fun j hj => ?_⟩
  rw [List.length_drop] at hj
  rw [gt_dropn, Nat.add_assoc]
  exact h4 (n + j) (by omega)
theorem Rd.stays {w w' : World} {G : Nat → Prop} {g : Nat} {xs : List Nat} {bad : Bool} (x : Rd w g xs bad) (hk : Kept G w w') (hg : ¬ G g) (hr : ∀ A n c b, Blk w g 73 [.slice A n c, .bool b] → ∀ a : Addr, A = some a → ¬ G a.block) : Rd w' g xs bad := by
  obtain ⟨A, c, h1, h2, h3⟩ := x.is
  exact ⟨⟨A, c, h1.kept hk hg, h2, h3.kept hk (fun _ => hr _ _ _ _ h1)⟩, x.none_⟩
theorem Rd.below {w w' : World} {g : Nat} {xs : List Nat} {bad : Bool} (x : Rd w g xs bad) (hb : Below w.heap.size w w') : Rd w' g xs bad :=
  x.stays (G := fun _ => False) (Kept.of_below hb) id fun _ _ _ _ _ _ _ h => h

theorem left_t (g : Nat) (xs : List Nat) (bad : Bool) (w : World) (x : Rd w g xs bad) : Calls Tryz.prog 45 #[.pointer (some ⟨g, 0, none⟩)] w fun e w' => e = .returned (.int .i64 (xs.length : Int)) ∧ w = w' := by
  obtain ⟨A, c, h1, _, _⟩ := x.is
  have c0 : w.cell? ⟨g, 0, none⟩ = some (.slice A xs.length c) := h1.cell 0
  clear x h1
  go_enter Tryz.func45, Tryz.ntmps45
  go_wp2
  go_ret
  exact ⟨rfl, rfl⟩
def endN (xs : List Nat) (bad : Bool) : Nat := if bad = true ∨ 0 < xs.length then 2 else 0
theorem end_t (g : Nat) (xs : List Nat) (bad : Bool) (w : World) (x : Rd w g xs bad) : Calls Tryz.prog 27 #[.pointer (some ⟨g, 0, none⟩)] w fun e w' => e = .returned (.int .i64 (endN xs bad : Nat)) ∧ w = w' := by
  obtain ⟨A, c, h1, _, _⟩ := x.is
  have c0 : w.cell? ⟨g, 0, none⟩ = some (.slice A xs.length c) := h1.cell 0
  have c1 : w.cell? ⟨g, 1, none⟩ = some (.bool bad) := h1.cell 1
  have hn := x.none_
  clear x h1
  cases bad
  · clear hn
    by_cases hx : 0 < xs.length
    · have e : endN xs false = 2 := by unfold endN; rw [if_pos (.inr hx)]
      rw [e]
      clear e
      go_enter Tryz.func27, Tryz.ntmps27
      go_wp2
      go_ret
      exact ⟨rfl, rfl⟩
    · have e : endN xs false = 0 := by unfold endN; rw [if_neg (by simp [hx])]
      obtain rfl : xs = [] := List.eq_nil_of_length_eq_zero (by omega)
      rw [e]
      clear e hx
      go_enter Tryz.func27, Tryz.ntmps27
      go_wp2
      go_ret
      exact ⟨rfl, rfl⟩
  · obtain rfl := hn rfl
    clear hn
    have e : endN [] true = 2 := rfl
    rw [e]
    clear e
    go_enter Tryz.func27, Tryz.ntmps27
    go_wp2
    go_ret
    exact ⟨rfl, rfl⟩
theorem rfail_t (g : Nat) (xs : List Nat) (bad : Bool) (w : World) (x : Rd w g xs bad) : Calls Tryz.prog 43 #[.pointer (some ⟨g, 0, none⟩)] w fun e w' => e = .returned (.tuple #[]) ∧ Rd w' g [] true ∧ Kept (fun k => k = g) w w' := by
  obtain ⟨A, c, h1, _, _⟩ := x.is
  have c0 : w.cell? ⟨g, 0, none⟩ = some (.slice A xs.length c) := h1.cell 0
  have c1 : w.cell? ⟨g, 1, none⟩ = some (.bool bad) := h1.cell 1
  have f0 := h1.frozen 0
  have f1 := h1.frozen 1
  have H1 := Lib.hid h1
  clear x h1
  go_enter Tryz.func43, Tryz.ntmps43
  go_wp2
  go_end0
  refine ⟨rfl, ⟨⟨none, 0, ?_, Nat.le_refl _, Sr.nil⟩, fun _ => rfl⟩, ?_⟩
  · exact (H1.out.store 0 (.slice none 0 0)).store 1 (.bool true)
  · exact Kept.setCell (F := fun k => k = g) (Kept.setCell (F := fun k => k = g) (Kept.refl _ w) (p := ⟨g, 0, none⟩) (.inl rfl) _) (p := ⟨g, 1, none⟩) (.inl rfl) _
theorem take_ok (g : Nat) (xs : List Nat) (bad : Bool) (n : Nat) (w : World) (x : Rd w g xs bad) (hn : n ≤ xs.length) (hl : xs.length ≤ 70368744177664) :
    Calls Tryz.prog 44 #[.pointer (some ⟨g, 0, none⟩), .int .i64 n] w fun e w' => (∃ A c, e = .returned (.slice A n c) ∧ n ≤ c ∧ Sr w' A (xs.take n)) ∧ Rd w' g (xs.drop n) bad ∧ Kept (fun k => k = g) w w' := by
  have X := Lib.hid x; have HL := Lib.hid hl
  obtain ⟨A, c, h1, hc, h3⟩ := x.is
  have c0 : w.cell? ⟨g, 0, none⟩ = some (.slice A xs.length c) := h1.cell 0
  have f0 := h1.frozen 0
  have far := sr_far h1 h3
  have H1 := Lib.hid h1; have H3 := Lib.hid h3; have FAR := Lib.hid far
  have HN := Lib.hid hn; have HC := Lib.hid hc
  obtain ⟨p2, hp2, he2⟩ := slice_low (P := Tryz.prog) (t := 24) (e := 5) Tryz.underlying24 byte_size A xs.length c .i64 n hn hc
  have he1 := slice_high (P := Tryz.prog) (t := 24) (e := 5) Tryz.underlying24 byte_size A xs.length c .i64 n (by omega)
  have HP2 := Lib.hid hp2
  have i1 : (n : Int) ≤ (xs.length : Int) := by omega
  clear x h1 h3 far hp2 hl
  go_enter Tryz.func44, Tryz.ntmps44
  go_wp2_with (go_at_call 45; refine (left_t g xs bad _ (by exact X.out)).mono ?_; rintro e w2 ⟨rfl, rfl⟩)
  go_ret
  have kk : Kept (fun k => k = g) w (w.setCell ⟨g, 0, none⟩ (.slice p2 (xs.length - n) (c - n))) := Kept.setCell (F := fun k => k = g) (Kept.refl _ w) (p := ⟨g, 0, none⟩) (.inl rfl) _
  have hx := FAR.out
  refine ⟨⟨A, c, rfl, by have := HN.out; have := HC.out; omega, (H3.out.but1 kk hx).take n⟩, ⟨⟨p2, c - n, ?_, ?_, (H3.out.but1 kk hx).drop HP2.out⟩, fun e => ?_⟩, kk⟩
  · rw [List.length_drop]
    exact H1.out.store 0 (.slice p2 (xs.length - n) (c - n))
  · rw [List.length_drop]
    have := HC.out; omega
  · rw [X.out.none_ e]; simp
theorem take_bad (g : Nat) (xs : List Nat) (bad : Bool) (n : Int) (w : World) (x : Rd w g xs bad) (hn : n < 0 ∨ (xs.length : Int) < n) :
    Calls Tryz.prog 44 #[.pointer (some ⟨g, 0, none⟩), .int .i64 n] w fun e w' => e = .returned (.slice none 0 0) ∧ Rd w' g [] true ∧ Kept (fun k => k = g) w w' := by
  have X := Lib.hid x
  clear x
  by_cases hneg : n < 0
  · clear hn
    go_enter Tryz.func44, Tryz.ntmps44
    go_wp2_with (go_at_call 43; refine (rfail_t g xs bad _ (by exact X.out)).mono ?_; rintro e w2 ⟨rfl, x2, k2⟩; have X2 := Lib.hid x2; have K2 := Lib.hid k2; clear x2 k2)
    go_ret
    exact ⟨rfl, X2.out, K2.out⟩
  · have h1 : (xs.length : Int) < n := by omega
    have h0 : 0 ≤ n := by omega
    clear hn
    go_enter Tryz.func44, Tryz.ntmps44
    go_wp2_with (first
      | (go_at_call 45; refine (left_t g xs bad _ (by exact X.out)).mono ?_; rintro e w2 ⟨rfl, rfl⟩)
      | (go_at_call 43; refine (rfail_t g xs bad _ (by exact X.out)).mono ?_; rintro e w2 ⟨rfl, x2, k2⟩; have X2 := Lib.hid x2; have K2 := Lib.hid k2; clear x2 k2))
    go_ret
    exact ⟨rfl, X2.out, K2.out⟩
theorem rnew_t (xs : List Nat) (p : Option Addr) (n c : Nat) (w : World) (hn : xs.length = n) (hp : Sr w p xs) (hl : n ≤ 70368744177664) :
    Calls Tryz.prog 23 #[.slice p n c] w fun e w' => ∃ g, e = .returned (.pointer (some ⟨g, 0, none⟩)) ∧ w.heap.size ≤ g ∧ Rd w' g xs false ∧ Below w.heap.size w w' := by
  subst hn
  have HP := Lib.hid hp; have HL := Lib.hid hl
  clear hp hl
  go_enter Tryz.func23, Tryz.ntmps23
  go_wp2_with ((with_reducible refine append_bytes (.const (.slice none 0 0)) (.tmp 3) 24 rfl rfl 5 Tryz.underlying24 byte_info w.heap.size (.slice none 0 0) 0 [] xs rfl (nil_own _ _) p xs.length c rfl rfl HP.out (by have := HL.out; omega) (Nat.le_refl _) ?_); intro v w1 h1 h2 h3; obtain ⟨A, cap, rfl, hcap⟩ := own_form h1.out)
  go_ret
  have b1 : Below w.heap.size w w1 := (Below.refl _ w).grown h2.out (Nat.le_refl _) (by simp [Value.ownBlock])
  have o := h1.out
  simp only [Nat.zero_add, List.nil_append] at o hcap
  refine ⟨w1.heap.size, rfl, b1.size, ⟨⟨A, cap, Blk.new w1 _ _, hcap, ?_⟩, fun e => by cases e⟩, b1.alloc b1.size _⟩
  exact (Sr.of_own o).below ((Below.refl _ _).alloc (Nat.le_refl _) _)
end Go.Proofs.YtidklgicmhdapaaGreatDoor
namespace Go.Proofs.YtidklgicmhdapaaGreatDoor
open Go Go.RowKit Sh

theorem part_t (F : Nat → Prop) (g : Nat) (l : List Nat) (w : World) (x : Wr w F g l) :
    Calls Tryz.prog 42 #[.pointer (some ⟨g, 0, none⟩)] w fun e w' => e = .returned (.tuple #[]) ∧ ∃ h v, Wk w' (More w w' F) g l h v ∧ Kept (fun k => k = g) w w' := by
  rcases x.is with ⟨hb, rfl⟩ | ⟨h, v, y⟩
  · refine (part_new g w hb).mono ?_
    rintro e w' ⟨rfl, n, rfl⟩
    have hlt := hb.lt
    have hn : g ≠ w.heap.size := by omega
    refine ⟨rfl, w.heap.size, .slice none 0 0, ⟨.inl x.mine, .inr ⟨Nat.le_refl _, by simp [World.setCell]⟩, fun k hk => by simp [Value.ownBlock] at hk, ?_, ?_, nil_own _ _⟩, ?_⟩
    · exact ((hb.drewN n).alloc (.cells #[.slice none 0 0] 71)).store 0 (.pointer (some ⟨w.heap.size, 0, none⟩))
    · exact (Blk.new (w.drewN n) 71 [.slice none 0 0]).far (by simp; omega) _
    · exact Kept.setCell (F := fun k => k = g) (((Kept.refl _ w).drewN n).alloc _) (p := ⟨g, 0, none⟩) (.inl rfl) _
  · refine (part_kept F g l h v w y).mono ?_
    rintro e w' ⟨rfl, n, rfl⟩
    exact ⟨rfl, h, v, ⟨.inl y.mine, .inl y.at_, fun k hk => .inl (y.row k hk), y.blk, y.kept, y.own⟩, (Kept.refl _ w).drewN n⟩
theorem Wr.blk {w : World} {F : Nat → Prop} {g : Nat} {l : List Nat} (x : Wr w F g l) : ∃ (q : Option Addr) (n : Nat), Blk w g 66 [.pointer q, .int .i64 (n : Int)] := by
  rcases x.is with ⟨hb, _⟩ | ⟨_, _, y⟩
  · exact ⟨none, 0, hb⟩
  · exact ⟨_, _, y.blk⟩
theorem Sr.over {w w1 : World} {p : Option Addr} {xs : List Nat} {g : Nat} {t : TypeId} {x : Option Addr} {n : Nat} (h : Sr w p xs) (hk : Kept (fun k => k = g) w w1) (hg : Blk w g t [.pointer x, .int .i64 n]) : Sr w1 p xs := fun hx => by
  obtain ⟨b, o, rfl, h1, h2⟩ := h hx
  have hne : b ≠ g := by
    rintro rfl
    have h3 := h2 0 hx
    rw [hg.cell] at h3
    rcases Nat.lt_or_ge (o + 0) 2 with hl | hl
    · have : o + 0 = 0 ∨ o + 0 = 1 := by omega
      rcases this with e | e <;> rw [e] at h3 <;> simp at h3
    · rw [List.getElem?_eq_none (by simpa using hl)] at h3
      cases h3
  exact ⟨b, o, rfl, Nat.lt_of_lt_of_le h1 hk.size, fun j hj => (hk.cell (p := ⟨b, o + j, none⟩) h1 hne).trans (h2 j hj)⟩

set_option maxRecDepth 100000 in
set_option maxHeartbeats 400000 in
theorem raw_t (F : Nat → Prop) (g : Nat) (l xs : List Nat) (p : Option Addr) (n c : Nat) (w : World) (x : Wr w F g l) (hn : xs.length = n) (hp : Sr w p xs) (hl : l.length + n ≤ 70368744177664) :
    Calls Tryz.prog 21 #[.pointer (some ⟨g, 0, none⟩), .slice p n c] w fun e w' => e = .returned (.tuple #[]) ∧ Wr w' (More w w' F) g (l ++ xs) ∧ Kept F w w' := by
  have MINE := Lib.hid x.mine; have HN := Lib.hid hn; have HP := Lib.hid hp; have HL := Lib.hid hl
  have PT := Lib.hid (part_t F g l w x)
  obtain ⟨_, _, hgb⟩ := x.blk
  have HGB := Lib.hid hgb
  clear x hn hp hl hgb
  go_enter Tryz.func21, Tryz.ntmps21
  go_wp2_with fail
  refine (PT.out).mono ?_
  rintro e w1 ⟨rfl, h, v, y, k1⟩
  have hp1 := HP.out.over k1 HGB.out
  obtain ⟨A, cap, rfl, hcap⟩ := y.form
  have c0 : w1.cell? ⟨g, 0, none⟩ = some (.pointer (some ⟨h, 0, none⟩)) := y.blk.cell 0
  have c2 : w1.cell? ⟨h, 0, none⟩ = some (.slice A l.length cap) := y.kept.cell 0
  have Y := Lib.hid y; have K1 := Lib.hid k1; have HP1 := Lib.hid hp1
  clear y k1 hp1 PT HP HGB
  go_wp2_with fail
  refine wp_region_E (fun W => W.cell? ⟨g, 0, none⟩ = some (.pointer (some ⟨h, 0, none⟩)) ∧ W.cell? ⟨h, 0, none⟩ = some (.slice A l.length cap)) (fun i => i == 15) (by kernel_rfl) ?_
  change wpAnyE _ _ _ _ _ _ _ _ _ w1.drew
  refine wpAnyE_take (i := 0) (v := ?_) rfl (by kernel_rfl) (by kernel_rfl) (by kernel_rfl) (by kernel_rfl) (fun _ _ _ h => h) (Or.inl ⟨by kernel_rfl, ?_⟩) ⟨c0, c2⟩ ?_
  rotate_left 1
  · (intro w hS; obtain ⟨s1, s2⟩ := hS; go_simp; try (with_reducible rfl))
  refine wpAnyE_take (i := 1) (v := ?_) rfl (by kernel_rfl) (by kernel_rfl) (by kernel_rfl) (by kernel_rfl) (fun _ _ _ h => h) (Or.inl ⟨by kernel_rfl, ?_⟩) ⟨c0, c2⟩ ?_
  rotate_left 1
  · (intro w hS; obtain ⟨s1, s2⟩ := hS; go_simp; try (with_reducible rfl))
  refine wpAnyE_take (i := 2) (v := ?_) rfl (by kernel_rfl) (by kernel_rfl) (by kernel_rfl) (by kernel_rfl) (fun _ _ _ h => h) (Or.inl ⟨by kernel_rfl, ?_⟩) ⟨c0, c2⟩ ?_
  rotate_left 1
  · (intro w hS; obtain ⟨s1, s2⟩ := hS; go_simp; try (with_reducible rfl))
  refine wpAnyE_take (i := 3) (v := ?_) rfl (by kernel_rfl) (by kernel_rfl) (by kernel_rfl) (by kernel_rfl) (fun _ _ _ h => h) (Or.inl ⟨by kernel_rfl, ?_⟩) ⟨c0, c2⟩ ?_
  rotate_left 1
  · (intro w hS; obtain ⟨s1, s2⟩ := hS; go_simp; try (with_reducible rfl))
  refine wpAnyE_take (i := 4) (v := ?_) rfl (by kernel_rfl) (by kernel_rfl) (by kernel_rfl) (by kernel_rfl) (fun _ _ _ h => h) (Or.inl ⟨by kernel_rfl, ?_⟩) ⟨c0, c2⟩ ?_
  rotate_left 1
  · (intro w hS; obtain ⟨s1, s2⟩ := hS; go_simp; try (with_reducible rfl))
  refine wpAnyE_take (i := 5) (v := ?_) rfl (by kernel_rfl) (by kernel_rfl) (by kernel_rfl) (by kernel_rfl) (fun _ _ _ h => h) (Or.inl ⟨by kernel_rfl, ?_⟩) ⟨c0, c2⟩ ?_
  rotate_left 1
  · (intro w hS; obtain ⟨s1, s2⟩ := hS; go_simp; try (with_reducible rfl))
  refine wpAnyE_take (i := 6) (v := ?_) rfl (by kernel_rfl) (by kernel_rfl) (by kernel_rfl) (by kernel_rfl) (fun _ _ _ h => h) (Or.inl ⟨by kernel_rfl, ?_⟩) ⟨c0, c2⟩ ?_
  rotate_left 1
  · (intro w hS; obtain ⟨s1, s2⟩ := hS; go_simp; try (with_reducible rfl))
  refine wpAnyE_take (i := 7) (v := ?_) rfl (by kernel_rfl) (by kernel_rfl) (by kernel_rfl) (by kernel_rfl) (fun _ _ _ h => h) (Or.inl ⟨by kernel_rfl, ?_⟩) ⟨c0, c2⟩ ?_
  rotate_left 1
  · (intro w hS; obtain ⟨s1, s2⟩ := hS; go_simp; try (with_reducible rfl))
  refine wpAnyE_take (i := 8) (v := ?_) rfl (by kernel_rfl) (by kernel_rfl) (by kernel_rfl) (by kernel_rfl) (fun _ _ _ h => h) (Or.inl ⟨by kernel_rfl, ?_⟩) ⟨c0, c2⟩ ?_
  rotate_left 1
  · (intro w hS; obtain ⟨s1, s2⟩ := hS; go_simp; try (with_reducible rfl))
  refine wpAnyE_take (i := 9) (v := ?_) rfl (by kernel_rfl) (by kernel_rfl) (by kernel_rfl) (by kernel_rfl) (fun _ _ _ h => h) (Or.inl ⟨by kernel_rfl, ?_⟩) ⟨c0, c2⟩ ?_
  rotate_left 1
  · (intro w hS; obtain ⟨s1, s2⟩ := hS; go_simp; try (with_reducible rfl))
  refine wpAnyE_take (i := 10) (v := ?_) rfl (by kernel_rfl) (by kernel_rfl) (by kernel_rfl) (by kernel_rfl) (fun _ _ _ h => h) (Or.inl ⟨by kernel_rfl, ?_⟩) ⟨c0, c2⟩ ?_
  rotate_left 1
  · (intro w hS; obtain ⟨s1, s2⟩ := hS; go_simp; try (with_reducible rfl))
  refine wpAnyE_take (i := 11) (v := ?_) rfl (by kernel_rfl) (by kernel_rfl) (by kernel_rfl) (by kernel_rfl) (fun _ _ _ h => h) (Or.inl ⟨by kernel_rfl, ?_⟩) ⟨c0, c2⟩ ?_
  rotate_left 1
  · (intro w hS; obtain ⟨s1, s2⟩ := hS; go_simp; try (with_reducible rfl))
  refine wpAnyE_one (i := 12) (by kernel_rfl) rfl (by kernel_rfl) (fun K hK => ?_)
  have ow : w1.drew.ownsRow 0 5 1 (.slice A l.length cap) l.length (u8s l) := Y.out.own
  have sr : Sr w1.drew p xs := HP1.out
  refine wp_append_bytes (.tmp 18) (.tmp 19) 24 ?_ 5 Tryz.underlying24 byte_info 0 (.slice A l.length cap) l.length l xs ?_ ow p n c ?_ HN.out sr HL.out (Nat.zero_le _) ?_
  · rfl
  · go_simp
  · go_simp
  intro v2 w2 h1 h2 h3
  obtain ⟨A2, cap2, rfl, hcap2⟩ := own_form h1.out
  have hg2 : Blk w2 g 66 [.pointer (some ⟨h, 0, none⟩), .int .i64 (l.length : Int)] := (h2.out.block g Y.out.blk.lt (fun e => Y.out.rowg e.symm)).trans Y.out.blk
  have hh2 : Blk w2 h 71 [.slice A l.length cap] := (h2.out.block h Y.out.kept.lt (fun e => Y.out.rowh e.symm)).trans Y.out.kept
  have d2 : w2.cell? ⟨h, 0, none⟩ = some (.slice A l.length cap) := hh2.cell 0
  have e2 : w2.frozen? ⟨h, 0, none⟩ = false := hh2.frozen 0
  have hg3 := hg2.far (p := ⟨h, 0, none⟩) Y.out.ne_.symm (.slice A2 (l.length + n) cap2)
  have hh3 := hh2.store 0 (.slice A2 (l.length + n) cap2)
  have d3 : (w2.setCell ⟨h, 0, none⟩ (.slice A2 (l.length + n) cap2)).cell? ⟨g, 1, none⟩ = some (.int .i64 (l.length : Int)) := hg3.cell 1
  have e3 : (w2.setCell ⟨h, 0, none⟩ (.slice A2 (l.length + n) cap2)).frozen? ⟨g, 1, none⟩ = false := hg3.frozen 1
  have i1 : (l.length : Int) + (n : Int) ≤ 70368744177664 := by have := HL.out; omega
  have H1 := h1; have H2 := h2; have H3 := h3
  have HG := Lib.hid hg3; have HH := Lib.hid hh3; have HG2 := Lib.hid hg2; have HH2 := Lib.hid hh2
  clear hg2 hh2 hg3 hh3 h1 h2 h3 
  have s0 : w2.cell? ⟨g, 0, none⟩ = some (.pointer (some ⟨h, 0, none⟩)) := HG2.out.cell 0
  refine hK.out _ _ (.inr ⟨s0, d2⟩) ?_
  clear hK K
  refine wpAnyE_one (i := 13) (by kernel_rfl) rfl (by kernel_rfl) (fun K hK => ?_)
  go_simp
  refine hK.out _ _ (.inr ⟨s0, d2⟩) ?_
  clear hK K
  refine wpAnyE_take (i := 14) (v := ?_) rfl (by kernel_rfl) (by kernel_rfl) (by kernel_rfl) (by kernel_rfl) (fun _ _ _ h => h) (Or.inl ⟨by kernel_rfl, ?_⟩) ⟨s0, d2⟩ ?_
  rotate_left 1
  · (intro w hS; obtain ⟨s1, s2⟩ := hS; go_simp; try (with_reducible rfl))
  refine wpAnyE_one (i := 15) (by kernel_rfl) rfl (by kernel_rfl) (fun K hK => ?_)
  go_simp
  refine hK.out _ _ (.inl rfl) ?_
  clear hK K
  refine wpAnyE_done (by kernel_rfl) ?_ _
  go_simp
  go_wp2
  go_end0
  have hn := HN.out
  subst hn
  have y := Y.out
  have hw2 : w1.heap.size ≤ w2.heap.size := H2.out.size
  have hsz : ∀ (W : World) (p : Addr) (v : Value), (W.setCell p v).heap.size = W.heap.size := fun _ _ _ => by simp [World.setCell]
  have up : ∀ k, More w w1 F k → More w ((w2.setCell ⟨h, 0, none⟩ (.slice A2 (l.length + xs.length) cap2)).setCell ⟨g, 1, none⟩ (.int .i64 ((l.length : Int) + (xs.length : Int)))) F k := fun k hk => hk.grow (by rw [hsz, hsz]; exact hw2)
  have sel : ∀ k, More w w1 F k → F k ∨ w.heap.size ≤ k := fun k hk => hk.imp id (fun e => e.1)
  have k1 : Kept F w w1 := K1.out.mono fun k e => by subst e; exact MINE.out
  have k2 : Kept F w w2 := k1.drew.grown H2.out fun k e => sel k (y.row k e)
  have k4 : Kept (fun k => k = h ∨ k = g) w2 ((w2.setCell ⟨h, 0, none⟩ (.slice A2 (l.length + xs.length) cap2)).setCell ⟨g, 1, none⟩ (.int .i64 ((l.length : Int) + (xs.length : Int)))) :=
    Kept.setCell (F := fun k => k = h ∨ k = g) (Kept.setCell (F := fun k => k = h ∨ k = g) (Kept.refl _ w2) (p := ⟨h, 0, none⟩) (.inl (.inl rfl)) _) (p := ⟨g, 1, none⟩) (.inl (.inr rfl)) _
  have o2 := H1.out
  refine ⟨rfl, ⟨up _ y.mine, .inr ⟨h, .slice A2 (l.length + xs.length) cap2, up _ y.mine, up _ y.at_, fun k e => ?_, ?_, ?_, ?_⟩⟩, ?_⟩
  · rcases H3.out with e3 | e3
    · exact up _ (y.row k (e3.symm.trans e))
    · have e4 : w1.heap.size = k := Option.some.inj (e3.symm.trans e)
      have e5 := (o2.lt k e).2
      exact .inr ⟨by have := K1.out.size; omega, by rw [hsz, hsz]; exact e5⟩
  · have b := HG.out.store 1 (.int .i64 ((l.length : Int) + (xs.length : Int)))
    rw [List.length_append]
    exact b
  · exact HH.out.far (p := ⟨g, 1, none⟩) y.ne_ _
  · rw [List.length_append]
    refine own_kept o2 k4 fun k e hk => ?_
    rcases hk with rfl | rfl
    · exact own_apart o2 HH2.out (by decide) e
    · exact own_apart o2 HG2.out (by decide) e
  · exact ((k2.setCell (p := ⟨h, 0, none⟩) (sel _ y.at_) _)).setCell (p := ⟨g, 1, none⟩) (sel _ y.mine) _
end Go.Proofs.YtidklgicmhdapaaGreatDoor
namespace Go.Proofs.YtidklgicmhdapaaGreatDoor
open Go Go.RowKit Sh

def beN (v n : Nat) : List Nat := (List.range n).map fun i => v / 2 ^ (8 * (n - 1 - i)) % 256
theorem beN_length (v n : Nat) : (beN v n).length = n := by simp [beN]
theorem beN_bytes (v n : Nat) : Bytes (beN v n) := fun i => by
  rcases Nat.lt_or_ge i n with h | h
  · rw [gt_of_lt (by rw [beN_length]; exact h)]; simp [beN]; omega
  · rw [gt_out (by rw [beN_length]; exact h)]; decide
theorem beN_take (v n k : Nat) (hk : k < n) : (beN v n).take (k + 1) = (beN v n).take k ++ [v / 2 ^ (8 * (n - 1 - k)) % 256] := by
  rw [List.take_succ_eq_append_getElem (by rw [beN_length]; exact hk)]
  simp [beN]
def laid8 (v n k : Nat) : List Nat := (beN v n).take k ++ List.replicate (8 - k) 0
theorem laid8_length (v n k : Nat) (hk : k ≤ n) (hn : n ≤ 8) : (laid8 v n k).length = 8 := by simp [laid8, beN_length]; omega
theorem laid8_set (v n k : Nat) (hk : k < n) (hn : n ≤ 8) : (laid8 v n k).set k (v / 2 ^ (8 * (n - 1 - k)) % 256) = laid8 v n (k + 1) := by
  unfold laid8
  rw [beN_take v n k hk, List.set_append_right _ _ (by simp [beN_length]; omega), List.length_take, beN_length, Nat.min_eq_left (by omega), Nat.sub_self, show 8 - k = (8 - (k + 1)) + 1 from by omega]
  simp [List.replicate_succ]
set_option maxHeartbeats 400000 in
theorem num_fill (p : Option Addr) (v n : Nat) (w : World) (_ : v < 18446744073709551616) (h1 : 1 ≤ n) (h2 : n ≤ 8) (R : Ending → World → Prop)
    (hR : ∀ w1, Below w.heap.size w w1 → w1.heap.size = w.heap.size + 1 → Blk w1 w.heap.size 69 (u8s (laid8 v n n)) → Calls Tryz.prog 21 #[.pointer p, .slice (some ⟨w.heap.size, 0, none⟩) n 8] w1 fun e w' => e = .returned (.tuple #[]) ∧ R (.returned (.tuple #[])) w') :
    Calls Tryz.prog 20 #[.pointer p, .int .u64 v, .int .i64 n] w R := by
  have HR := Lib.hid hR
  clear hR
  go_enter Tryz.func20, Tryz.ntmps20
  go_wp2_with (go_at_call 41; refine (wide_yes n _ (by omega) (by omega)).mono ?_; rintro e w2 ⟨rfl, rfl⟩)
  go_loopw [12] (fun i wr => ∃ k : Nat, k ≤ n ∧ i = .int .i64 k ∧ Blk wr w.heap.size 69 (u8s (laid8 v n k)) ∧ Below w.heap.size w wr ∧ wr.heap.size = w.heap.size + 1) (fun i _ => n - (intOf i).toNat)
  case atStart => exact ⟨0, by omega, rfl, Blk.new w _ _, (Below.refl _ _).alloc (Nat.le_refl _) _, by simp⟩
  case round =>
    obtain ⟨k, hk, rfl, h3, h4, h5⟩ := hrel
    by_cases hlt : k < n
    · obtain ⟨x, hx⟩ : ∃ x, wr.cell? ⟨w.heap.size, k, none⟩ = some x := by
        rw [h3.cell]; exact ⟨_, List.getElem?_eq_getElem (by rw [u8s_length, laid8_length v n k hk h2]; omega)⟩
      have hf := h3.frozen k
      have H3 := Lib.hid h3; have H4 := Lib.hid h4; have H5 := Lib.hid h5
      clear h3 h4 h5
      have b0 : (0 : Int) ≤ (n : Int) - 1 - (k : Int) := by omega
      have b1 : (n : Int) - 1 - (k : Int) ≤ 7 := by omega
      have b2 : (k : Int) < 8 := by omega
      go_wp2
      go_roundw
      case rel =>
        refine ⟨k + 1, by omega, by go_num, ?_, H4.out.setCell (by simp) _, by simpa [World.setCell] using H5.out⟩
        have b := H3.out.store k (.int .u8 ((v / 2 ^ (8 * (n - 1 - k)) % 256 : Nat) : Int))
        rw [u8s_set, laid8_set v n k hlt h2] at b
        have e : ((v : Int) / 2 ^ (8 * (n - 1 - k)) % 256) = ((v / 2 ^ (8 * (n - 1 - k)) % 256 : Nat) : Int) := by
          rw [Int.natCast_emod, Int.natCast_ediv, Int.natCast_pow]; rfl
        rw [e]
        exact b
      case measure => simp [intOf]; omega
    · obtain rfl : k = n := by omega
      have hsl := sliceAt_high (P := Tryz.prog) (t := 69) (e := 5) (n := 8) Tryz.underlying69 byte_size w.heap.size 0 .i64 k h2
      have HC := HR.out wr h4 h5 h3
      clear h3 h4 h5 hk hlt HR
      have HC' := Lib.hid HC
      clear HC
      go_wp2_with (go_at_call 21; refine (HC'.out).mono ?_; rintro e w2 ⟨rfl, hr⟩)
      exact bodyPost_ret (results_none rfl _ _ _) rfl hr
theorem num_t (F : Nat → Prop) (g : Nat) (l : List Nat) (v n : Nat) (w : World) (x : Wr w F g l) (hv : v < 18446744073709551616) (h1 : 1 ≤ n) (h2 : n ≤ 8) (hl : l.length + n ≤ 70368744177664) :
    Calls Tryz.prog 20 #[.pointer (some ⟨g, 0, none⟩), .int .u64 v, .int .i64 n] w fun e w' => e = .returned (.tuple #[]) ∧ Wr w' (More w w' F) g (l ++ beN v n) ∧ Kept F w w' := by
  refine num_fill (some ⟨g, 0, none⟩) v n w hv h1 h2 _ fun w1 hb hz hblk => ?_
  have x1 : Wr w1 (fun k => F k ∧ k < w.heap.size) g l := x.there.below hb
  have k1 : Kept F w w1 := Kept.of_below hb
  have hlay : laid8 v n n = beN v n ++ List.replicate (8 - n) 0 := by unfold laid8; rw [List.take_of_length_le (by rw [beN_length]; exact Nat.le_refl _)]
  have sr : Sr w1 (some ⟨w.heap.size, 0, none⟩) (beN v n) := fun _ => ⟨_, _, rfl, hblk.lt, fun j hj => by
    rw [Nat.zero_add, hblk.cell, u8s_get _ _ (by rw [laid8_length v n n (Nat.le_refl _) h2]; rw [beN_length] at hj; omega), hlay, gt_app_left hj]⟩
  refine (raw_t _ g l (beN v n) (some ⟨w.heap.size, 0, none⟩) n 8 w1 x1 (beN_length v n) sr hl).mono ?_
  rintro e w2 ⟨rfl, y, hk⟩
  refine ⟨rfl, rfl, y.mono fun k hk' => ?_, ?_⟩
  · rcases hk' with e | e
    · exact .inl e.1
    · exact .inr ⟨by omega, e.2⟩
  · exact k1.trans (hk.mono fun k e => e.1)
def txtN (l : List Nat) : List Nat := beN l.length 4 ++ l
theorem text_t (F : Nat → Prop) (g : Nat) (l xs : List Nat) (p : Option Addr) (n c : Nat) (w : World) (x : Wr w F g l) (hn : xs.length = n) (hp : Sr w p xs) (hpF : 0 < xs.length → ∀ a : Addr, p = some a → ¬ F a.block) (hl : l.length + (n + 4) ≤ 70368744177664) :
    Calls Tryz.prog 22 #[.pointer (some ⟨g, 0, none⟩), .slice p n c] w fun e w' => e = .returned (.tuple #[]) ∧ Wr w' (More w w' F) g (l ++ txtN xs) ∧ Kept F w w' := by
  have i1 : (n : Int) ≤ 70368744177664 := by omega
  have i2 : (n : Int) < 18446744073709551616 := by omega
  have C1 := num_t F g l n 4 w x (by omega) (by omega) (by omega) (by omega)
  have HN := Lib.hid hn; have HP := Lib.hid hp; have HF := Lib.hid hpF; have HL := Lib.hid hl; have CC := Lib.hid C1
  clear hn hp hpF hl C1 x
  go_enter Tryz.func22, Tryz.ntmps22
  go_wp2_with fail
  refine CC.out.mono ?_
  rintro e w1 ⟨rfl, x1, k1⟩
  have C2 := raw_t _ g _ xs p n c w1 x1 HN.out (HP.out.kept k1 HF.out) (by have := HL.out; simp [beN_length]; omega)
  have C3 := Lib.hid C2; have K1 := Lib.hid k1
  clear C2 k1 x1 CC
  go_wp2_with fail
  refine C3.out.mono ?_
  rintro e w2 ⟨rfl, x2, k2⟩
  go_wp2_with fail
  go_end0
  refine ⟨rfl, ?_, K1.out.more k2⟩
  have hn := HN.out
  subst hn
  unfold txtN
  rw [← List.append_assoc]
  exact x2.mono fun k hk => More.trans K1.out.size k2.size hk
end Go.Proofs.YtidklgicmhdapaaGreatDoor
namespace Go.Proofs.YtidklgicmhdapaaGreatDoor
open Go Go.RowKit Sh

def val (l : List Nat) : Nat := l.foldl (fun v b => v * 256 + b) 0
theorem val_snoc (l : List Nat) (b : Nat) : val (l ++ [b]) = val l * 256 + b := by simp [val]
theorem val_lt (l : List Nat) (h : Bytes l) : val l < 256 ^ l.length := by
  have key : ∀ k, k ≤ l.length → val (l.take k) < 256 ^ k := by
    intro k
    induction k with
    | zero => intro _; simp [val]
    | succ k ih =>
      intro hk
      have h1 := ih (by omega)
      have h2 := h k
      rw [List.take_succ_eq_append_getElem (by omega), val_snoc, ← gt_of_lt, Nat.pow_succ]
      omega
  have := key l.length (Nat.le_refl _)
  rwa [List.take_length] at this
theorem or_step (v b : Nat) (hv : v < 72057594037927936) (hb : b < 256) : bits .or .u64 (IntKind.u64.wrap ((v : Int) * 256)) (b : Int) = ((v * 256 + b : Nat) : Int) := by
  rw [IntWalk.u64_in _ (by omega), show (v : Int) * 256 = ((v * 256 : Nat) : Int) from by omega, u64_or_nat _ _ (by omega) (by omega)]
  have h := Nat.two_pow_add_eq_or_of_lt (i := 8) (b := b) (by omega) v
  rw [show 2 ^ 8 * v = v * 256 from by omega] at h
  rw [h]
theorem val_small (l : List Nat) (h : Bytes l) (hl : l.length ≤ 7) : val l < 72057594037927936 := by
  have h1 := val_lt l h
  have h2 : 256 ^ l.length ≤ 256 ^ 7 := Nat.pow_le_pow_right (by decide) hl
  omega
theorem bytes_take {l : List Nat} (h : Bytes l) (n : Nat) : Bytes (l.take n) := fun i => by
  rcases Nat.lt_or_ge i n with hi | hi
  · have : gt (l.take n) i = gt l i := by simp [gt, List.getD_eq_getElem?_getD, hi]
    rw [this]; exact h i
  · rw [gt_out (by rw [List.length_take]; omega)]; decide
theorem bytes_drop {l : List Nat} (h : Bytes l) (n : Nat) : Bytes (l.drop n) := fun i => by rw [gt_dropn]; exact h _
theorem raw_ok (g : Nat) (xs : List Nat) (bad : Bool) (n : Nat) (w : World) (x : Rd w g xs bad) (hn : n ≤ xs.length) (hl : xs.length ≤ 70368744177664) :
    Calls Tryz.prog 25 #[.pointer (some ⟨g, 0, none⟩), .int .i64 n] w fun e w' => ∃ v, e = .returned v ∧ w'.ownsRow w.heap.size 5 1 v n (u8s (xs.take n)) ∧ Rd w' g (xs.drop n) bad ∧ Kept (fun k => k = g) w w' := by
  have X := Lib.hid x; have HL := Lib.hid hl; have HN := Lib.hid hn
  have HT := Lib.hid (take_ok g xs bad n w x hn hl)
  clear x hl hn
  go_enter Tryz.func25, Tryz.ntmps25
  go_wp2_with fail
  refine HT.out.mono ?_
  rintro e w1 ⟨⟨A, c, rfl, hc, hs⟩, x1, k1⟩
  have HS := Lib.hid hs; have X1 := Lib.hid x1; have K1 := Lib.hid k1
  have hlen : (xs.take n).length = n := by rw [List.length_take]; have := HN.out; omega
  have HLEN := Lib.hid hlen
  clear hs x1 k1 hc hlen HT
  go_wp2_with ((with_reducible refine append_bytes (.const (.slice none 0 0)) (.tmp 7) 24 rfl rfl 5 Tryz.underlying24 byte_info w.heap.size (.slice none 0 0) 0 [] (xs.take n) rfl (nil_own _ _) A n c rfl HLEN.out HS.out (by have := HL.out; have := HN.out; omega) K1.out.size ?_); intro v w2 h1 h2 h3)
  go_ret
  have o := h1.out
  simp only [Nat.zero_add, List.nil_append] at o
  have b2 : Below w1.heap.size w1 w2 := (Below.refl _ w1).grown h2.out (Nat.le_refl _) (by simp [Value.ownBlock])
  exact ⟨v, rfl, o, X1.out.below b2, K1.out.trans (Kept.of_below b2)⟩
theorem raw_bad (g : Nat) (xs : List Nat) (bad : Bool) (n : Int) (w : World) (x : Rd w g xs bad) (hn : n < 0 ∨ (xs.length : Int) < n) :
    Calls Tryz.prog 25 #[.pointer (some ⟨g, 0, none⟩), .int .i64 n] w fun e w' => ∃ v, e = .returned v ∧ w'.ownsRow w.heap.size 5 1 v 0 (u8s []) ∧ Rd w' g [] true ∧ Kept (fun k => k = g) w w' := by
  have HT := Lib.hid (take_bad g xs bad n w x hn)
  clear x hn
  go_enter Tryz.func25, Tryz.ntmps25
  go_wp2_with fail
  refine HT.out.mono ?_
  rintro e w1 ⟨rfl, x1, k1⟩
  have X1 := Lib.hid x1; have K1 := Lib.hid k1
  clear x1 k1 HT
  go_wp2_with ((with_reducible refine append_bytes (.const (.slice none 0 0)) (.tmp 7) 24 rfl rfl 5 Tryz.underlying24 byte_info w.heap.size (.slice none 0 0) 0 [] [] rfl (nil_own _ _) none 0 0 rfl rfl Sr.nil (by omega) K1.out.size ?_); intro v w2 h1 h2 h3)
  go_ret
  have o := h1.out
  simp only [List.nil_append] at o
  have b2 : Below w1.heap.size w1 w2 := (Below.refl _ w1).grown h2.out (Nat.le_refl _) (by simp [Value.ownBlock])
  exact ⟨v, rfl, o, X1.out.below b2, K1.out.trans (Kept.of_below b2)⟩
theorem rnum_short (g : Nat) (xs : List Nat) (bad : Bool) (n : Nat) (w : World) (x : Rd w g xs bad) (h1 : 1 ≤ n) (h2 : n ≤ 8) (hn : xs.length < n) :
    Calls Tryz.prog 24 #[.pointer (some ⟨g, 0, none⟩), .int .i64 n] w fun e w' => e = .returned (.int .u64 0) ∧ Rd w' g [] true ∧ Kept (fun k => k = g) w w' := by
  have HT := Lib.hid (take_bad g xs bad n w x (by omega))
  clear x hn
  go_enter Tryz.func24, Tryz.ntmps24
  go_wp2_with (first
    | (go_at_call 41; refine (wide_yes n _ (by omega) (by omega)).mono ?_; rintro e w2 ⟨rfl, rfl⟩)
    | (go_at_call 44; refine (HT.out).mono ?_; rintro e w2 ⟨rfl, x2, k2⟩; have X2 := Lib.hid x2; have K2 := Lib.hid k2; clear x2 k2))
  go_loop [6, 18] (fun v i => v = .int .u64 0 ∧ i = .int .i64 0) (fun _ _ => 0)
  case atStart => exact ⟨rfl, rfl⟩
  case round =>
    obtain ⟨rfl, rfl⟩ := hrel
    go_wp2
    go_ret
    exact ⟨rfl, X2.out, K2.out⟩
set_option maxHeartbeats 400000 in
theorem rnum_ok (g : Nat) (xs : List Nat) (bad : Bool) (n : Nat) (w : World) (x : Rd w g xs bad) (hb : Bytes xs) (h1 : 1 ≤ n) (h2 : n ≤ 8) (hn : n ≤ xs.length) (hl : xs.length ≤ 70368744177664) :
    Calls Tryz.prog 24 #[.pointer (some ⟨g, 0, none⟩), .int .i64 n] w fun e w' => e = .returned (.int .u64 (val (xs.take n) : Nat)) ∧ Rd w' g (xs.drop n) bad ∧ Kept (fun k => k = g) w w' := by
  have HT := Lib.hid (take_ok g xs bad n w x hn hl)
  have HB := Lib.hid hb
  clear x hl
  go_enter Tryz.func24, Tryz.ntmps24
  go_wp2_with (first
    | (go_at_call 41; refine (wide_yes n _ (by omega) (by omega)).mono ?_; rintro e w2 ⟨rfl, rfl⟩)
    | (go_at_call 44; refine (HT.out).mono ?_; rintro e w2 ⟨⟨A, c, rfl, hc, hs⟩, x2, k2⟩; have X2 := Lib.hid x2; have K2 := Lib.hid k2; have HS := Lib.hid hs; clear x2 k2 hs))
  obtain ⟨b, o, rfl, _, hby⟩ := HS.out (by rw [List.length_take]; omega)
  have HBY := Lib.hid hby
  clear hby HT
  go_loop [6, 18] (fun v i => ∃ k : Nat, k ≤ n ∧ v = .int .u64 (val (xs.take k) : Nat) ∧ i = .int .i64 k) (fun _ i => n - (intOf i).toNat)
  case atStart => exact ⟨0, by omega, rfl, rfl⟩
  case round =>
    obtain ⟨k, hk, rfl, rfl⟩ := hrel
    by_cases hlt : k < n
    · have c0 := HBY.out k (by rw [List.length_take]; omega)
      have e0 : gt (xs.take n) k = gt xs k := by simp [gt, List.getD_eq_getElem?_getD, hlt]
      rw [e0] at c0
      clear e0
      have b0 := HB.out k
      go_wp2
      go_round
      case rel =>
        refine ⟨k + 1, by omega, ?_, by go_num⟩
        rw [or_step _ _ (val_small _ (bytes_take HB.out k) (by rw [List.length_take]; omega)) b0, List.take_succ_eq_append_getElem (by omega), val_snoc, ← gt_of_lt]
      case measure => simp [intOf]; omega
    · obtain rfl : k = n := by omega
      go_wp2
      go_ret
      exact ⟨rfl, X2.out, K2.out⟩
theorem rtext_short (g : Nat) (xs : List Nat) (bad : Bool) (most : Int) (w : World) (x : Rd w g xs bad) (hm : -9223372036854775808 ≤ most ∧ most ≤ 9223372036854775807) (hn : xs.length < 4) :
    Calls Tryz.prog 26 #[.pointer (some ⟨g, 0, none⟩), .int .i64 most] w fun e w' => ∃ v, e = .returned v ∧ w'.ownsRow w.heap.size 5 1 v 0 (u8s []) ∧ Rd w' g [] true ∧ Kept (fun k => k = g) w w' := by
  have HT := Lib.hid (rnum_short g xs bad 4 w x (by omega) (by omega) hn)
  clear x hn
  obtain ⟨hm1, hm2⟩ := hm
  rcases (show most < 0 ∨ 0 ≤ most by omega) with h0 | h0
  all_goals
    go_enter Tryz.func26, Tryz.ntmps26
    go_wp2_with fail
    refine HT.out.mono ?_
    rintro e w1 ⟨rfl, x1, k1⟩
    have X1 := Lib.hid x1; have K1 := Lib.hid k1
    clear x1 k1 HT
    go_wp2_with (first
      | (go_at_call 45; refine (left_t g [] true _ (by exact X1.out)).mono ?_; rintro e w2 ⟨rfl, rfl⟩)
      | (go_at_call 25; refine (raw_ok g [] true 0 _ (by exact X1.out) (Nat.le_refl _) (by simp)).mono ?_; rintro e w2 ⟨v, rfl, o2, x2, k2⟩; have O2 := Lib.hid o2; have X2 := Lib.hid x2; have K2 := Lib.hid k2; clear o2 x2 k2))
    go_ret
    exact ⟨v, rfl, own_base O2.out (fun k hk => by have h1 := K1.out.size; have h2 := O2.out.lt k hk; omega), X2.out, K1.out.trans K2.out⟩
theorem rtext_over (g : Nat) (xs : List Nat) (bad : Bool) (most : Int) (w : World) (x : Rd w g xs bad) (hb : Bytes xs) (hm : -9223372036854775808 ≤ most ∧ most ≤ 9223372036854775807) (hl : xs.length ≤ 70368744177664) (hn : 4 ≤ xs.length) (hov : most.toNat < val (xs.take 4) ∨ xs.length - 4 < val (xs.take 4)) :
    Calls Tryz.prog 26 #[.pointer (some ⟨g, 0, none⟩), .int .i64 most] w fun e w' => ∃ v, e = .returned v ∧ w'.ownsRow w.heap.size 5 1 v 0 (u8s []) ∧ Rd w' g [] true ∧ Kept (fun k => k = g) w w' := by
  have HT := Lib.hid (rnum_ok g xs bad 4 w x hb (by omega) (by omega) hn hl)
  have hv : val (xs.take 4) < 4294967296 := by have := val_lt (xs.take 4) (bytes_take hb 4); rw [List.length_take, Nat.min_eq_left hn] at this; exact this
  have hlen : (xs.drop 4).length = xs.length - 4 := List.length_drop
  generalize val (xs.take 4) = s at *
  generalize xs.drop 4 = ys at *
  rw [← hlen] at hov
  have hyl : ys.length ≤ 70368744177664 := by omega
  clear x hn hb hl hlen
  obtain ⟨hm1, hm2⟩ := hm
  rcases (show most < 0 ∨ 0 ≤ most by omega) with h0 | h0
  · by_cases hs : 0 < s
    · clear hov
      go_enter Tryz.func26, Tryz.ntmps26
      go_wp2_with fail
      refine HT.out.mono ?_
      rintro e w1 ⟨rfl, x1, k1⟩
      have X1 := Lib.hid x1; have K1 := Lib.hid k1
      clear x1 k1 HT
      go_wp2_with (go_at_call 43; refine (rfail_t g ys bad _ (by exact X1.out)).mono ?_; rintro e w2 ⟨rfl, x2, k2⟩; have X2 := Lib.hid x2; have K2 := Lib.hid k2; clear x2 k2)
      go_ret
      exact ⟨_, rfl, nil_own _ _, X2.out, K1.out.trans K2.out⟩
    · omega
  · obtain ⟨m, rfl⟩ := Int.eq_ofNat_of_zero_le h0
    by_cases hs : m < s
    · clear hov
      go_enter Tryz.func26, Tryz.ntmps26
      go_wp2_with fail
      refine HT.out.mono ?_
      rintro e w1 ⟨rfl, x1, k1⟩
      have X1 := Lib.hid x1; have K1 := Lib.hid k1
      clear x1 k1 HT
      go_wp2_with (go_at_call 43; refine (rfail_t g ys bad _ (by exact X1.out)).mono ?_; rintro e w2 ⟨rfl, x2, k2⟩; have X2 := Lib.hid x2; have K2 := Lib.hid k2; clear x2 k2)
      go_ret
      exact ⟨_, rfl, nil_own _ _, X2.out, K1.out.trans K2.out⟩
    · have hs2 : ys.length < s := by omega
      have hs1 : s ≤ m := by omega
      clear hov hs
      go_enter Tryz.func26, Tryz.ntmps26
      go_wp2_with fail
      refine HT.out.mono ?_
      rintro e w1 ⟨rfl, x1, k1⟩
      have X1 := Lib.hid x1; have K1 := Lib.hid k1
      clear x1 k1 HT
      go_wp2_with (first
        | (go_at_call 45; refine (left_t g ys bad _ (by exact X1.out)).mono ?_; rintro e w2 ⟨rfl, rfl⟩)
        | (go_at_call 43; refine (rfail_t g ys bad _ (by exact X1.out)).mono ?_; rintro e w2 ⟨rfl, x2, k2⟩; have X2 := Lib.hid x2; have K2 := Lib.hid k2; clear x2 k2))
      go_ret
      exact ⟨_, rfl, nil_own _ _, X2.out, K1.out.trans K2.out⟩
theorem rtext_ok (g : Nat) (xs : List Nat) (bad : Bool) (most : Int) (w : World) (x : Rd w g xs bad) (hb : Bytes xs) (hm : -9223372036854775808 ≤ most ∧ most ≤ 9223372036854775807) (hl : xs.length ≤ 70368744177664) (hn : 4 ≤ xs.length) (s : Nat) (hs : val (xs.take 4) = s) (h1 : s ≤ most.toNat) (h2 : s ≤ xs.length - 4) :
    Calls Tryz.prog 26 #[.pointer (some ⟨g, 0, none⟩), .int .i64 most] w fun e w' => ∃ v, e = .returned v ∧ w'.ownsRow w.heap.size 5 1 v s (u8s ((xs.drop 4).take s)) ∧ Rd w' g ((xs.drop 4).drop s) bad ∧ Kept (fun k => k = g) w w' := by
  have HT := Lib.hid (rnum_ok g xs bad 4 w x hb (by omega) (by omega) hn hl)
  have hv : val (xs.take 4) < 4294967296 := by have := val_lt (xs.take 4) (bytes_take hb 4); rw [List.length_take, Nat.min_eq_left hn] at this; exact this
  have hlen : (xs.drop 4).length = xs.length - 4 := List.length_drop
  rw [hs] at HT hv
  generalize xs.drop 4 = ys at *
  rw [← hlen] at h2
  have hyl : ys.length ≤ 70368744177664 := by omega
  clear x hn hb hl hlen hs
  obtain ⟨hm1, hm2⟩ := hm
  rcases (show most < 0 ∨ 0 ≤ most by omega) with h0 | h0
  · have hs0 : s = 0 := by omega
    subst hs0
    go_enter Tryz.func26, Tryz.ntmps26
    go_wp2_with fail
    refine HT.out.mono ?_
    rintro e w1 ⟨rfl, x1, k1⟩
    have X1 := Lib.hid x1; have K1 := Lib.hid k1
    clear x1 k1 HT
    go_wp2_with (first
      | (go_at_call 45; refine (left_t g ys bad _ (by exact X1.out)).mono ?_; rintro e w2 ⟨rfl, rfl⟩)
      | (go_at_call 25; refine (raw_ok g ys bad 0 _ (by exact X1.out) (Nat.zero_le _) hyl).mono ?_; rintro e w2 ⟨v, rfl, o2, x2, k2⟩; have O2 := Lib.hid o2; have X2 := Lib.hid x2; have K2 := Lib.hid k2; clear o2 x2 k2))
    go_ret
    exact ⟨v, rfl, own_base O2.out (fun k hk => by have h1 := K1.out.size; have h2 := O2.out.lt k hk; omega), X2.out, K1.out.trans K2.out⟩
  · obtain ⟨m, rfl⟩ := Int.eq_ofNat_of_zero_le h0
    have hsm : s ≤ m := by omega
    clear h1
    go_enter Tryz.func26, Tryz.ntmps26
    go_wp2_with fail
    refine HT.out.mono ?_
    rintro e w1 ⟨rfl, x1, k1⟩
    have X1 := Lib.hid x1; have K1 := Lib.hid k1
    clear x1 k1 HT
    go_wp2_with (first
      | (go_at_call 45; refine (left_t g ys bad _ (by exact X1.out)).mono ?_; rintro e w2 ⟨rfl, rfl⟩)
      | (go_at_call 25; refine (raw_ok g ys bad s _ (by exact X1.out) h2 hyl).mono ?_; rintro e w2 ⟨v, rfl, o2, x2, k2⟩; have O2 := Lib.hid o2; have X2 := Lib.hid x2; have K2 := Lib.hid k2; clear o2 x2 k2))
    go_ret
    exact ⟨v, rfl, own_base O2.out (fun k hk => by have h1 := K1.out.size; have h2 := O2.out.lt k hk; omega), X2.out, K1.out.trans K2.out⟩
end Go.Proofs.YtidklgicmhdapaaGreatDoor
namespace Go.Proofs.YtidklgicmhdapaaGreatDoor
open Go Go.RowKit Sh

theorem Wr.new {w : World} : Wr (w.alloc (.cells #[.pointer none, .int .i64 0] 66)) (fun k => w.heap.size ≤ k) w.heap.size [] := ⟨Nat.le_refl _, .inl ⟨Blk.new w _ [.pointer none, .int .i64 0], rfl⟩⟩
section
variable {w0 w : World} {B g : Nat} {l : List Nat}
theorem Wr.mid (x : Wr w0 (fun k => B ≤ k) g l) (hb : Below w0.heap.size w0 w) : Wr w (fun k => B ≤ k ∧ k < w0.heap.size) g l := x.there.below hb
theorem more_up {w' : World} (h : B ≤ w.heap.size) {k : Nat} (hk : More w w' (fun k => B ≤ k ∧ k < w0.heap.size) k) : B ≤ k := by
  rcases hk with e | e
  · exact e.1
  · omega
theorem num_s (v n : Nat) (x : Wr w0 (fun k => B ≤ k) g l) (hb : Below w0.heap.size w0 w) (hB : B ≤ w0.heap.size) (hv : v < 18446744073709551616) (h1 : 1 ≤ n) (h2 : n ≤ 8) (hl : l.length + n ≤ 70368744177664) :
    Calls Tryz.prog 20 #[.pointer (some ⟨g, 0, none⟩), .int .u64 v, .int .i64 n] w fun e w' => e = .returned (.tuple #[]) ∧ Wr w' (fun k => B ≤ k) g (l ++ beN v n) ∧ Below B w w' := by
  have hB2 : B ≤ w.heap.size := Nat.le_trans hB hb.size
  refine (num_t _ g l v n w (x.mid hb) hv h1 h2 hl).mono ?_
  rintro e w' ⟨rfl, y, k⟩
  exact ⟨rfl, y.mono fun _ => more_up hB2, (k.mono fun _ e => e.1).to_below hB2⟩
theorem raw_s (xs : List Nat) (p : Option Addr) (n c : Nat) (x : Wr w0 (fun k => B ≤ k) g l) (hb : Below w0.heap.size w0 w) (hB : B ≤ w0.heap.size) (hn : xs.length = n) (hp : Sr w p xs) (hl : l.length + n ≤ 70368744177664) :
    Calls Tryz.prog 21 #[.pointer (some ⟨g, 0, none⟩), .slice p n c] w fun e w' => e = .returned (.tuple #[]) ∧ Wr w' (fun k => B ≤ k) g (l ++ xs) ∧ Below B w w' := by
  have hB2 : B ≤ w.heap.size := Nat.le_trans hB hb.size
  refine (raw_t _ g l xs p n c w (x.mid hb) hn hp hl).mono ?_
  rintro e w' ⟨rfl, y, k⟩
  exact ⟨rfl, y.mono fun _ => more_up hB2, (k.mono fun _ e => e.1).to_below hB2⟩
theorem text_s (xs : List Nat) (p : Option Addr) (n c : Nat) (x : Wr w0 (fun k => B ≤ k) g l) (hb : Below w0.heap.size w0 w) (hB : B ≤ w0.heap.size) (hn : xs.length = n) (hp : Sr w p xs) (hpF : 0 < xs.length → ∀ a : Addr, p = some a → a.block < B ∨ w0.heap.size ≤ a.block) (hl : l.length + (n + 4) ≤ 70368744177664) :
    Calls Tryz.prog 22 #[.pointer (some ⟨g, 0, none⟩), .slice p n c] w fun e w' => e = .returned (.tuple #[]) ∧ Wr w' (fun k => B ≤ k) g (l ++ txtN xs) ∧ Below B w w' := by
  have hB2 : B ≤ w.heap.size := Nat.le_trans hB hb.size
  refine (text_t _ g l xs p n c w (x.mid hb) hn hp (fun hx a ha hf => by have := hpF hx a ha; omega) hl).mono ?_
  rintro e w' ⟨rfl, y, k⟩
  exact ⟨rfl, y.mono fun _ => more_up hB2, (k.mono fun _ e => e.1).to_below hB2⟩
end
theorem Sr.conv {w : World} {A : Option Addr} {xs : List Nat} {n : Nat} (h : Sr w A xs) (hn : xs.length = n) (c : Nat) : (convert 24 9 (.slice A n c)).run Tryz.prog w = .ok (.string (str xs)) w :=
  conv_bytes w 24 5 9 Tryz.underlying24 Tryz.underlying5 Tryz.underlying9 A n c xs hn fun hx => by obtain ⟨b, o, e, _, h2⟩ := h hx; exact ⟨b, o, e, h2⟩
end Go.Proofs.YtidklgicmhdapaaGreatDoor
namespace Go.Proofs.YtidklgicmhdapaaGreatDoor
open Go Go.RowKit Sh

theorem beN_snoc (v n : Nat) : beN v (n + 1) = beN (v / 256) n ++ [v % 256] := by
  unfold beN
  rw [List.range_succ, List.map_append]
  congr 1
  · apply List.map_congr_left
    intro i hi
    have hi' : i < n := List.mem_range.1 hi
    rw [Nat.div_div_eq_div_mul, show (256 : Nat) = 2 ^ 8 from rfl, ← Nat.pow_add]
    congr 3
    omega
  · simp
theorem val_beN (n : Nat) : ∀ v, val (beN v n) = v % 256 ^ n := by
  induction n with
  | zero => intro v; simp [beN, val, Nat.mod_one]
  | succ n ih =>
    intro v
    rw [beN_snoc, val_snoc, ih, Nat.pow_succ, Nat.mul_comm (256 ^ n) 256, Nat.mod_mul]
    omega
theorem txt_len (l : List Nat) (h : l.length < 4294967296) (m : List Nat) : val ((txtN l ++ m).take 4) = l.length := by
  unfold txtN
  rw [List.append_assoc, List.take_append_of_le_length (by rw [beN_length]; omega), List.take_of_length_le (by rw [beN_length]; omega), val_beN]
  omega
theorem txt_rest (l m : List Nat) : (txtN l ++ m).drop 4 = l ++ m := by
  unfold txtN
  rw [List.append_assoc, List.drop_append_of_le_length (by rw [beN_length]; omega), List.drop_of_length_le (by rw [beN_length]; omega), List.nil_append]
end Go.Proofs.YtidklgicmhdapaaGreatDoor
namespace Go.Proofs.YtidklgicmhdapaaGreatDoor
open Go Go.RowKit Sh

structure RdF (F : Nat → Prop) (w : World) (g : Nat) (xs : List Nat) (bad : Bool) : Prop where
  is : ∃ A c, Blk w g 73 [.slice A xs.length c, .bool bad] ∧ xs.length ≤ c ∧ Sr w A xs ∧ (0 < xs.length → ∀ a : Addr, A = some a → F a.block)
  none_ : bad = true → xs = []
section
variable {F G : Nat → Prop} {w w' : World} {g : Nat} {xs : List Nat} {bad : Bool}
theorem RdF.rd (x : RdF F w g xs bad) : Rd w g xs bad := by
  obtain ⟨A, c, h1, h2, h3, _⟩ := x.is
  exact ⟨⟨A, c, h1, h2, h3⟩, x.none_⟩
theorem RdF.stays (x : RdF F w g xs bad) (hk : Kept G w w') (hg : ¬ G g) (hF : ∀ k, F k → ¬ G k) : RdF F w' g xs bad := by
  obtain ⟨A, c, h1, h2, h3, h4⟩ := x.is
  exact ⟨⟨A, c, h1.kept hk hg, h2, h3.kept hk (fun hx a ha => hF _ (h4 hx a ha)), h4⟩, x.none_⟩
theorem RdF.below (x : RdF F w g xs bad) (hb : Below w.heap.size w w') : RdF F w' g xs bad := by
  obtain ⟨A, c, h1, h2, h3, h4⟩ := x.is
  exact ⟨⟨A, c, h1.kept (F := fun _ => False) (Kept.of_below hb) id, h2, h3.below hb, h4⟩, x.none_⟩
theorem RdF.mono (x : RdF F w g xs bad) (h : ∀ k, F k → G k) : RdF G w g xs bad := by
  obtain ⟨A, c, h1, h2, h3, h4⟩ := x.is
  exact ⟨⟨A, c, h1, h2, h3, fun hx a ha => h _ (h4 hx a ha)⟩, x.none_⟩
end
theorem Rd.there {w : World} {g : Nat} {xs : List Nat} {bad : Bool} (x : Rd w g xs bad) : RdF (fun k => k < w.heap.size ∧ k ≠ g) w g xs bad := by
  obtain ⟨A, c, h1, h2, h3⟩ := x.is
  exact ⟨⟨A, c, h1, h2, h3, fun hx a ha => ⟨h3.lt hx a ha, sr_far h1 h3 hx a ha⟩⟩, x.none_⟩
theorem take_F (F : Nat → Prop) (g : Nat) (xs : List Nat) (bad : Bool) (n : Nat) (w : World) (x : RdF F w g xs bad) (hn : n ≤ xs.length) :
    Calls Tryz.prog 44 #[.pointer (some ⟨g, 0, none⟩), .int .i64 n] w fun e w' => (∃ A c, e = .returned (.slice A n c) ∧ n ≤ c ∧ Sr w' A (xs.take n)) ∧ RdF F w' g (xs.drop n) bad ∧ Kept (fun k => k = g) w w' := by
  have X := Lib.hid x
  obtain ⟨A, c, h1, hc, h3, h4⟩ := x.is
  have far := sr_far h1 h3
  have H1 := Lib.hid h1; have H3 := Lib.hid h3; have FAR := Lib.hid far; have H4 := Lib.hid h4
  have HN := Lib.hid hn; have HC := Lib.hid hc
  obtain ⟨p2, hp2, he2⟩ := slice_low (P := Tryz.prog) (t := 24) (e := 5) Tryz.underlying24 byte_size A xs.length c .i64 n hn hc
  have he1 := slice_high (P := Tryz.prog) (t := 24) (e := 5) Tryz.underlying24 byte_size A xs.length c .i64 n (by omega)
  have HP2 := Lib.hid hp2
  have c0 : w.cell? ⟨g, 0, none⟩ = some (.slice A xs.length c) := h1.cell 0
  have f0 := h1.frozen 0
  have i1 : (n : Int) ≤ (xs.length : Int) := by omega
  clear x h1 h3 far hp2 h4
  go_enter Tryz.func44, Tryz.ntmps44
  go_wp2_with (go_at_call 45; refine (left_t g xs bad _ (by exact X.out.rd)).mono ?_; rintro e w2 ⟨rfl, rfl⟩)
  go_ret
  have kk : Kept (fun k => k = g) w (w.setCell ⟨g, 0, none⟩ (.slice p2 (xs.length - n) (c - n))) := Kept.setCell (F := fun k => k = g) (Kept.refl _ w) (p := ⟨g, 0, none⟩) (.inl rfl) _
  have hx := FAR.out
  refine ⟨⟨A, c, rfl, by have := HN.out; have := HC.out; omega, (H3.out.but1 kk hx).take n⟩, ⟨⟨p2, c - n, ?_, ?_, (H3.out.but1 kk hx).drop HP2.out, fun hd a ha => ?_⟩, fun e => ?_⟩, kk⟩
  · rw [List.length_drop]
    exact H1.out.store 0 (.slice p2 (xs.length - n) (c - n))
  · rw [List.length_drop]
    have := HC.out; omega
  · rw [List.length_drop] at hd
    obtain ⟨b, o, hA, _, _⟩ := H3.out (by omega)
    have h5 := HP2.out (by omega) b o hA
    rw [h5] at ha
    injection ha with ha
    subst ha
    exact H4.out (by omega) ⟨b, o, none⟩ hA
  · rw [X.out.none_ e]; simp
theorem raw_F (F : Nat → Prop) (g : Nat) (xs : List Nat) (bad : Bool) (n : Nat) (w : World) (x : RdF F w g xs bad) (hn : n ≤ xs.length) (hl : xs.length ≤ 70368744177664) :
    Calls Tryz.prog 25 #[.pointer (some ⟨g, 0, none⟩), .int .i64 n] w fun e w' => ∃ v, e = .returned v ∧ w'.ownsRow w.heap.size 5 1 v n (u8s (xs.take n)) ∧ RdF F w' g (xs.drop n) bad ∧ Kept (fun k => k = g) w w' := by
  have X := Lib.hid x; have HL := Lib.hid hl; have HN := Lib.hid hn
  have HT := Lib.hid (take_F F g xs bad n w x hn)
  clear x hl hn
  go_enter Tryz.func25, Tryz.ntmps25
  go_wp2_with fail
  refine HT.out.mono ?_
  rintro e w1 ⟨⟨A, c, rfl, hc, hs⟩, x1, k1⟩
  have HS := Lib.hid hs; have X1 := Lib.hid x1; have K1 := Lib.hid k1
  have hlen : (xs.take n).length = n := by rw [List.length_take]; have := HN.out; omega
  have HLEN := Lib.hid hlen
  clear hs x1 k1 hc hlen HT
  go_wp2_with ((with_reducible refine append_bytes (.const (.slice none 0 0)) (.tmp 7) 24 rfl rfl 5 Tryz.underlying24 byte_info w.heap.size (.slice none 0 0) 0 [] (xs.take n) rfl (nil_own _ _) A n c rfl HLEN.out HS.out (by have := HL.out; have := HN.out; omega) K1.out.size ?_); intro v w2 h1 h2 h3)
  go_ret
  have o := h1.out
  simp only [Nat.zero_add, List.nil_append] at o
  have b2 : Below w1.heap.size w1 w2 := (Below.refl _ w1).grown h2.out (Nat.le_refl _) (by simp [Value.ownBlock])
  exact ⟨v, rfl, o, X1.out.below b2, K1.out.trans (Kept.of_below b2)⟩
end Go.Proofs.YtidklgicmhdapaaGreatDoor
