/-
  PACKAGE space: the library's Clone; tell, cloneReply, isClient, mayAllow, mayLast, mayReply.
-/
import Derived.Test.YtojianpbjckipaaGreatDoorSpA
import Derived.Lib.SliceRun
namespace Go.Proofs.YtojianpbjckipaaGreatDoor
open Go Go.RowKit Sh

theorem infoF : (Tryz.prog.info? 131).map (fun i => (i.zero, i.size, i.bytes)) = some (some (.agg #[.int .i64 0, .int .i64 0, .string { data := #[] }]), 3, 32) := by kernel_rfl
theorem infoI : (Tryz.prog.info? 62).map (fun i => (i.zero, i.size, i.bytes)) = some (some (.agg #[.int .i64 0, .int .i64 0, .slice none 0 0]), 3, 40) := by kernel_rfl
theorem infoW : (Tryz.prog.info? 64).map (fun i => (i.zero, i.size, i.bytes)) = some (some (.agg #[.int .i64 0, .int .i64 0, .bool false, .slice none 0 0]), 4, 48) := by kernel_rfl
theorem infoP : (Tryz.prog.info? 26).map (fun i => (i.zero, i.size, i.bytes)) = some (some (.agg #[.int .i64 0, .int .i64 0, .int .i64 0, .slice none 0 0, .bool false]), 5, 56) := by kernel_rfl
theorem fv_len (f : Fld) : (fv f).length = 3 := rfl
theorem fv_each (f : Fld) : ∀ v ∈ fv f, v.oneCell' = true := fun v hv => by
  simp only [fv, List.mem_cons, List.not_mem_nil, or_false] at hv
  rcases hv with rfl | rfl | rfl <;> rfl
/-- A row of fields is there: as a row of things. -/
theorem rw_row {w : World} {p : Option Addr} {l : List Fld} : Rw w p l.length (gl l) ↔ RowL w p 3 fv l := by
  constructor
  · intro h j x hx
    have hj : j < l.length := (List.getElem?_eq_some_iff.1 hx).1
    obtain ⟨b, o, e, hl, r⟩ := h j hj
    rw [gl_get hx] at r
    exact ⟨b, o, e, hl, r⟩
  · intro h j hj
    have hx : l[j]? = some l[j] := List.getElem?_eq_getElem hj
    rw [gl_get hx]
    exact h j _ hx
theorem own_empty0 (w : World) (e : TypeId) (sz base : Nat) (h : base ≤ w.heap.size) : (w.alloc (.cells #[] e)).ownsRow base e sz (.slice (some ⟨w.heap.size, 0, none⟩) 0 0) 0 [] := by
  have := World.ownsRow_lit w (e := e) (size := sz) (base := base) #[] 0 h (Nat.zero_le _) (by simp)
  simpa using this
set_option maxRecDepth 100000 in
theorem cloneF_t (l : List Fld) (p : Option Addr) (n c : Nat) (w : World) (hn : l.length = n) (hp : RowL w p 3 fv l) (h63 : n ≤ 1000000) :
    Calls Tryz.prog 95 #[.slice p n c] w fun e w' => ∃ q d, e = .returned (.slice q n d) ∧ w'.ownsRow w.heap.size 131 3 (.slice q n d) n (l.flatMap fv) ∧ Below w.heap.size w w' := by
  cases p with
  | none =>
    obtain rfl : l = [] := by
      cases l with
      | nil => rfl
      | cons x l => obtain ⟨b, o, e, _⟩ := hp 0 x rfl; cases e
    obtain rfl : n = 0 := hn.symm
    have EQ := fun W => Lib.run_eql_slice_nil (P := Tryz.prog) W 24 131 none 0 c 0 0 Tryz.underlying24
    go_enter Tryz.func95, Tryz.ntmps95
    go_wp2_with fail
    go_ret
    exact ⟨none, 0, rfl, World.ownsRow_nil _ _ _ _, Below.refl _ _⟩
  | some ad =>
    have HP := Lib.hid (hp.below ((Below.refl w.heap.size w).alloc (Nat.le_refl _) (.cells #[] 131)))
    have E0 := Lib.hid (own_empty0 w 131 3 w.heap.size (Nat.le_refl _))
    have B0 := Lib.hid ((Below.refl w.heap.size w).alloc (Nat.le_refl _) (.cells #[] 131))
    have EQ := fun W => Lib.run_eql_slice_nil (P := Tryz.prog) W 24 131 (some ad) n c 0 0 Tryz.underlying24
    clear hp
    go_enter Tryz.func95, Tryz.ntmps95
    go_wp2_with ((with_reducible refine at_op (.call { callee := .builtin .append, args := #[.tmp 5, .tmp 6], argTypes := #[24, 24] }) rfl ?_); go_must (refine append_rows (.tmp 5) (.tmp 6) 24 rfl rfl 131 Tryz.underlying24 infoF rfl (by decide) (by decide) fv_len fv_each w.heap.size (.slice (some ⟨w.heap.size, 0, none⟩) 0 0) 0 [] rfl E0.out (some ad) n c rfl l hn HP.out (by omega) (by simp) ?_); intro v1 w1 h2 h3 h5 h6)
    obtain ⟨q, d, hv, _⟩ := own_form h2.out
    rw [Nat.zero_add] at h2 hv
    subst hv
    have h2' := h2.out
    rw [List.nil_append] at h2'
    go_wp2_with fail
    go_ret
    refine ⟨q, d, rfl, h2', ?_⟩
    exact B0.out.grown h3.out (by simp) (fun k e => by have := Option.some.inj e; simp at this; omega)
set_option maxRecDepth 100000 in
theorem cloneI_t (l : List Itv) (p : Option Addr) (n c : Nat) (w : World) (hn : l.length = n) (hp : RowL w p 3 iv l) (h63 : n ≤ 1000000) :
    Calls Tryz.prog 94 #[.slice p n c] w fun e w' => ∃ q d, e = .returned (.slice q n d) ∧ w'.ownsRow w.heap.size 62 3 (.slice q n d) n (l.flatMap iv) ∧ Below w.heap.size w w' := by
  cases p with
  | none =>
    obtain rfl : l = [] := by
      cases l with
      | nil => rfl
      | cons x l => obtain ⟨b, o, e, _⟩ := hp 0 x rfl; cases e
    obtain rfl : n = 0 := hn.symm
    have EQ := fun W => Lib.run_eql_slice_nil (P := Tryz.prog) W 22 62 none 0 c 0 0 Tryz.underlying22
    go_enter Tryz.func94, Tryz.ntmps94
    go_wp2_with fail
    go_ret
    exact ⟨none, 0, rfl, World.ownsRow_nil _ _ _ _, Below.refl _ _⟩
  | some ad =>
    have HP := Lib.hid (hp.below ((Below.refl w.heap.size w).alloc (Nat.le_refl _) (.cells #[] 62)))
    have E0 := Lib.hid (own_empty0 w 62 3 w.heap.size (Nat.le_refl _))
    have B0 := Lib.hid ((Below.refl w.heap.size w).alloc (Nat.le_refl _) (.cells #[] 62))
    have EQ := fun W => Lib.run_eql_slice_nil (P := Tryz.prog) W 22 62 (some ad) n c 0 0 Tryz.underlying22
    clear hp
    go_enter Tryz.func94, Tryz.ntmps94
    go_wp2_with ((with_reducible refine at_op (.call { callee := .builtin .append, args := #[.tmp 5, .tmp 6], argTypes := #[22, 22] }) rfl ?_); go_must (refine append_rows (.tmp 5) (.tmp 6) 22 rfl rfl 62 Tryz.underlying22 infoI rfl (by decide) (by decide) iv_len iv_one w.heap.size (.slice (some ⟨w.heap.size, 0, none⟩) 0 0) 0 [] rfl E0.out (some ad) n c rfl l hn HP.out (by omega) (by simp) ?_); intro v1 w1 h2 h3 h5 h6)
    obtain ⟨q, d, hv, _⟩ := own_form h2.out
    rw [Nat.zero_add] at h2 hv
    subst hv
    have h2' := h2.out
    rw [List.nil_append] at h2'
    go_wp2_with fail
    go_ret
    refine ⟨q, d, rfl, h2', ?_⟩
    exact B0.out.grown h3.out (by simp) (fun k e => by have := Option.some.inj e; simp at this; omega)
set_option maxRecDepth 100000 in
theorem cloneW_t (l : List Wtv) (p : Option Addr) (n c : Nat) (w : World) (hn : l.length = n) (hp : RowL w p 4 wv l) (h63 : n ≤ 1000000) :
    Calls Tryz.prog 96 #[.slice p n c] w fun e w' => ∃ q d, e = .returned (.slice q n d) ∧ w'.ownsRow w.heap.size 64 4 (.slice q n d) n (l.flatMap wv) ∧ Below w.heap.size w w' := by
  cases p with
  | none =>
    obtain rfl : l = [] := by
      cases l with
      | nil => rfl
      | cons x l => obtain ⟨b, o, e, _⟩ := hp 0 x rfl; cases e
    obtain rfl : n = 0 := hn.symm
    have EQ := fun W => Lib.run_eql_slice_nil (P := Tryz.prog) W 23 64 none 0 c 0 0 Tryz.underlying23
    go_enter Tryz.func96, Tryz.ntmps96
    go_wp2_with fail
    go_ret
    exact ⟨none, 0, rfl, World.ownsRow_nil _ _ _ _, Below.refl _ _⟩
  | some ad =>
    have HP := Lib.hid (hp.below ((Below.refl w.heap.size w).alloc (Nat.le_refl _) (.cells #[] 64)))
    have E0 := Lib.hid (own_empty0 w 64 4 w.heap.size (Nat.le_refl _))
    have B0 := Lib.hid ((Below.refl w.heap.size w).alloc (Nat.le_refl _) (.cells #[] 64))
    have EQ := fun W => Lib.run_eql_slice_nil (P := Tryz.prog) W 23 64 (some ad) n c 0 0 Tryz.underlying23
    clear hp
    go_enter Tryz.func96, Tryz.ntmps96
    go_wp2_with ((with_reducible refine at_op (.call { callee := .builtin .append, args := #[.tmp 5, .tmp 6], argTypes := #[23, 23] }) rfl ?_); go_must (refine append_rows (.tmp 5) (.tmp 6) 23 rfl rfl 64 Tryz.underlying23 infoW rfl (by decide) (by decide) wv_len wv_one w.heap.size (.slice (some ⟨w.heap.size, 0, none⟩) 0 0) 0 [] rfl E0.out (some ad) n c rfl l hn HP.out (by omega) (by simp) ?_); intro v1 w1 h2 h3 h5 h6)
    obtain ⟨q, d, hv, _⟩ := own_form h2.out
    rw [Nat.zero_add] at h2 hv
    subst hv
    have h2' := h2.out
    rw [List.nil_append] at h2'
    go_wp2_with fail
    go_ret
    refine ⟨q, d, rfl, h2', ?_⟩
    exact B0.out.grown h3.out (by simp) (fun k e => by have := Option.some.inj e; simp at this; omega)
/-- A row of fields of the call's own. -/
def FT (w : World) (base : Nat) (p : Option Addr) (c : Nat) (l : List Fld) : Prop := w.ownsRow base 131 3 (.slice p l.length c) l.length (l.flatMap fv)
theorem FT.tr {w : World} {base : Nat} {p : Option Addr} {c : Nat} {l : List Fld} (h : FT w base p c l) (hl : l.length ≤ 9223372036854775807) : TR w p l := ⟨rw_row.2 (RowL.of_own fv_len rfl h), hl⟩
theorem FT.below {w w' : World} {base : Nat} {p : Option Addr} {c : Nat} {l : List Fld} (h : FT w base p c l) (hb : Below w.heap.size w w') : FT w' base p c l := own_below h hb
theorem FT.low {w : World} {base base' : Nat} {p : Option Addr} {c : Nat} {l : List Fld} (h : FT w base p c l) (hb : base' ≤ base) : FT w base' p c l := own_base h fun k hk => Nat.le_trans hb (h.lt k hk).1
theorem FT.nil (w : World) (base : Nat) : FT w base none 0 [] := World.ownsRow_nil _ _ _ _
theorem isClient_t (c : Int) (w : World) : Calls Tryz.prog 108 #[.int .i64 c] w fun e w' => e = .returned (.bool (clB c)) ∧ w = w' := by
  unfold clB
  by_cases h1 : 0 ≤ c
  · rw [decide_eq_true h1, Bool.true_and]
    go_enter Tryz.func108, Tryz.ntmps108
    go_wp2
    go_ret
    exact ⟨by simp, rfl⟩
  · rw [decide_eq_false h1, Bool.false_and]
    have h2 : c < 0 := by omega
    go_enter Tryz.func108, Tryz.ntmps108
    go_wp2
    go_ret
    exact ⟨by simp, rfl⟩
theorem mayAllow_t (c : Int) (w : World) : Calls Tryz.prog 73 #[.int .i64 c] w fun e w' => e = .returned (.bool (alB c)) ∧ w = w' := by
  unfold alB
  by_cases h1 : 0 ≤ c
  · rw [decide_eq_true h1, Bool.true_and]
    go_enter Tryz.func73, Tryz.ntmps73
    go_wp2
    go_ret
    exact ⟨by simp, rfl⟩
  · rw [decide_eq_false h1, Bool.false_and]
    have h2 : c < 0 := by omega
    go_enter Tryz.func73, Tryz.ntmps73
    go_wp2
    go_ret
    exact ⟨by simp, rfl⟩
theorem mayLast_t (un now : Int) (w : World) : Calls Tryz.prog 109 #[.int .i64 un, .int .i64 now] w fun e w' => e = .returned (.bool (lastB un now)) ∧ w = w' := by
  unfold lastB
  by_cases h0 : un = 0
  · subst h0
    go_enter Tryz.func109, Tryz.ntmps109
    go_wp2
    go_ret
    exact ⟨by simp, rfl⟩
  · have e0 : (un == 0) = false := by rw [beq_eq_false_iff_ne]; exact h0
    rw [e0, Bool.false_or]
    by_cases h1 : now < un
    · rw [decide_eq_true h1, Bool.true_and]
      go_enter Tryz.func109, Tryz.ntmps109
      go_wp2
      go_ret
      exact ⟨by simp, rfl⟩
    · rw [decide_eq_false h1, Bool.false_and]
      have h2 : un ≤ now := by omega
      go_enter Tryz.func109, Tryz.ntmps109
      go_wp2
      go_ret
      exact ⟨by simp, rfl⟩
theorem built_tell (a b k : Int) : Tryz.prog.built 26 [(0, .int .i64 a), (1, .int .i64 b), (2, .int .i64 k)] = some (pv ⟨⟨a, b, k, [], false⟩, none, 0⟩).toArray := by kernel_rfl
theorem pv_oneA (x : Rpv) : (pv x).toArray.all (·.oneCell') = true := by simp [pv, Value.oneCell']
set_option maxRecDepth 100000 in
theorem tell_t (x : Rv) (k : Int) (w : World) : Calls Tryz.prog 62 #[.agg (rv x).toArray, .int .i64 k] w fun e w' => e = .returned (.agg (pv ⟨tellP (qp x.r) k, none, 0⟩).toArray) ∧ Below w.heap.size w w' := by
  have B0 := Lib.hid ((Blk.new w 51 (rv x)).alloc (.cells #[.int .i64 0, .int .i64 0, .int .i64 0, .slice none 0 0, .bool false] 26))
  have B1 := Lib.hid (Blk.new2 w (.cells (rv x).toArray 51) 26 [.int .i64 0, .int .i64 0, .int .i64 0, .slice none 0 0, .bool false])
  have BW := Lib.hid (((Below.refl w.heap.size w).alloc (Nat.le_refl _) (.cells (rv x).toArray 51)).alloc (by simp) (.cells #[.int .i64 0, .int .i64 0, .int .i64 0, .slice none 0 0, .bool false] 26))
  obtain ⟨c0, c1, _, _, _, _⟩ := rv_cells B0.out
  have BT := built_tell x.r.cl x.r.sq k
  have R1 := Lib.hid (Blk.new2 w (.cells (rv x).toArray 51) 26 (pv ⟨⟨x.r.cl, x.r.sq, k, [], false⟩, none, 0⟩))
  have RB := Lib.hid (((Below.refl w.heap.size w).alloc (Nat.le_refl _) (.cells (rv x).toArray 51)).alloc (by simp) (.cells (pv ⟨⟨x.r.cl, x.r.sq, k, [], false⟩, none, 0⟩).toArray 26))
  obtain ⟨xs, hx⟩ : ∃ l, rv x = l := ⟨_, rfl⟩
  rw [hx] at B0 B1 BW R1 RB c0 c1 ⊢
  clear hx
  go_enter Tryz.func62, Tryz.ntmps62
  go_wp2_with fail
  exact ret_blk (p := 4) (ty := 26) rfl rfl (w.heap.size + 1) 26 _ _ rfl R1.out Tryz.underlying26 rfl (pv_size _) ⟨rfl, RB.out⟩
theorem alloc2_size (w : World) (o o' : Obj) : ((w.alloc o).alloc o').heap.size = w.heap.size + 2 := by simp
theorem pv_cells {w : World} {g : Nat} {x : Rpv} (h : Blk w g 26 (pv x)) :
    w.cell? ⟨g, 0, none⟩ = some (.int .i64 x.r.cl) ∧ w.cell? ⟨g, 1, none⟩ = some (.int .i64 x.r.sq) ∧ w.cell? ⟨g, 2, none⟩ = some (.int .i64 x.r.kd) ∧ w.cell? ⟨g, 3, none⟩ = some (.slice x.p x.r.t.length x.c) ∧ w.cell? ⟨g, 4, none⟩ = some (.bool x.r.lt) := ⟨h.cell 0, h.cell 1, h.cell 2, h.cell 3, h.cell 4⟩
set_option maxRecDepth 100000 in
theorem cloneReply_t (x : Rpv) (w : World) (h : TR w x.p x.r.t) (h63 : x.r.t.length ≤ 1000000) :
    Calls Tryz.prog 63 #[.agg (pv x).toArray] w fun e w' => ∃ y : Rpv, e = .returned (.agg (pv y).toArray) ∧ y.r = x.r ∧ FT w' w.heap.size y.p y.c y.r.t ∧ Below w.heap.size w w' := by
  have B0 := Lib.hid ((Blk.new w 26 (pv x)).alloc (.cells #[.int .i64 0, .int .i64 0, .int .i64 0, .slice none 0 0, .bool false] 26))
  have B1 := Lib.hid (Blk.new2 w (.cells (pv x).toArray 26) 26 [.int .i64 0, .int .i64 0, .int .i64 0, .slice none 0 0, .bool false])
  have BW := Lib.hid (((Below.refl w.heap.size w).alloc (Nat.le_refl _) (.cells (pv x).toArray 26)).alloc (by simp) (.cells #[.int .i64 0, .int .i64 0, .int .i64 0, .slice none 0 0, .bool false] 26))
  obtain ⟨⟨cl, sq, kd, t, lt⟩, p, c⟩ := x
  have c3 := (pv_cells B0.out).2.2.2.1
  have CT := Lib.hid (cloneF_t t p t.length c _ rfl (rw_row.1 (h.below BW.out).t) h63)
  have hv := B0.out.lt
  obtain ⟨xs, hx⟩ : ∃ l, pv ⟨⟨cl, sq, kd, t, lt⟩, p, c⟩ = l := ⟨_, rfl⟩
  have HXS := Lib.hid hx
  rw [hx] at B0 B1 BW CT c3 hv ⊢
  have c3' : ((w.alloc (.cells xs.toArray 26)).alloc (.cells #[.int .i64 0, .int .i64 0, .int .i64 0, .slice none 0 0, .bool false] 26)).cell? ⟨w.heap.size, 3, none⟩ = some (.slice p t.length c) := c3
  clear hx h c3
  go_enter Tryz.func63, Tryz.ntmps63
  go_wp2_with fail
  refine CT.out.mono ?_
  rintro e w1 ⟨q, d, rfl, o1, b1⟩
  have X1 := Lib.hid (B0.out.below b1 B0.out.lt)
  have Y1 := Lib.hid (B1.out.below b1 B1.out.lt)
  have O1 := Lib.hid o1
  have W1 := Lib.hid (BW.out.trans (b1.mono BW.out.size))
  have fz := X1.out.frozen 3
  have ct : w1.cell? ⟨w.heap.size, 3, none⟩ = some (.slice p t.length c) := (b1.cell (p := ⟨w.heap.size, 3, none⟩) hv).trans c3'
  clear b1 o1 c3' CT B0 B1 BW
  have X2 := Lib.hid (show Blk (w1.setCell ⟨w.heap.size, 3, none⟩ (.slice q t.length d)) w.heap.size 26 (pv ⟨⟨cl, sq, kd, t, lt⟩, q, d⟩) from by
    have := X1.out.store 3 (.slice q t.length d)
    rw [← HXS.out] at this
    exact this)
  have Y2 := Lib.hid (Y1.out.far (p := ⟨w.heap.size, 3, none⟩) (by show w.heap.size + 1 ≠ w.heap.size; omega) (.slice q t.length d))
  have FS := Lib.hid (pv_size ⟨⟨cl, sq, kd, t, lt⟩, q, d⟩); have F1 := Lib.hid (pv_oneA ⟨⟨cl, sq, kd, t, lt⟩, q, d⟩)
  have R3 := Lib.hid (Y2.out.setRow (pv ⟨⟨cl, sq, kd, t, lt⟩, q, d⟩))
  have FK := Lib.hid (show FT ((w1.setCell ⟨w.heap.size, 3, none⟩ (.slice q t.length d)).setRow (w.heap.size + 1) (pv ⟨⟨cl, sq, kd, t, lt⟩, q, d⟩).toArray) w.heap.size q d t from by
    have k1 : Kept (fun k => k = w.heap.size ∨ k = w.heap.size + 1) w1 ((w1.setCell ⟨w.heap.size, 3, none⟩ (.slice q t.length d)).setRow (w.heap.size + 1) (pv ⟨⟨cl, sq, kd, t, lt⟩, q, d⟩).toArray) := ((Kept.refl _ _).setCell (.inl (.inl rfl)) _).setRowK (.inl (.inr rfl)) _
    refine own_base (own_kept O1.out k1 fun k hk e => ?_) fun k hk => ?_
    · have := (O1.out.lt k hk).1
      rw [alloc2_size] at this
      omega
    · have := (O1.out.lt k hk).1
      rw [alloc2_size] at this
      omega)
  have BF := Lib.hid (below_setRow (W1.out.setCell (p := ⟨w.heap.size, 3, none⟩) (Nat.le_refl _) (.slice q t.length d)) (Nat.le_succ w.heap.size) (pv ⟨⟨cl, sq, kd, t, lt⟩, q, d⟩).toArray)
  go_wp2_with (first
    | ((with_reducible refine load_blk 26 (.tmp 1) w.heap.size 26 (pv ⟨⟨cl, sq, kd, t, lt⟩, q, d⟩) _ rfl rfl ?_ Tryz.underlying26 ?_ ?_ ?_ ?_); exact X2.out; exact rfl; exact FS.out; exact rfl)
    | ((with_reducible refine store_blk 26 (.tmp 2) (.tmp 7) (w.heap.size + 1) 26 [.int .i64 0, .int .i64 0, .int .i64 0, .slice none 0 0, .bool false] (pv ⟨⟨cl, sq, kd, t, lt⟩, q, d⟩) rfl rfl ?_ ?_ ?_ ?_ ?_ ?_ ?_); exact Y2.out; exact rfl; exact FS.out; exact F1.out; exact rfl; exact rfl))
  exact ret_blk (p := 2) (ty := 26) rfl rfl (w.heap.size + 1) 26 _ _ rfl R3.out Tryz.underlying26 rfl FS.out ⟨_, rfl, rfl, FK.out, BF.out⟩
theorem isEmpty_dec {α : Type} (l : List α) : l.isEmpty = decide (l.length = 0) := by cases l <;> simp
set_option maxRecDepth 100000 in
theorem mayReply_t (x : Rpv) (w : World) (h : TR w x.p x.r.t) : Calls Tryz.prog 114 #[.agg (pv x).toArray] w fun e w' => e = .returned (.bool (rpB x.r)) ∧ Below w.heap.size w w' := by
  obtain ⟨⟨cl, sq, kd, t, lt⟩, p, c⟩ := x
  have B0 := Lib.hid (Blk.new w 26 (pv ⟨⟨cl, sq, kd, t, lt⟩, p, c⟩))
  have BW := Lib.hid ((Below.refl w.heap.size w).alloc (Nat.le_refl _) (.cells (pv ⟨⟨cl, sq, kd, t, lt⟩, p, c⟩).toArray 26))
  have MT := Lib.hid (May_t t.length c p (gl t) _ h.n (h.below BW.out).t)
  have hf : rpB ⟨cl, sq, kd, t, lt⟩ = if sq = 0 then (kd == 0) && (decide (t.length = 0) && !lt) else if sq < 0 ∨ 1073741824 < sq then false else if kd = 2 then vT t else decide (1 ≤ kd) && (decide (kd ≤ 6) && (decide (t.length = 0) && !lt)) := by unfold rpB; simp only [isEmpty_dec]
  obtain ⟨_, c1, c2, c3, c4⟩ := pv_cells B0.out
  dsimp only at c1 c2 c3 c4
  show Calls _ _ _ _ fun e w' => e = .returned (.bool (rpB ⟨cl, sq, kd, t, lt⟩)) ∧ Below w.heap.size w w'
  rw [hf]
  change Hid (Calls _ _ _ _ fun e w' => e = .returned (.bool (vT t)) ∧ _) at MT
  obtain ⟨vb, hvb⟩ : ∃ b, vT t = b := ⟨_, rfl⟩
  rw [hvb] at MT ⊢
  obtain ⟨n, hn⟩ : ∃ n, t.length = n := ⟨_, rfl⟩
  rw [hn] at MT c3 ⊢
  obtain ⟨xs, hx⟩ : ∃ l, pv ⟨⟨cl, sq, kd, t, lt⟩, p, c⟩ = l := ⟨_, rfl⟩
  rw [hx] at B0 BW MT c1 c2 c3 c4 ⊢
  clear hf hvb hn hx h B0
  by_cases s0 : sq = 0
  · subst s0
    rw [if_pos rfl]
    clear MT
    by_cases k0 : kd = 0
    · subst k0
      by_cases n0 : n = 0
      · subst n0
        go_enter Tryz.func114, Tryz.ntmps114
        go_wp2_with fail
        go_ret
        exact ⟨by simp, BW.out⟩
      · have e1 : ((n : Int) == 0) = false := by rw [beq_eq_false_iff_ne]; omega
        go_enter Tryz.func114, Tryz.ntmps114
        go_wp2_with fail
        go_ret
        exact ⟨by simp, BW.out⟩
    · have e1 : (kd == 0) = false := by rw [beq_eq_false_iff_ne]; exact k0
      go_enter Tryz.func114, Tryz.ntmps114
      go_wp2_with fail
      go_ret
      exact ⟨by simp, BW.out⟩
  · have e0 : (sq == 0) = false := by rw [beq_eq_false_iff_ne]; exact s0
    rw [if_neg s0]
    by_cases s1 : sq < 0
    · rw [if_pos (.inl s1)]
      clear MT
      go_enter Tryz.func114, Tryz.ntmps114
      go_wp2_with fail
      go_ret
      exact ⟨rfl, BW.out⟩
    · by_cases s2 : 1073741824 < sq
      · rw [if_pos (.inr s2)]
        clear MT
        have s3 : 0 ≤ sq := by omega
        go_enter Tryz.func114, Tryz.ntmps114
        go_wp2_with fail
        go_ret
        exact ⟨rfl, BW.out⟩
      · rw [if_neg (by omega)]
        have s3 : 0 ≤ sq := by omega
        have s4 : sq ≤ 1073741824 := by omega
        by_cases k2 : kd = 2
        · subst k2
          rw [if_pos rfl]
          go_enter Tryz.func114, Tryz.ntmps114
          go_wp2_with fail
          refine MT.out.mono ?_
          rintro e w2 ⟨rfl, b2⟩
          go_wp2_with fail
          go_ret
          exact ⟨rfl, BW.out.trans (b2.mono BW.out.size)⟩
        · rw [if_neg k2]
          have e2 : (kd == 2) = false := by rw [beq_eq_false_iff_ne]; exact k2
          clear MT
          by_cases k1 : 1 ≤ kd
          · by_cases k6 : kd ≤ 6
            · by_cases n0 : n = 0
              · subst n0
                go_enter Tryz.func114, Tryz.ntmps114
                go_wp2_with fail
                go_ret
                exact ⟨by simp, BW.out⟩
              · have e1 : ((n : Int) == 0) = false := by rw [beq_eq_false_iff_ne]; omega
                go_enter Tryz.func114, Tryz.ntmps114
                go_wp2_with fail
                go_ret
                exact ⟨by simp, BW.out⟩
            · have k7 : 6 < kd := by omega
              go_enter Tryz.func114, Tryz.ntmps114
              go_wp2_with fail
              go_ret
              exact ⟨by rw [show decide (kd ≤ 6) = false from decide_eq_false (by omega)]; simp, BW.out⟩
          · have k3 : kd < 1 := by omega
            go_enter Tryz.func114, Tryz.ntmps114
            go_wp2_with fail
            go_ret
            exact ⟨by rw [show decide (1 ≤ kd) = false from decide_eq_false (by omega)]; simp, BW.out⟩
end Go.Proofs.YtojianpbjckipaaGreatDoor
