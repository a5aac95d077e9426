/-
  SpaceOldest walked.
-/
import Derived.Test.YtfcmhpgopihidaaDoorSpZ
import Derived.Deep.OwnRows
namespace Go.Proofs.YtfcmhpgopihidaaDoor
open Go Go.RowKit Sh

/-- A row of numbers that came in. -/
def NsW (w : World) (A : Option Addr) (n : Nat) (L : Nat → Int) : Prop := ∀ j, j < n → ∃ b o, A = some ⟨b, o, none⟩ ∧ b < w.heap.size ∧ w.cell? ⟨b, o + j, none⟩ = some (.int .i64 (L j)) ∧ -9223372036854775808 ≤ L j ∧ L j ≤ 9223372036854775807
/-- A row of bools that came in. -/
def BsW (w : World) (A : Option Addr) (n : Nat) (L : Nat → Bool) : Prop := ∀ j, j < n → ∃ b o, A = some ⟨b, o, none⟩ ∧ b < w.heap.size ∧ w.cell? ⟨b, o + j, none⟩ = some (.bool (L j))
theorem NsW.at {w W : World} {A : Option Addr} {n : Nat} {L : Nat → Int} (h : NsW w A n L) (hb : Below w.heap.size w W) {j : Nat} (hj : j < n) : ∃ b o, A = some ⟨b, o, none⟩ ∧ b < w.heap.size ∧ W.cell? ⟨b, o + j, none⟩ = some (.int .i64 (L j)) := by
  obtain ⟨b, o, e, hl, hc, _, _⟩ := h j hj
  exact ⟨b, o, e, hl, (hb.cell (p := ⟨b, o + j, none⟩) hl).trans hc⟩
theorem BsW.at {w W : World} {A : Option Addr} {n : Nat} {L : Nat → Bool} (h : BsW w A n L) (hb : Below w.heap.size w W) {j : Nat} (hj : j < n) : ∃ b o, A = some ⟨b, o, none⟩ ∧ b < w.heap.size ∧ W.cell? ⟨b, o + j, none⟩ = some (.bool (L j)) := by
  obtain ⟨b, o, e, hl, hc⟩ := h j hj
  exact ⟨b, o, e, hl, (hb.cell (p := ⟨b, o + j, none⟩) hl).trans hc⟩
theorem and3 : ∀ k : Nat, k < 64 → bits .and .i64 (k : Int) 3 = ((k % 4 : Nat) : Int) := by decide +kernel
theorem rw_two {W : World} {g : Nat} {f f' : Fld} (h : Blk W g 43 (fv f ++ fv f')) : Rw W (some ⟨g, 0, none⟩) 2 (gl [f, f']) := fun j hj => by
  refine ⟨g, 0, rfl, h.lt, fun i v hv => ?_⟩
  have hr := rows_of_blk h
  rcases (show j = 0 ∨ j = 1 by omega) with rfl | rfl
  · have hi : i < 3 := by have := (List.getElem?_eq_some_iff.1 hv).1; simpa [fv] using this
    have := hr i v (by rw [List.getElem?_append_left (by simpa [fv] using hi)]; exact hv)
    simpa using this
  · have hi : i < 3 := by have := (List.getElem?_eq_some_iff.1 hv).1; simpa [fv] using this
    have := hr (3 + i) v (by rw [List.getElem?_append_right (by rw [fv_len]; omega), fv_len, Nat.add_sub_cancel_left]; exact hv)
    rw [show 0 + 1 * 3 + i = 0 + (3 + i) by omega]
    exact this
theorem bool_info : (Tryd.prog.info? 4).map (fun i => (i.zero, i.size, i.bytes)) = some (some (.bool false), 1, 1) := by kernel_rfl
theorem made_false (k : Nat) : madeCells #[Value.bool false] k = (List.replicate k (Value.bool false)).toArray := by
  apply Array.ext
  · rw [size_madeCells, List.size_toArray, List.length_replicate]
  · intro i h1 h2
    simp [madeCells, Nat.mod_one]
def gonL (k : Nat) (keep : Nat → Bool) : List Value := (List.range k).map (fun j => .bool (!keep j))
theorem gon_all (k : Nat) : List.replicate k (Value.bool false) = gonL k (fun _ => true) := by
  unfold gonL
  rw [show (fun _ : Nat => Value.bool (!true)) = fun _ => Value.bool false from rfl, List.map_const', List.length_range]
theorem gon_get {k : Nat} {keep : Nat → Bool} {j : Nat} (hj : j < k) : (gonL k keep)[j]? = some (.bool (!keep j)) := by
  unfold gonL
  rw [List.getElem?_map, List.getElem?_range hj]
  rfl
theorem gon_set {k : Nat} {keep : Nat → Bool} {j : Nat} : (gonL k keep).set j (.bool true) = gonL k (fun z => keep z && !(true && decide (z = j))) := by
  apply List.ext_getElem?
  intro i
  rw [List.getElem?_set]
  unfold gonL
  rw [List.length_map, List.length_range, List.getElem?_map, List.getElem?_map]
  rcases Nat.lt_or_ge i k with h | h
  · rw [List.getElem?_range h]
    by_cases e : j = i
    · subst e
      simp [h]
    · rw [if_neg e]
      simp [show ¬ i = j from fun h => e h.symm]
  · rw [List.getElem?_eq_none (by simpa using h)]
    simp
    omega
theorem OldS.later {L : Nat → Int} {n : Nat} {keep : Nat → Bool} {b t t' : Int} {s : Sp} (h : OldS L n keep b t s) (ht : t ≤ t') : OldS L n keep b t' s := ⟨h.o, h.its, h.wts, h.sq, Int.le_trans h.now ht⟩
theorem PL.far {w0 W W' : World} {g b : Nat} {t : TypeId} {x : Spv} {cs : List Value} (h : PL w0 W g x) (hb : Blk W b t cs) (h1 : 32 ≠ t) (h2 : 78 ≠ t) (h3 : 56 ≠ t) (h4 : 43 ≠ t) (hge : w0.heap.size ≤ b) (hk : Kept (fun k => k = b) W W') : PL w0 W' g x := by
  have f : ∀ {B sz n : Nat} {e : TypeId} {v : Value} {xs : List Value}, W.ownsRow B e sz v n xs → e ≠ t → W'.ownsRow B e sz v n xs := fun ho he => own_kept ho hk (fun k hk' e' => own_apart ho hb he (by rw [hk', e']))
  exact ⟨h.box.kept hk (h.box.apart hb h1), ⟨f h.sf.its h2, fun y hy => f (h.sf.it y hy) h4, f h.sf.wts h3, fun y hy => f (h.sf.wt y hy) h4, h.sf.l4, fun y hy => f (h.sf.la y hy) h4⟩, h.op, h.ge, h.bel.trans ⟨hk.os, hk.tape, hk.output, hk.size, fun k hlt => hk.block k (Nat.lt_of_lt_of_le hlt h.bel.size) (by omega)⟩⟩
theorem Rw.keptF {W W' : World} {g b n : Nat} {t : TypeId} {G : Nat → Fld} {cs ds : List Value} (h : Rw W (some ⟨g, 0, none⟩) n G) (hg : Blk W g 43 ds) (hb : Blk W b t cs) (hne : 43 ≠ t) (hk : Kept (fun k => k = b) W W') : Rw W' (some ⟨g, 0, none⟩) n G := fun j hj => by
  obtain ⟨b', o, e, hl, r⟩ := h j hj
  have e1 : b' = g := by injection e with e; injection e with e; exact e.symm
  subst e1
  exact ⟨b', o, e, Nat.lt_of_lt_of_le hl hk.size, fun i v hv => (hk.cell (p := ⟨b', o + j * 3 + i, none⟩) hl (hg.apart hb hne)).trans (r i v hv)⟩
theorem RO.keptS {W W' : World} {b g : Nat} {y : Rpv} (h : RO W b y) (hne : b ≠ g) (hk : Kept (fun k => k = g) W W') : RO W' b y :=
  ⟨Nat.lt_of_lt_of_le h.lt hk.size, fun j v hv => (hk.cell (p := ⟨b, 0 + j, none⟩) h.lt hne).trans (h.at_ j v hv)⟩
/-- The least number that is kept and stands for c, of those from q on. -/
structure PickS (LL : Nat → Int) (keep : Nat → Bool) (c : Int) (k q : Nat) (o : Option Nat) : Prop where
  no : o = none → ∀ j, q ≤ j → j < k → keep j = true → LL j ≠ c
  yes : ∀ z, o = some z → q ≤ z ∧ z < k ∧ keep z = true ∧ LL z = c ∧ ∀ j, q ≤ j → j < z → keep j = true → LL j ≠ c
def replyO (c : Int) (i : Nat) (L : Nat → Int) : Option Nat → Rp
  | none => ⟨c, 100 + (i : Int), 3, [], false⟩
  | some k => ⟨c, 100 + (i : Int), 2, [fN (L k), fN k], false⟩
def keepO (keep : Nat → Bool) (tk : Bool) : Option Nat → Nat → Bool
  | none => keep
  | some k => fun j => keep j && !(tk && decide (j = k))
theorem old_takeC {L : Nat → Int} {n i : Nat} {keep : Nat → Bool} {s : Sp} {F G : Nat → Fld} {b c kd : Int} (hc : ((i % 4 : Nat) : Int) = c) (tk : Bool) (hkd : (if tk then (3 : Int) else 2) = kd) (h : OldS L n keep b 50 s) (hi : i < 30) (hb : b < 100 + (i : Int)) (g0 : G 0 = fN c) (g1 : G 1 = fAI) (o : Option Nat)
    (hp : PickS L keep c n 0 o) :
    (doP s 50 ⟨c, 100 + (i : Int), kd, 0, 2, G, 0, F⟩).2 = [replyO c i L o] ∧ OldS L n (keepO keep tk o) (100 + (i : Int)) 50 (doP s 50 ⟨c, 100 + (i : Int), kd, 0, 2, G, 0, F⟩).1 := by
  subst hc hkd
  have := old_take (F := F) tk h hi hb g0 g1 o (fun ho j hj hk => hp.no ho j (Nat.zero_le _) hj hk) (fun z hz => by
    obtain ⟨_, a, b, c, d⟩ := hp.yes z hz
    exact ⟨a, b, c, fun j hj hk => d j (Nat.zero_le _) hj hk⟩)
  cases o with
  | none => exact this
  | some k => exact this
def rqO (c4 : Int) (i : Nat) (kd : Int) (h1 : Nat) : Rv := ⟨⟨c4, (100 : Int) + (i : Int), kd, 0, 2, gl [fN c4, fAI], 0, z0⟩, some ⟨h1, 0, none⟩, 2, none, 0⟩
theorem gon_same (k : Nat) (keep : Nat → Bool) (z : Nat) : gonL k (fun j => keep j && !(false && decide (j = z))) = gonL k keep := by
  congr 1
  funext j
  simp
theorem PickS.start {LL : Nat → Int} {keep : Nat → Bool} {c : Int} {k : Nat} : PickS LL keep c k k none := ⟨fun _ j h1 h2 => absurd h2 (by omega), fun z h => by cases h⟩
theorem PickS.pass {LL : Nat → Int} {keep : Nat → Bool} {c : Int} {k q : Nat} {o : Option Nat} (h : PickS LL keep c k (q + 1) o) (hn : keep q = true → LL q ≠ c) : PickS LL keep c k q o :=
  ⟨fun ho j h1 h2 h3 => by
    by_cases e : j = q
    · subst e; exact hn h3
    · exact h.no ho j (by omega) h2 h3, fun z hz => by
    obtain ⟨a, b, c, d, e⟩ := h.yes z hz
    refine ⟨by omega, b, c, d, fun j h1 h2 h3 => ?_⟩
    by_cases e' : j = q
    · subst e'; exact hn h3
    · exact e j (by omega) h2 h3⟩
theorem PickS.take {LL : Nat → Int} {keep : Nat → Bool} {c : Int} {k q : Nat} (hq : q < k) (h1 : keep q = true) (h2 : LL q = c) : PickS LL keep c k q (some q) :=
  ⟨(fun h => by cases h), fun z hz => by
    obtain rfl := Option.some.inj hz
    exact ⟨Nat.le_refl _, hq, h1, h2, fun j a b => absurd b (by omega)⟩⟩
theorem built_out4 (k q : Int) (p : Option Addr) (n c : Nat) (F G : Nat → Fld) : Tryd.prog.built 38 [(0, .int .i64 k), (1, .int .i64 q), (2, .int .i64 1), (4, .slice p n c)] = some (rv ⟨⟨k, q, 1, 0, 0, F, n, G⟩, none, 0, p, c⟩).toArray := by kernel_rfl
set_option maxRecDepth 100000 in
set_option maxHeartbeats 8000000 in
theorem soldest_t (A : Option Addr) (n c : Nat) (L : Nat → Int) (B : Option Addr) (m d : Nat) (T : Nat → Bool) (w : World) (hn : n ≤ 9223372036854775807) (hm : m ≤ 9223372036854775807) (hA : NsW w A n L) (hB : BsW w B m T) (hu : UT w) :
    Calls Tryd.prog 11 #[.slice A n c, .slice B m d] w fun e w' => e = .returned (.bool true) ∧ Below w.heap.size w w' := by
  have HA := Lib.hid hA; have HB := Lib.hid hB; have HU := Lib.hid hu
  clear hA hB hu
  go_enter Tryd.func11, Tryd.ntmps11
  go_wp2_with fail
  refine (New_t 15 15 w).mono ?_
  rintro e w2 ⟨rfl, b2⟩
  have B2 := Lib.hid b2
  have Z2 := Lib.hid (Blk.new w2 32 zSp)
  obtain ⟨x0, hx0⟩ : ∃ x, nsp 15 15 0 1 2 3 = x := ⟨_, rfl⟩
  have P0 : x0.sp = newS 15 15 := by rw [← hx0]; exact nsp_sp 15 15
  have hl0 : x0.last.length = 4 := by rw [← hx0]; rfl
  have PL0 := Lib.hid (show PL w ((w2.alloc (.cells zSp.toArray 32)).setRow w2.heap.size (sv x0).toArray) w2.heap.size x0 from
    ⟨(Blk.new w2 32 zSp).setRow (sv x0), by rw [← hx0]; exact sf_new _ _ _ _ _ _ _ _, by rw [P0]; exact Op15.new, B2.out.size, below_setRow (B2.out.alloc B2.out.size _) B2.out.size _⟩)
  have FX0 := Lib.hid (sv_size x0 hl0); have FO0 := Lib.hid (sv_one x0); have SL0 := Lib.hid (sv_len x0 hl0)
  rw [hx0]
  clear b2 B2 hx0 hl0
  go_upto_region 2 with ((with_reducible refine at_op (.store 32 (.tmp 5) (.tmp 17)) rfl ?_); go_must (refine store_blk 32 (.tmp 5) (.tmp 17) w2.heap.size 32 _ (sv x0) rfl rfl Z2.out SL0.out.symm FX0.out FO0.out rfl rfl ?_))
  change Code.wp _ _ _ _ ((w2.alloc (.cells zSp.toArray 32)).setRow w2.heap.size (sv x0).toArray)
  obtain ⟨V2, hV2⟩ : ∃ V, (w2.alloc (.cells zSp.toArray 32)).setRow w2.heap.size (sv x0).toArray = V := ⟨_, rfl⟩
  rw [hV2] at PL0 ⊢
  obtain ⟨g, hg⟩ : ∃ g, w2.heap.size = g := ⟨_, rfl⟩
  rw [hg] at PL0 ⊢
  have N0 := Lib.hid (show OldS (fun j => bits .and .i64 (L j) 3) 0 (fun _ => true) 0 0 x0.sp by rw [P0]; exact old_new _)
  clear hV2 hg Z2 FX0 FO0 SL0 P0
  obtain ⟨k, hk⟩ : ∃ k : Nat, min n 24 = k := ⟨_, rfl⟩
  have hk24 : k ≤ 24 := by omega
  have hkn : k ≤ n := by omega
  obtain ⟨LL, hLL⟩ : ∃ f : Nat → Int, (fun j => bits .and .i64 (L j) 3) = f := ⟨_, rfl⟩
  have HLL := Lib.hid (show ∀ j, bits .and .i64 (L j) 3 = LL j from fun j => by rw [← hLL])
  rw [hLL] at N0
  go_upto_region 3 with (fail)
  rw [show (if (24 : Int) < (n : Int) then (24 : Int) else (n : Int)) = (k : Int) by split <;> omega]
  have HK := Lib.hid (And.intro hk24 hkn)
  have k24 : (k : Int) ≤ 24 := by omega
  clear hk hLL hk24 hkn
  go_upto_region 4 with (fail)
  go_loopw [7] (fun s wr => ∃ (i : Nat) (x : Spv) (t : Int), i ≤ k ∧ s = .int .i64 (i : Int) ∧ t ≤ (i : Int) ∧ PL w wr g x ∧ OldS LL i (fun _ => true) i t x.sp) (fun s _ => k - (intOf s).toNat)
  case atStart => exact ⟨0, x0, 0, Nat.zero_le _, rfl, Int.le_refl _, PL0.out, N0.out⟩
  case round =>
    clear PL0 N0
    obtain ⟨i, x, t, hi, rfl, ht, px, od⟩ := hrel
    have PX := Lib.hid px; have OD := Lib.hid od; have HT := Lib.hid ht
    clear px od ht
    by_cases hlt : i < k
    · obtain ⟨b, o, rfl, hbl, ca⟩ := HA.out.at PX.out.bel (show i < n by have := HK.out; omega)
      have i1 : (i : Int) < (n : Int) := by have := HK.out; omega
      have i2 : (i : Int) < (k : Int) := by omega
      have a3 := and3 i (by have := HK.out; omega)
      have l3 := HLL.out i
      obtain ⟨c4, hc4⟩ : ∃ z : Int, ((i % 4 : Nat) : Int) = z := ⟨_, rfl⟩
      rw [hc4] at a3
      go_upto_region 7 with (fail)
      have BA := Lib.hid ((Below.refl wr.heap.size wr).alloc (Nat.le_refl _) (.cells (fv (fN (LL i)) ++ fv (fN (i : Int))).toArray 43))
      have PV := Lib.hid (PX.out.below BA.out)
      have RV := Lib.hid (rw_two (Blk.new wr 43 (fv (fN (LL i)) ++ fv (fN (i : Int)))))
      change Code.wp _ _ _ _ (wr.alloc (.cells (fv (fN (LL i)) ++ fv (fN (i : Int))).toArray 43))
      clear BA
      obtain ⟨V, hV⟩ : ∃ V, wr.alloc (.cells (fv (fN (LL i)) ++ fv (fN (i : Int))).toArray 43) = V := ⟨_, rfl⟩
      obtain ⟨h1, hh1⟩ : ∃ h, wr.heap.size = h := ⟨_, rfl⟩
      rw [hV] at PV RV ⊢
      rw [hh1] at RV ⊢
      clear hV hh1
      have BT := built_out4 c4 ((i : Int) + 1) (some ⟨h1, 0, none⟩) 2 2 z0 (gl [fN (LL i), fN i])
      have OO := Lib.hid (old_out (F := z0) (G := gl [fN (LL i), fN i]) OD.out (by have := HK.out; omega) rfl HT.out rfl rfl)
      rw [hc4] at OO
      have DA := Lib.hid (DoM x (i : Int) ⟨⟨c4, (i : Int) + 1, 1, 0, 0, z0, 2, gl [fN (LL i), fN i]⟩, none, 0, some ⟨h1, 0, none⟩, 2⟩ V PV.out.w PV.out.op.may ⟨none_rw _ _ _, RV.out, Nat.zero_le _, (by decide : (2 : Nat) ≤ 9223372036854775807)⟩ (Nat.zero_le _) (by decide : (2 : Nat) ≤ 1000) (HU.out.below PV.out.bel) _ rfl)
      have BX := Lib.hid PV.out.box; have FXU := Lib.hid (sv_size x PV.out.sf.l4); have SL1 := Lib.hid (sv_len x PV.out.sf.l4)
      clear hc4 ca l3 PX OD
      go_wp2_with ((with_reducible refine load_blk 32 (.tmp 5) g 32 (sv x) _ rfl rfl ?_ Tryd.underlying32 ?_ ?_ ?_ ?_); exact BX.out; exact rfl; exact FXU.out; exact rfl)
      refine DA.out.mono ?_
      rintro e w4 ⟨x', R, q, c', rfl, p', -, s', -, m', -, -, -, b'⟩
      have OD2 := Lib.hid (show OldS LL (i + 1) (fun _ => true) ((i : Int) + 1) i x'.sp by rw [p']; exact OO.out.2)
      have BX2 := Lib.hid (BX.out.below b' BX.out.lt)
      have FX2 := Lib.hid (sv_size x' s'.l4); have FO2 := Lib.hid (sv_one x'); have SL2 := Lib.hid (sv_len x' s'.l4)
      have KZ : Kept (fun b => b = g) w4 (w4.setRow g (sv x').toArray) := (Kept.refl (fun b => b = g) w4).setRowK (.inl rfl) _
      have PZ := Lib.hid (PV.out.put s' OD2.out.o b' KZ (BX2.out.setRow (sv x')))
      clear s' b' p' m' DA OO BT BX KZ a3 RV
      go_wp2_with ((with_reducible refine at_op (.store 32 (.tmp 5) (.tmp 45)) rfl ?_); go_must (refine store_blk 32 (.tmp 5) (.tmp 45) g 32 (sv x) (sv x') rfl rfl BX2.out (SL1.out.trans SL2.out.symm) FX2.out FO2.out rfl rfl ?_))
      exact ⟨⟨i + 1, x', i, hlt, by go_num, by omega, PZ.out, by have := OD2.out; rwa [show (((i + 1 : Nat) : Nat) : Int) = (i : Int) + 1 by omega]⟩, by simp [intOf]; omega⟩
    · obtain rfl : k = i := by omega
      clear hlt
      have hmk := run_make_row' (P := Tryd.prog) 65 4 (.bool false) 1 Tryd.underlying65 bool_info rfl .i64 .i64 k (by omega) (by omega)
      go_upto_region 9 with (fail)
      rw [made_false, gon_all]
      have BA := Lib.hid ((Below.refl wr.heap.size wr).alloc (Nat.le_refl _) (.cells (gonL k (fun _ => true)).toArray 4))
      have PV := Lib.hid (PX.out.below BA.out)
      have GB0 := Lib.hid (Blk.new wr 4 (gonL k (fun _ => true)))
      clear BA hmk
      obtain ⟨V, hV⟩ : ∃ V, wr.alloc (.cells (gonL k (fun _ => true)).toArray 4) = V := ⟨_, rfl⟩
      obtain ⟨gb, hgb⟩ : ∃ h, wr.heap.size = h := ⟨_, rfl⟩
      have HNE := Lib.hid (show gb ≠ g by have := PX.out.box.lt; omega)
      have HGBW := Lib.hid (show w.heap.size ≤ gb by have := PX.out.bel.size; omega)
      rw [hV] at PV GB0 ⊢
      rw [hgb] at GB0 ⊢
      have OD2 := Lib.hid (OD.out.later (t' := 50) (by have := HT.out; omega))
      clear hV hgb PX OD HT
      go_upto_region 10 with (fail)
      go_loopw [10] (fun s wr => ∃ (i : Nat) (x : Spv) (keep : Nat → Bool) (bd : Int), i ≤ m ∧ (i : Int) ≤ 30 ∧ s = .int .i64 (i : Int) ∧ PL w wr g x ∧ OldS LL k keep bd 50 x.sp ∧ bd < 100 + (i : Int) ∧ Blk wr gb 4 (gonL k keep)) (fun s _ => m - (intOf s).toNat)
      case atStart => exact ⟨0, x, fun _ => true, k, Nat.zero_le _, by omega, rfl, PV.out, OD2.out, by omega, GB0.out⟩
      case round =>
        clear PV GB0 OD2
        obtain ⟨i, x, keep, bd, hi, hi30, rfl, px, od, hbd, gbk⟩ := hrel
        have PX := Lib.hid px; have OD := Lib.hid od; have HBD := Lib.hid hbd; have GBK := Lib.hid gbk
        clear px od hbd gbk
        by_cases hlt : i < m
        · by_cases h30 : (i : Int) < 30
          · have i1 : (i : Int) < (m : Int) := by omega
            have a3 := and3 i (by omega)
            obtain ⟨c4, hc4⟩ : ∃ z : Int, ((i % 4 : Nat) : Int) = z := ⟨_, rfl⟩
            rw [hc4] at a3
            go_upto_region 15 with (fail)
            have BA := Lib.hid ((Below.refl wr.heap.size wr).alloc (Nat.le_refl _) (.cells (fv (fN c4) ++ fv fAI).toArray 43))
            have PV := Lib.hid (PX.out.below BA.out)
            have GV := Lib.hid (GBK.out.below BA.out GBK.out.lt)
            have RV := Lib.hid (rw_two (Blk.new wr 43 (fv (fN c4) ++ fv fAI))); have FV := Lib.hid (Blk.new wr 43 (fv (fN c4) ++ fv fAI))
            change Code.wp _ _ _ _ (wr.alloc (.cells (fv (fN c4) ++ fv fAI).toArray 43))
            clear BA
            obtain ⟨V, hV⟩ : ∃ V, wr.alloc (.cells (fv (fN c4) ++ fv fAI).toArray 43) = V := ⟨_, rfl⟩
            obtain ⟨h1, hh1⟩ : ∃ h, wr.heap.size = h := ⟨_, rfl⟩
            rw [hV] at PV RV GV FV ⊢
            rw [hh1] at RV FV ⊢
            have HC4 := Lib.hid hc4
            clear hV hh1 PX GBK hc4
            go_loopw [12, 13] (fun s u W => ∃ (q : Nat) (o : Option Nat) (z : Int), q ≤ k ∧ z = (q : Int) - 1 ∧ s = .int .i64 (optI o) ∧ u = .int .i64 z ∧ W = V ∧ PickS LL keep c4 k q o) (fun _ u _ => (intOf u + 1).toNat)
            case atStart => exact ⟨k, none, (k : Int) - 1, Nat.le_refl _, rfl, rfl, rfl, rfl, PickS.start⟩
            case round =>
              obtain ⟨q, o, z, hq, hz, rfl, rfl, hW, pk⟩ := hrel
              subst hW
              have PK := Lib.hid pk
              clear pk
              cases q with
              | succ q =>
                obtain rfl : z = (q : Int) := by omega
                clear hz
                have q2 : (q : Int) < (k : Int) := by omega
                have q3 : (q : Int) < (n : Int) := by have := HK.out; omega
                have cg := (GV.out.cell q).trans (gon_get (keep := keep) (show q < k by omega))
                obtain ⟨b, o', rfl, hbl, ca⟩ := HA.out.at PV.out.bel (show q < n by have := HK.out; omega)
                have l3 := HLL.out q
                have HQ := Lib.hid hq
                clear hq hbl
                cases hkq : keep q with
                | false =>
                  rw [hkq, Bool.not_false] at cg
                  have PN := Lib.hid (PK.out.pass (fun h => by rw [hkq] at h; cases h))
                  go_wp2_with fail
                  exact ⟨⟨q, o, (q : Int) - 1, by have := HQ.out; omega, rfl, rfl, by go_num, by trivial, PN.out⟩, by simp [intOf]⟩
                | true =>
                  rw [hkq, Bool.not_true] at cg
                  by_cases hc : LL q = c4
                  · have e1 : (LL q == c4) = true := by rw [beq_iff_eq]; exact hc
                    have PN := Lib.hid (PickS.take (c := c4) (show q < k by have := HQ.out; omega) hkq hc)
                    clear hc hkq
                    go_wp2_with fail
                    exact ⟨⟨q, some q, (q : Int) - 1, by have := HQ.out; omega, rfl, rfl, by go_num, by trivial, PN.out⟩, by simp [intOf]⟩
                  · have e1 : (LL q == c4) = false := by rw [beq_eq_false_iff_ne]; exact hc
                    have PN := Lib.hid (PK.out.pass (fun _ => hc))
                    clear hc hkq
                    go_wp2_with fail
                    exact ⟨⟨q, o, (q : Int) - 1, by have := HQ.out; omega, rfl, rfl, by go_num, by trivial, PN.out⟩, by simp [intOf]⟩
              | zero =>
                obtain rfl : z = -1 := by omega
                clear hz hq
                have BT := built_look c4 ((100 : Int) + (i : Int)) 2 (some ⟨h1, 0, none⟩) 2 2 z0 (gl [fN c4, fAI])
                go_upto_region 20 with (fail)
                have BA := Lib.hid ((Below.refl wr.heap.size wr).alloc (Nat.le_refl _) (.cells (rv (rqO c4 i 2 h1)).toArray 38))
                have P6 := Lib.hid (PV.out.below BA.out)
                have G6 := Lib.hid (GV.out.below BA.out GV.out.lt)
                have R6 := Lib.hid (RV.out.below BA.out); have F6 := Lib.hid (FV.out.below BA.out FV.out.lt)
                have Q6 := Lib.hid (Blk.new wr 38 (rv (rqO c4 i 2 h1)))
                change Code.wp _ _ _ _ (wr.alloc (.cells (rv (rqO c4 i 2 h1)).toArray 38))
                have HGQ := Lib.hid (show w.heap.size ≤ wr.heap.size from PV.out.bel.size)
                clear BA BT
                obtain ⟨V6, hV⟩ : ∃ V, wr.alloc (.cells (rv (rqO c4 i 2 h1)).toArray 38) = V := ⟨_, rfl⟩
                obtain ⟨gq, hgq⟩ : ∃ h, wr.heap.size = h := ⟨_, rfl⟩
                rw [hV] at P6 G6 R6 F6 Q6 ⊢
                rw [hgq] at Q6 HGQ ⊢
                clear hV hgq PV GV RV FV
                obtain ⟨b, o', rfl, hbl, ct⟩ := HB.out.at P6.out.bel hlt
                clear hbl
                cases htk : T i with
                | false =>
                  rw [htk] at ct
                  cases o with
                  | none =>
                    have TK := Lib.hid (old_takeC (F := z0) (G := gl [fN c4, fAI]) HC4.out false (show (if false then (3 : Int) else 2) = 2 from rfl) OD.out (by omega) HBD.out rfl rfl none PK.out)
                    have DA := Lib.hid (DoM x 50 (rqO c4 i 2 h1) V6 P6.out.w P6.out.op.may ⟨R6.out, none_rw _ _ _, (by decide : (2 : Nat) ≤ 9223372036854775807), Nat.zero_le _⟩ (by decide : (2 : Nat) ≤ 1000) (Nat.zero_le _) (HU.out.below P6.out.bel) _ rfl)
                    have BX := Lib.hid P6.out.box; have FXU := Lib.hid (sv_size x P6.out.sf.l4); have SL1 := Lib.hid (sv_len x P6.out.sf.l4); have FQ := Lib.hid (rv_size (rqO c4 i 2 h1))
                    go_wp2_with (first
                      | ((with_reducible refine load_blk 32 (.tmp 5) g 32 (sv x) _ rfl rfl ?_ Tryd.underlying32 ?_ ?_ ?_ ?_); exact BX.out; exact rfl; exact FXU.out; exact rfl)
                      | ((with_reducible refine load_blk 38 (.tmp 14) gq 38 (rv (rqO c4 i 2 h1)) _ rfl rfl ?_ Tryd.underlying38 ?_ ?_ ?_ ?_); exact Q6.out; exact rfl; exact FQ.out; exact rfl))
                    refine DA.out.mono ?_
                    rintro e w4 ⟨xT, R, q, c', rfl, p', r', s', w', m', ow, ft, -, b'⟩
                    have OD2 := Lib.hid (show OldS LL k _ (100 + (i : Int)) 50 xT.sp by rw [p']; exact TK.out.2)
                    obtain ⟨y1, gl1, rfl, hy1, rfl, ro⟩ := rep_one ow (r'.trans TK.out.1)
                    have RO1 := Lib.hid ro; have HY1 := Lib.hid hy1; have FT1 := Lib.hid (ft y1 (List.mem_singleton.2 rfl)); have HGL := Lib.hid (show gl1 ≠ g by have := (ow.lt gl1 rfl).1; have := P6.out.box.lt; omega)
                    have S4 := Lib.hid s'; have B4 := Lib.hid b'; have G8 := Lib.hid (G6.out.below b' G6.out.lt)
                    clear s' b' p' r' m' ow ft ro hy1 TK DA BX FQ OD PK
                    have FX_xT := Lib.hid (sv_size xT w'.l4); have FO_xT := Lib.hid (sv_one xT); have SL_xT := Lib.hid (sv_len xT w'.l4)
                    have Z_xT := Lib.hid (Blk.new w4 32 [.int .i64 0, .slice none 0 0, .slice none 0 0, .int .i64 0, .int .i64 0, .int .i64 0, .int .i64 0, .int .i64 0, .slice none 0 0, .bool false, .int .i64 0, .int .i64 0, .int .i64 0, .slice none 0 0, .bool false, .int .i64 0, .int .i64 0, .int .i64 0, .slice none 0 0, .bool false, .int .i64 0, .int .i64 0, .int .i64 0, .slice none 0 0, .bool false])
                    have KN_xT := Lib.hid (KSp.new (w1 := w4) (x := xT) w')
                    go_upto_region 23 with ((with_reducible refine at_op (.store 32 (.tmp 15) (.tmp 101)) rfl ?_); go_must (refine store_blk 32 (.tmp 15) (.tmp 101) (w4).heap.size 32 _ (sv xT) rfl rfl Z_xT.out SL_xT.out.symm FX_xT.out FO_xT.out rfl rfl ?_))
                    obtain ⟨V8, hV8⟩ : ∃ V, ((w4).alloc (.cells #[.int .i64 0, .slice none 0 0, .slice none 0 0, .int .i64 0, .int .i64 0, .int .i64 0, .int .i64 0, .int .i64 0, .slice none 0 0, .bool false, .int .i64 0, .int .i64 0, .int .i64 0, .slice none 0 0, .bool false, .int .i64 0, .int .i64 0, .int .i64 0, .slice none 0 0, .bool false, .int .i64 0, .int .i64 0, .int .i64 0, .slice none 0 0, .bool false] 32)).setRow (w4).heap.size (sv xT).toArray = V := ⟨_, rfl⟩
                    rw [hV8] at KN_xT ⊢
                    have K_xT := Lib.hid KN_xT.out.1
                    have B_xT := Lib.hid KN_xT.out.2
                    clear hV8 KN_xT Z_xT FO_xT SL_xT
                    obtain ⟨g8, hg8⟩ : ∃ g, (w4).heap.size = g := ⟨_, rfl⟩
                    rw [hg8] at K_xT ⊢
                    clear hg8
                    have S8 := Lib.hid (S4.out.below B_xT.out)
                    have B8 := Lib.hid (B4.out.trans (B_xT.out.mono B4.out.size))
                    have BX2 := Lib.hid (P6.out.box.below B8.out P6.out.box.lt)
                    have G9 := Lib.hid (G8.out.below B_xT.out G8.out.lt)
                    have RO2 := Lib.hid (RO1.out.below B_xT.out); have FT2 := Lib.hid (FT1.out.below B_xT.out)
                    have FO2 := Lib.hid (sv_one xT); have SL2 := Lib.hid (sv_len xT S8.out.l4)
                    have KZ : Kept (fun b => b = g) V8 (V8.setRow g (sv xT).toArray) := (Kept.refl (fun b => b = g) V8).setRowK (.inl rfl) _
                    have PZ := Lib.hid (P6.out.put S8.out OD2.out.o B8.out KZ (BX2.out.setRow (sv xT)))
                    have GZ := Lib.hid (G9.out.kept KZ HNE.out)
                    have BK := Lib.hid K_xT.out.box
                    have ROZ := Lib.hid (RO2.out.keptS HGL.out KZ)
                    have FTZ := Lib.hid (show FT (V8.setRow g (sv xT).toArray) _ y1.p y1.c y1.r.t from own_kept FT2.out KZ (fun k hk e => own_apart FT2.out BX2.out (by decide) (by rw [hk, e])))
                    clear S4 B4 G8 B_xT S8 B8 RO1 FT1 G9 RO2 FT2 KZ w'
                    go_upto_region 24 with (first
                      | ((with_reducible refine load_blk 32 (.tmp 15) g8 32 (sv xT) _ rfl rfl ?_ Tryd.underlying32 ?_ ?_ ?_ ?_); exact BK.out; exact rfl; exact FX_xT.out; exact rfl)
                      | ((with_reducible refine at_op (.store 32 (.tmp 5) (.tmp 103)) rfl ?_); go_must (refine store_blk 32 (.tmp 5) (.tmp 103) g 32 (sv x) (sv xT) rfl rfl BX2.out (SL1.out.trans SL2.out.symm) FX_xT.out FO2.out rfl rfl ?_)))
                    obtain ⟨V9, hV9⟩ : ∃ V, V8.setRow g (sv xT).toArray = V := ⟨_, rfl⟩
                    rw [hV9] at PZ GZ ROZ FTZ ⊢
                    clear hV9 BK BX2 FX_xT FO2 SL1 SL2 K_xT
                    have ck := ROZ.out.cells.2.2.1
                    have cr := ROZ.out.cells.2.2.2.1
                    rw [HY1.out] at ck cr
                    clear cr
                    go_wp2_with fail
                    exact ⟨⟨i + 1, xT, keep, 100 + (i : Int), hlt, by omega, by go_num, PZ.out, OD2.out, by omega, GZ.out⟩, by simp [intOf]; omega⟩
                  | some z =>
                    have ZK := Lib.hid (PK.out.yes z rfl).2.1
                    have TK := Lib.hid (old_takeC (F := z0) (G := gl [fN c4, fAI]) HC4.out false (show (if false then (3 : Int) else 2) = 2 from rfl) OD.out (by omega) HBD.out rfl rfl (some z) PK.out)
                    have DA := Lib.hid (DoM x 50 (rqO c4 i 2 h1) V6 P6.out.w P6.out.op.may ⟨R6.out, none_rw _ _ _, (by decide : (2 : Nat) ≤ 9223372036854775807), Nat.zero_le _⟩ (by decide : (2 : Nat) ≤ 1000) (Nat.zero_le _) (HU.out.below P6.out.bel) _ rfl)
                    have BX := Lib.hid P6.out.box; have FXU := Lib.hid (sv_size x P6.out.sf.l4); have SL1 := Lib.hid (sv_len x P6.out.sf.l4); have FQ := Lib.hid (rv_size (rqO c4 i 2 h1))
                    go_wp2_with (first
                      | ((with_reducible refine load_blk 32 (.tmp 5) g 32 (sv x) _ rfl rfl ?_ Tryd.underlying32 ?_ ?_ ?_ ?_); exact BX.out; exact rfl; exact FXU.out; exact rfl)
                      | ((with_reducible refine load_blk 38 (.tmp 14) gq 38 (rv (rqO c4 i 2 h1)) _ rfl rfl ?_ Tryd.underlying38 ?_ ?_ ?_ ?_); exact Q6.out; exact rfl; exact FQ.out; exact rfl))
                    refine DA.out.mono ?_
                    rintro e w4 ⟨xT, R, q, c', rfl, p', r', s', w', m', ow, ft, -, b'⟩
                    have OD2 := Lib.hid (show OldS LL k _ (100 + (i : Int)) 50 xT.sp by rw [p']; exact TK.out.2)
                    obtain ⟨y1, gl1, rfl, hy1, rfl, ro⟩ := rep_one ow (r'.trans TK.out.1)
                    have RO1 := Lib.hid ro; have HY1 := Lib.hid hy1; have FT1 := Lib.hid (ft y1 (List.mem_singleton.2 rfl)); have HGL := Lib.hid (show gl1 ≠ g by have := (ow.lt gl1 rfl).1; have := P6.out.box.lt; omega)
                    have S4 := Lib.hid s'; have B4 := Lib.hid b'; have G8 := Lib.hid (G6.out.below b' G6.out.lt)
                    clear s' b' p' r' m' ow ft ro hy1 TK DA BX FQ OD PK
                    have FX_xT := Lib.hid (sv_size xT w'.l4); have FO_xT := Lib.hid (sv_one xT); have SL_xT := Lib.hid (sv_len xT w'.l4)
                    have Z_xT := Lib.hid (Blk.new w4 32 [.int .i64 0, .slice none 0 0, .slice none 0 0, .int .i64 0, .int .i64 0, .int .i64 0, .int .i64 0, .int .i64 0, .slice none 0 0, .bool false, .int .i64 0, .int .i64 0, .int .i64 0, .slice none 0 0, .bool false, .int .i64 0, .int .i64 0, .int .i64 0, .slice none 0 0, .bool false, .int .i64 0, .int .i64 0, .int .i64 0, .slice none 0 0, .bool false])
                    have KN_xT := Lib.hid (KSp.new (w1 := w4) (x := xT) w')
                    go_upto_region 23 with ((with_reducible refine at_op (.store 32 (.tmp 15) (.tmp 101)) rfl ?_); go_must (refine store_blk 32 (.tmp 15) (.tmp 101) (w4).heap.size 32 _ (sv xT) rfl rfl Z_xT.out SL_xT.out.symm FX_xT.out FO_xT.out rfl rfl ?_))
                    obtain ⟨V8, hV8⟩ : ∃ V, ((w4).alloc (.cells #[.int .i64 0, .slice none 0 0, .slice none 0 0, .int .i64 0, .int .i64 0, .int .i64 0, .int .i64 0, .int .i64 0, .slice none 0 0, .bool false, .int .i64 0, .int .i64 0, .int .i64 0, .slice none 0 0, .bool false, .int .i64 0, .int .i64 0, .int .i64 0, .slice none 0 0, .bool false, .int .i64 0, .int .i64 0, .int .i64 0, .slice none 0 0, .bool false] 32)).setRow (w4).heap.size (sv xT).toArray = V := ⟨_, rfl⟩
                    rw [hV8] at KN_xT ⊢
                    have K_xT := Lib.hid KN_xT.out.1
                    have B_xT := Lib.hid KN_xT.out.2
                    clear hV8 KN_xT Z_xT FO_xT SL_xT
                    obtain ⟨g8, hg8⟩ : ∃ g, (w4).heap.size = g := ⟨_, rfl⟩
                    rw [hg8] at K_xT ⊢
                    clear hg8
                    have S8 := Lib.hid (S4.out.below B_xT.out)
                    have B8 := Lib.hid (B4.out.trans (B_xT.out.mono B4.out.size))
                    have BX2 := Lib.hid (P6.out.box.below B8.out P6.out.box.lt)
                    have G9 := Lib.hid (G8.out.below B_xT.out G8.out.lt)
                    have RO2 := Lib.hid (RO1.out.below B_xT.out); have FT2 := Lib.hid (FT1.out.below B_xT.out)
                    have FO2 := Lib.hid (sv_one xT); have SL2 := Lib.hid (sv_len xT S8.out.l4)
                    have KZ : Kept (fun b => b = g) V8 (V8.setRow g (sv xT).toArray) := (Kept.refl (fun b => b = g) V8).setRowK (.inl rfl) _
                    have PZ := Lib.hid (P6.out.put S8.out OD2.out.o B8.out KZ (BX2.out.setRow (sv xT)))
                    have GZ := Lib.hid (G9.out.kept KZ HNE.out)
                    have BK := Lib.hid K_xT.out.box
                    have ROZ := Lib.hid (RO2.out.keptS HGL.out KZ)
                    have FTZ := Lib.hid (show FT (V8.setRow g (sv xT).toArray) _ y1.p y1.c y1.r.t from own_kept FT2.out KZ (fun k hk e => own_apart FT2.out BX2.out (by decide) (by rw [hk, e])))
                    clear S4 B4 G8 B_xT S8 B8 RO1 FT1 G9 RO2 FT2 KZ w'
                    go_upto_region 24 with (first
                      | ((with_reducible refine load_blk 32 (.tmp 15) g8 32 (sv xT) _ rfl rfl ?_ Tryd.underlying32 ?_ ?_ ?_ ?_); exact BK.out; exact rfl; exact FX_xT.out; exact rfl)
                      | ((with_reducible refine at_op (.store 32 (.tmp 5) (.tmp 103)) rfl ?_); go_must (refine store_blk 32 (.tmp 5) (.tmp 103) g 32 (sv x) (sv xT) rfl rfl BX2.out (SL1.out.trans SL2.out.symm) FX_xT.out FO2.out rfl rfl ?_)))
                    obtain ⟨V9, hV9⟩ : ∃ V, V8.setRow g (sv xT).toArray = V := ⟨_, rfl⟩
                    rw [hV9] at PZ GZ ROZ FTZ ⊢
                    clear hV9 BK BX2 FX_xT FO2 SL1 SL2 K_xT
                    have ck := ROZ.out.cells.2.2.1
                    have cr := ROZ.out.cells.2.2.2.1
                    rw [HY1.out] at ck cr
                    change _ = some (Value.int .i64 2) at ck
                    change _ = some (Value.slice y1.p 2 y1.c) at cr
                    rw [show optI (some z) = (z : Int) from rfl]
                    have ft2 := FTZ.out
                    unfold FT at ft2
                    rw [show y1.r.t = [fN (LL z), fN z] by rw [HY1.out]; rfl] at ft2
                    obtain ⟨bt, hbt, _, _, hct, _⟩ := own_block ft2 (show 0 < 2 by decide)
                    have cz : V9.cell? ⟨bt, 4, none⟩ = some (.int .i64 (z : Int)) := hct 4 (show 4 < 2 * 3 by decide)
                    rw [hbt] at cr
                    have z1 : (z : Int) < (k : Int) := by have := ZK.out; omega
                    clear ft2 hct hbt
                    go_upto_region 26 with (fail)
                    clear cz cr ck
                    obtain ⟨b2, o2, e2, _, ct9⟩ := HB.out.at PZ.out.bel hlt
                    injection e2 with e2
                    injection e2 with e2 e3
                    subst e2 e3
                    rw [htk] at ct9
                    go_wp2_with fail
                    exact ⟨⟨i + 1, xT, keepO keep false (some z), 100 + (i : Int), hlt, by omega, by go_num, PZ.out, OD2.out, by omega, by rw [show gonL k (keepO keep false (some z)) = gonL k keep from gon_same k keep z]; exact GZ.out⟩, by simp [intOf]; omega⟩
                | true =>
                  rw [htk] at ct
                  have cq := Q6.out.cell 2
                  rw [show (rv (rqO c4 i 2 h1))[2]? = some (.int .i64 2) from rfl] at cq
                  have fq := Q6.out.frozen 2
                  go_upto_region 22 with (fail)
                  have KQ : Kept (fun b => b = gq) V6 (V6.setCell ⟨gq, 2, none⟩ (.int .i64 3)) := (Kept.refl (fun b => b = gq) V6).setCell (.inl rfl) _
                  have P7 := Lib.hid (P6.out.far Q6.out (by decide) (by decide) (by decide) (by decide) HGQ.out KQ)
                  have G7 := Lib.hid (G6.out.kept KQ (G6.out.apart Q6.out (by decide)))
                  have R7 := Lib.hid (R6.out.keptF F6.out Q6.out (by decide) KQ)
                  have Q7 := Lib.hid (show Blk (V6.setCell ⟨gq, 2, none⟩ (.int .i64 3)) gq 38 (rv (rqO c4 i 3 h1)) from Q6.out.store 2 (.int .i64 3))
                  obtain ⟨V7, hV7⟩ : ∃ V, V6.setCell ⟨gq, 2, none⟩ (.int .i64 3) = V := ⟨_, rfl⟩
                  rw [hV7] at P7 G7 R7 Q7 ⊢
                  clear hV7 KQ P6 G6 R6 Q6 F6 cq fq ct
                  cases o with
                  | none =>
                    have TK := Lib.hid (old_takeC (F := z0) (G := gl [fN c4, fAI]) HC4.out true (show (if true then (3 : Int) else 2) = 3 from rfl) OD.out (by omega) HBD.out rfl rfl none PK.out)
                    have DA := Lib.hid (DoM x 50 (rqO c4 i 3 h1) V7 P7.out.w P7.out.op.may ⟨R7.out, none_rw _ _ _, (by decide : (2 : Nat) ≤ 9223372036854775807), Nat.zero_le _⟩ (by decide : (2 : Nat) ≤ 1000) (Nat.zero_le _) (HU.out.below P7.out.bel) _ rfl)
                    have BX := Lib.hid P7.out.box; have FXU := Lib.hid (sv_size x P7.out.sf.l4); have SL1 := Lib.hid (sv_len x P7.out.sf.l4); have FQ := Lib.hid (rv_size (rqO c4 i 3 h1))
                    go_wp2_with (first
                      | ((with_reducible refine load_blk 32 (.tmp 5) g 32 (sv x) _ rfl rfl ?_ Tryd.underlying32 ?_ ?_ ?_ ?_); exact BX.out; exact rfl; exact FXU.out; exact rfl)
                      | ((with_reducible refine load_blk 38 (.tmp 14) gq 38 (rv (rqO c4 i 3 h1)) _ rfl rfl ?_ Tryd.underlying38 ?_ ?_ ?_ ?_); exact Q7.out; exact rfl; exact FQ.out; exact rfl))
                    refine DA.out.mono ?_
                    rintro e w4 ⟨xT, R, q, c', rfl, p', r', s', w', m', ow, ft, -, b'⟩
                    have OD2 := Lib.hid (show OldS LL k _ (100 + (i : Int)) 50 xT.sp by rw [p']; exact TK.out.2)
                    obtain ⟨y1, gl1, rfl, hy1, rfl, ro⟩ := rep_one ow (r'.trans TK.out.1)
                    have RO1 := Lib.hid ro; have HY1 := Lib.hid hy1; have FT1 := Lib.hid (ft y1 (List.mem_singleton.2 rfl)); have HGL := Lib.hid (show gl1 ≠ g by have := (ow.lt gl1 rfl).1; have := P7.out.box.lt; omega)
                    have S4 := Lib.hid s'; have B4 := Lib.hid b'; have G8 := Lib.hid (G7.out.below b' G7.out.lt)
                    clear s' b' p' r' m' ow ft ro hy1 TK DA BX FQ OD PK
                    have FX_xT := Lib.hid (sv_size xT w'.l4); have FO_xT := Lib.hid (sv_one xT); have SL_xT := Lib.hid (sv_len xT w'.l4)
                    have Z_xT := Lib.hid (Blk.new w4 32 [.int .i64 0, .slice none 0 0, .slice none 0 0, .int .i64 0, .int .i64 0, .int .i64 0, .int .i64 0, .int .i64 0, .slice none 0 0, .bool false, .int .i64 0, .int .i64 0, .int .i64 0, .slice none 0 0, .bool false, .int .i64 0, .int .i64 0, .int .i64 0, .slice none 0 0, .bool false, .int .i64 0, .int .i64 0, .int .i64 0, .slice none 0 0, .bool false])
                    have KN_xT := Lib.hid (KSp.new (w1 := w4) (x := xT) w')
                    go_upto_region 23 with ((with_reducible refine at_op (.store 32 (.tmp 15) (.tmp 101)) rfl ?_); go_must (refine store_blk 32 (.tmp 15) (.tmp 101) (w4).heap.size 32 _ (sv xT) rfl rfl Z_xT.out SL_xT.out.symm FX_xT.out FO_xT.out rfl rfl ?_))
                    obtain ⟨V8, hV8⟩ : ∃ V, ((w4).alloc (.cells #[.int .i64 0, .slice none 0 0, .slice none 0 0, .int .i64 0, .int .i64 0, .int .i64 0, .int .i64 0, .int .i64 0, .slice none 0 0, .bool false, .int .i64 0, .int .i64 0, .int .i64 0, .slice none 0 0, .bool false, .int .i64 0, .int .i64 0, .int .i64 0, .slice none 0 0, .bool false, .int .i64 0, .int .i64 0, .int .i64 0, .slice none 0 0, .bool false] 32)).setRow (w4).heap.size (sv xT).toArray = V := ⟨_, rfl⟩
                    rw [hV8] at KN_xT ⊢
                    have K_xT := Lib.hid KN_xT.out.1
                    have B_xT := Lib.hid KN_xT.out.2
                    clear hV8 KN_xT Z_xT FO_xT SL_xT
                    obtain ⟨g8, hg8⟩ : ∃ g, (w4).heap.size = g := ⟨_, rfl⟩
                    rw [hg8] at K_xT ⊢
                    clear hg8
                    have S8 := Lib.hid (S4.out.below B_xT.out)
                    have B8 := Lib.hid (B4.out.trans (B_xT.out.mono B4.out.size))
                    have BX2 := Lib.hid (P7.out.box.below B8.out P7.out.box.lt)
                    have G9 := Lib.hid (G8.out.below B_xT.out G8.out.lt)
                    have RO2 := Lib.hid (RO1.out.below B_xT.out); have FT2 := Lib.hid (FT1.out.below B_xT.out)
                    have FO2 := Lib.hid (sv_one xT); have SL2 := Lib.hid (sv_len xT S8.out.l4)
                    have KZ : Kept (fun b => b = g) V8 (V8.setRow g (sv xT).toArray) := (Kept.refl (fun b => b = g) V8).setRowK (.inl rfl) _
                    have PZ := Lib.hid (P7.out.put S8.out OD2.out.o B8.out KZ (BX2.out.setRow (sv xT)))
                    have GZ := Lib.hid (G9.out.kept KZ HNE.out)
                    have BK := Lib.hid K_xT.out.box
                    have ROZ := Lib.hid (RO2.out.keptS HGL.out KZ)
                    have FTZ := Lib.hid (show FT (V8.setRow g (sv xT).toArray) _ y1.p y1.c y1.r.t from own_kept FT2.out KZ (fun k hk e => own_apart FT2.out BX2.out (by decide) (by rw [hk, e])))
                    clear S4 B4 G8 B_xT S8 B8 RO1 FT1 G9 RO2 FT2 KZ w'
                    go_upto_region 24 with (first
                      | ((with_reducible refine load_blk 32 (.tmp 15) g8 32 (sv xT) _ rfl rfl ?_ Tryd.underlying32 ?_ ?_ ?_ ?_); exact BK.out; exact rfl; exact FX_xT.out; exact rfl)
                      | ((with_reducible refine at_op (.store 32 (.tmp 5) (.tmp 103)) rfl ?_); go_must (refine store_blk 32 (.tmp 5) (.tmp 103) g 32 (sv x) (sv xT) rfl rfl BX2.out (SL1.out.trans SL2.out.symm) FX_xT.out FO2.out rfl rfl ?_)))
                    obtain ⟨V9, hV9⟩ : ∃ V, V8.setRow g (sv xT).toArray = V := ⟨_, rfl⟩
                    rw [hV9] at PZ GZ ROZ FTZ ⊢
                    clear hV9 BK BX2 FX_xT FO2 SL1 SL2 K_xT
                    have ck := ROZ.out.cells.2.2.1
                    have cr := ROZ.out.cells.2.2.2.1
                    rw [HY1.out] at ck cr
                    clear cr
                    go_wp2_with fail
                    exact ⟨⟨i + 1, xT, keep, 100 + (i : Int), hlt, by omega, by go_num, PZ.out, OD2.out, by omega, GZ.out⟩, by simp [intOf]; omega⟩
                  | some z =>
                    have ZK := Lib.hid (PK.out.yes z rfl).2.1
                    have TK := Lib.hid (old_takeC (F := z0) (G := gl [fN c4, fAI]) HC4.out true (show (if true then (3 : Int) else 2) = 3 from rfl) OD.out (by omega) HBD.out rfl rfl (some z) PK.out)
                    have DA := Lib.hid (DoM x 50 (rqO c4 i 3 h1) V7 P7.out.w P7.out.op.may ⟨R7.out, none_rw _ _ _, (by decide : (2 : Nat) ≤ 9223372036854775807), Nat.zero_le _⟩ (by decide : (2 : Nat) ≤ 1000) (Nat.zero_le _) (HU.out.below P7.out.bel) _ rfl)
                    have BX := Lib.hid P7.out.box; have FXU := Lib.hid (sv_size x P7.out.sf.l4); have SL1 := Lib.hid (sv_len x P7.out.sf.l4); have FQ := Lib.hid (rv_size (rqO c4 i 3 h1))
                    go_wp2_with (first
                      | ((with_reducible refine load_blk 32 (.tmp 5) g 32 (sv x) _ rfl rfl ?_ Tryd.underlying32 ?_ ?_ ?_ ?_); exact BX.out; exact rfl; exact FXU.out; exact rfl)
                      | ((with_reducible refine load_blk 38 (.tmp 14) gq 38 (rv (rqO c4 i 3 h1)) _ rfl rfl ?_ Tryd.underlying38 ?_ ?_ ?_ ?_); exact Q7.out; exact rfl; exact FQ.out; exact rfl))
                    refine DA.out.mono ?_
                    rintro e w4 ⟨xT, R, q, c', rfl, p', r', s', w', m', ow, ft, -, b'⟩
                    have OD2 := Lib.hid (show OldS LL k _ (100 + (i : Int)) 50 xT.sp by rw [p']; exact TK.out.2)
                    obtain ⟨y1, gl1, rfl, hy1, rfl, ro⟩ := rep_one ow (r'.trans TK.out.1)
                    have RO1 := Lib.hid ro; have HY1 := Lib.hid hy1; have FT1 := Lib.hid (ft y1 (List.mem_singleton.2 rfl)); have HGL := Lib.hid (show gl1 ≠ g by have := (ow.lt gl1 rfl).1; have := P7.out.box.lt; omega)
                    have S4 := Lib.hid s'; have B4 := Lib.hid b'; have G8 := Lib.hid (G7.out.below b' G7.out.lt)
                    clear s' b' p' r' m' ow ft ro hy1 TK DA BX FQ OD PK
                    have FX_xT := Lib.hid (sv_size xT w'.l4); have FO_xT := Lib.hid (sv_one xT); have SL_xT := Lib.hid (sv_len xT w'.l4)
                    have Z_xT := Lib.hid (Blk.new w4 32 [.int .i64 0, .slice none 0 0, .slice none 0 0, .int .i64 0, .int .i64 0, .int .i64 0, .int .i64 0, .int .i64 0, .slice none 0 0, .bool false, .int .i64 0, .int .i64 0, .int .i64 0, .slice none 0 0, .bool false, .int .i64 0, .int .i64 0, .int .i64 0, .slice none 0 0, .bool false, .int .i64 0, .int .i64 0, .int .i64 0, .slice none 0 0, .bool false])
                    have KN_xT := Lib.hid (KSp.new (w1 := w4) (x := xT) w')
                    go_upto_region 23 with ((with_reducible refine at_op (.store 32 (.tmp 15) (.tmp 101)) rfl ?_); go_must (refine store_blk 32 (.tmp 15) (.tmp 101) (w4).heap.size 32 _ (sv xT) rfl rfl Z_xT.out SL_xT.out.symm FX_xT.out FO_xT.out rfl rfl ?_))
                    obtain ⟨V8, hV8⟩ : ∃ V, ((w4).alloc (.cells #[.int .i64 0, .slice none 0 0, .slice none 0 0, .int .i64 0, .int .i64 0, .int .i64 0, .int .i64 0, .int .i64 0, .slice none 0 0, .bool false, .int .i64 0, .int .i64 0, .int .i64 0, .slice none 0 0, .bool false, .int .i64 0, .int .i64 0, .int .i64 0, .slice none 0 0, .bool false, .int .i64 0, .int .i64 0, .int .i64 0, .slice none 0 0, .bool false] 32)).setRow (w4).heap.size (sv xT).toArray = V := ⟨_, rfl⟩
                    rw [hV8] at KN_xT ⊢
                    have K_xT := Lib.hid KN_xT.out.1
                    have B_xT := Lib.hid KN_xT.out.2
                    clear hV8 KN_xT Z_xT FO_xT SL_xT
                    obtain ⟨g8, hg8⟩ : ∃ g, (w4).heap.size = g := ⟨_, rfl⟩
                    rw [hg8] at K_xT ⊢
                    clear hg8
                    have S8 := Lib.hid (S4.out.below B_xT.out)
                    have B8 := Lib.hid (B4.out.trans (B_xT.out.mono B4.out.size))
                    have BX2 := Lib.hid (P7.out.box.below B8.out P7.out.box.lt)
                    have G9 := Lib.hid (G8.out.below B_xT.out G8.out.lt)
                    have RO2 := Lib.hid (RO1.out.below B_xT.out); have FT2 := Lib.hid (FT1.out.below B_xT.out)
                    have FO2 := Lib.hid (sv_one xT); have SL2 := Lib.hid (sv_len xT S8.out.l4)
                    have KZ : Kept (fun b => b = g) V8 (V8.setRow g (sv xT).toArray) := (Kept.refl (fun b => b = g) V8).setRowK (.inl rfl) _
                    have PZ := Lib.hid (P7.out.put S8.out OD2.out.o B8.out KZ (BX2.out.setRow (sv xT)))
                    have GZ := Lib.hid (G9.out.kept KZ HNE.out)
                    have BK := Lib.hid K_xT.out.box
                    have ROZ := Lib.hid (RO2.out.keptS HGL.out KZ)
                    have FTZ := Lib.hid (show FT (V8.setRow g (sv xT).toArray) _ y1.p y1.c y1.r.t from own_kept FT2.out KZ (fun k hk e => own_apart FT2.out BX2.out (by decide) (by rw [hk, e])))
                    clear S4 B4 G8 B_xT S8 B8 RO1 FT1 G9 RO2 FT2 KZ w'
                    go_upto_region 24 with (first
                      | ((with_reducible refine load_blk 32 (.tmp 15) g8 32 (sv xT) _ rfl rfl ?_ Tryd.underlying32 ?_ ?_ ?_ ?_); exact BK.out; exact rfl; exact FX_xT.out; exact rfl)
                      | ((with_reducible refine at_op (.store 32 (.tmp 5) (.tmp 103)) rfl ?_); go_must (refine store_blk 32 (.tmp 5) (.tmp 103) g 32 (sv x) (sv xT) rfl rfl BX2.out (SL1.out.trans SL2.out.symm) FX_xT.out FO2.out rfl rfl ?_)))
                    obtain ⟨V9, hV9⟩ : ∃ V, V8.setRow g (sv xT).toArray = V := ⟨_, rfl⟩
                    rw [hV9] at PZ GZ ROZ FTZ ⊢
                    clear hV9 BK BX2 FX_xT FO2 SL1 SL2 K_xT
                    have ck := ROZ.out.cells.2.2.1
                    have cr := ROZ.out.cells.2.2.2.1
                    rw [HY1.out] at ck cr
                    change _ = some (Value.int .i64 2) at ck
                    change _ = some (Value.slice y1.p 2 y1.c) at cr
                    rw [show optI (some z) = (z : Int) from rfl]
                    have ft2 := FTZ.out
                    unfold FT at ft2
                    rw [show y1.r.t = [fN (LL z), fN z] by rw [HY1.out]; rfl] at ft2
                    obtain ⟨bt, hbt, _, _, hct, _⟩ := own_block ft2 (show 0 < 2 by decide)
                    have cz : V9.cell? ⟨bt, 4, none⟩ = some (.int .i64 (z : Int)) := hct 4 (show 4 < 2 * 3 by decide)
                    rw [hbt] at cr
                    have z1 : (z : Int) < (k : Int) := by have := ZK.out; omega
                    clear ft2 hct hbt
                    go_upto_region 26 with (fail)
                    clear cz cr ck
                    obtain ⟨b2, o2, e2, _, ct9⟩ := HB.out.at PZ.out.bel hlt
                    injection e2 with e2
                    injection e2 with e2 e3
                    subst e2 e3
                    rw [htk] at ct9
                    have cg := (GZ.out.cell z).trans (gon_get (keep := keep) ZK.out)
                    have fg := GZ.out.frozen z
                    go_wp2_with fail
                    have KC : Kept (fun b => b = gb) V9 (V9.setCell ⟨gb, z, none⟩ (.bool true)) := (Kept.refl (fun b => b = gb) V9).setCell (.inl rfl) _
                    exact ⟨⟨i + 1, xT, keepO keep true (some z), 100 + (i : Int), hlt, by omega, by go_num, PZ.out.far GZ.out (by decide) (by decide) (by decide) (by decide) HGBW.out KC, OD2.out, by omega, by have := GZ.out.store z (.bool true); rwa [gon_set] at this⟩, by simp [intOf]; omega⟩
          · have hmf : decide ((i : Int) < 30) = false := decide_eq_false h30
            have i1 : (i : Int) < (m : Int) := by omega
            clear h30
            have TD := Lib.hid (tolds_t wr (HU.out.below PX.out.bel))
            go_wp2_with fail
            refine TD.out.mono ?_
            rintro e w4 ⟨rfl, b4⟩
            go_wp2_with fail
            go_ret
            exact ⟨rfl, PX.out.bel.trans (b4.mono PX.out.bel.size)⟩
        · obtain rfl : i = m := by omega
          clear hlt
          have TD := Lib.hid (tolds_t wr (HU.out.below PX.out.bel))
          go_wp2_with fail
          refine TD.out.mono ?_
          rintro e w4 ⟨rfl, b4⟩
          go_wp2_with fail
          go_ret
          exact ⟨rfl, PX.out.bel.trans (b4.mono PX.out.bel.size)⟩
end Go.Proofs.YtfcmhpgopihidaaDoor
