/-
  PACKAGE tuple: read.
-/
import Derived.Test.YtigbnjgmdgkgjaaDoorTpF
namespace Go.Proofs.YtigbnjgmdgkgjaaDoor
open Go Go.RowKit Sh

/-- What Num reads: the number, what is left, whether it is wrong. -/
def rNum (xs : List Nat) (bad : Bool) (n : Nat) : Nat × List Nat × Bool := if xs.length < n then (0, [], true) else (val (xs.take n), xs.drop n, bad)
/-- What Text reads. -/
def rTxt (xs : List Nat) (bad : Bool) (most : Nat) : List Nat × List Nat × Bool :=
  if 4 ≤ xs.length ∧ val (xs.take 4) ≤ most ∧ val (xs.take 4) ≤ xs.length - 4 then ((xs.drop 4).take (val (xs.take 4)), (xs.drop 4).drop (val (xs.take 4)), bad) else ([], [], true)
theorem rNum_bytes (xs : List Nat) (bad : Bool) (n : Nat) (h : Bytes xs) : Bytes (rNum xs bad n).2.1 ∧ (rNum xs bad n).2.1.length ≤ xs.length ∧ (rNum xs bad n).1 < 256 ^ n := by
  unfold rNum
  split
  · exact ⟨nil_bytes, Nat.zero_le _, Nat.pow_pos (by decide)⟩
  · rename_i hn
    refine ⟨bytes_drop h n, by rw [List.length_drop]; omega, ?_⟩
    have := val_lt (xs.take n) (bytes_take h n)
    rwa [List.length_take, Nat.min_eq_left (by omega)] at this
theorem rTxt_bytes (xs : List Nat) (bad : Bool) (n : Nat) (h : Bytes xs) : Bytes (rTxt xs bad n).2.1 ∧ (rTxt xs bad n).2.1.length ≤ xs.length ∧ (rTxt xs bad n).1.length ≤ n := by
  unfold rTxt
  split
  · rename_i hn
    refine ⟨bytes_drop (bytes_drop h 4) _, by rw [List.length_drop, List.length_drop]; omega, ?_⟩
    rw [List.length_take]; omega
  · exact ⟨nil_bytes, Nat.zero_le _, Nat.zero_le _⟩
theorem rnum_t (g : Nat) (xs : List Nat) (bad : Bool) (n : Nat) (w : World) (x : Rd w g xs bad) (hb : Bytes xs) (h1 : 1 ≤ n) (h2 : n ≤ 8) (hl : xs.length ≤ 70368744177664) :
    Calls Tryd.prog 36 #[.pointer (some ⟨g, 0, none⟩), .int .i64 n] w fun e w' => e = .returned (.int .u64 ((rNum xs bad n).1 : Nat)) ∧ Rd w' g (rNum xs bad n).2.1 (rNum xs bad n).2.2 ∧ Kept (fun k => k = g) w w' := by
  unfold rNum
  by_cases h : xs.length < n
  · rw [if_pos h]
    exact rnum_short g xs bad n w x h1 h2 h
  · rw [if_neg h]
    exact rnum_ok g xs bad n w x hb h1 h2 (by omega) hl
theorem rtxt_t (g : Nat) (xs : List Nat) (bad : Bool) (most : Nat) (w : World) (x : Rd w g xs bad) (hb : Bytes xs) (hm : most ≤ 1000000) (hl : xs.length ≤ 70368744177664) :
    Calls Tryd.prog 54 #[.pointer (some ⟨g, 0, none⟩), .int .i64 (most : Int)] w fun e w' => ∃ v, e = .returned v ∧ w'.ownsRow w.heap.size 5 1 v (rTxt xs bad most).1.length (u8s (rTxt xs bad most).1) ∧ Rd w' g (rTxt xs bad most).2.1 (rTxt xs bad most).2.2 ∧ Kept (fun k => k = g) w w' := by
  unfold rTxt
  by_cases h : 4 ≤ xs.length ∧ val (xs.take 4) ≤ most ∧ val (xs.take 4) ≤ xs.length - 4
  · rw [if_pos h]
    have := rtext_ok g xs bad (most : Int) w x hb (by omega) hl h.1 _ rfl (by simpa using h.2.1) h.2.2
    refine this.mono ?_
    rintro e w' ⟨v, rfl, o, r, k⟩
    refine ⟨v, rfl, ?_, r, k⟩
    show w'.ownsRow w.heap.size _ 1 v ((xs.drop 4).take (val (xs.take 4))).length _
    rw [List.length_take, List.length_drop, Nat.min_eq_left h.2.2]
    exact o
  · rw [if_neg h]
    by_cases h4 : xs.length < 4
    · exact rtext_short g xs bad (most : Int) w x (by omega) h4
    · exact rtext_over g xs bad (most : Int) w x hb (by omega) hl (by omega) (by
        have : most < val (xs.take 4) ∨ xs.length - 4 < val (xs.take 4) := by omega
        simpa using this)
def eS : ByteArray := { data := #[] }
/-- What read reads: the field, what is left, whether it is wrong. -/
def rFld (xs : List Nat) (bad : Bool) : Fld × List Nat × Bool :=
  if (rNum xs bad 1).1 = 1 then (⟨1, IntKind.i64.wrap ((rNum (rNum xs bad 1).2.1 (rNum xs bad 1).2.2 8).1 : Int), eS⟩, (rNum (rNum xs bad 1).2.1 (rNum xs bad 1).2.2 8).2)
  else if (rNum xs bad 1).1 = 2 then (⟨2, 0, str (rTxt (rNum xs bad 1).2.1 (rNum xs bad 1).2.2 40).1⟩, (rTxt (rNum xs bad 1).2.1 (rNum xs bad 1).2.2 40).2)
  else (⟨((rNum xs bad 1).1 : Int), 0, eS⟩, (rNum xs bad 1).2)
theorem built_fld (k : Int) : Tryd.prog.built 40 [(0, .int .i64 k)] = some (fv ⟨k, 0, eS⟩).toArray := by kernel_rfl
theorem Kept.setRowK {F : Nat → Prop} {a w : World} (h : Kept F a w) {g : Nat} (hg : F g ∨ a.heap.size ≤ g) (c : Array Value) : Kept F a (w.setRow g c) :=
  ⟨h.os, h.tape, h.output, by simpa using h.size, fun k hk hf => by
    have hne : k ≠ g := fun e => by
      subst e
      rcases hg with h1 | h1
      · exact hf h1
      · omega
    exact (setRow_other w g k c hne).trans (h.block k hk hf)⟩
theorem world_at {P : Program} {c : Code} {Q : Exit → Act → World → Prop} {a : Act} {w : World} (R : World → Prop) (h : R w) (k : ∀ W, R W → Code.wp P c Q a W) : Code.wp P c Q a w := k w h
theorem fv_set1 {w : World} {g : Nat} {k n : Int} {s : ByteArray} (h : Blk w g 40 (fv ⟨k, n, s⟩)) (m : Int) : Blk (w.setCell ⟨g, 1, none⟩ (.int .i64 m)) g 40 (fv ⟨k, m, s⟩) := h.store 1 _
theorem fv_set2 {w : World} {g : Nat} {k n : Int} {s : ByteArray} (h : Blk w g 40 (fv ⟨k, n, s⟩)) (m : ByteArray) : Blk (w.setCell ⟨g, 2, none⟩ (.string m)) g 40 (fv ⟨k, n, m⟩) := h.store 2 _
/-- A Reader goes on where a block is written that holds no byte. -/
theorem Rd.far {w w' : World} {g gl : Nat} {xs : List Nat} {bad : Bool} {t : TypeId} {cs : List Value} (x : Rd w g xs bad) (hb : Blk w gl t cs) (hcs : ∀ v ∈ cs, ∀ z, v ≠ .int .u8 z) (hne : g ≠ gl) (hk : Kept (fun k => k = gl) w w') : Rd w' g xs bad := by
  obtain ⟨A, c, h1, h2, h3⟩ := x.is
  refine ⟨⟨A, c, h1.kept hk hne, h2, h3.kept hk (fun hx a ha e => ?_)⟩, x.none_⟩
  obtain ⟨b, o, hA, _, hc⟩ := h3 hx
  rw [ha] at hA
  injection hA with hA
  subst hA
  have e2 : b = gl := e
  subst e2
  have := hc 0 hx
  rw [Nat.add_zero, hb.cell] at this
  exact hcs _ (List.mem_of_getElem? this) _ rfl
theorem fv_nob (f : Fld) : ∀ v ∈ fv f, ∀ z, v ≠ .int .u8 z := by
  intro v hv z
  simp only [fv, List.mem_cons, List.not_mem_nil, or_false] at hv
  rcases hv with rfl | rfl | rfl <;> intro h <;> cases h
set_option maxRecDepth 100000 in
set_option maxHeartbeats 400000 in
theorem read_t (g : Nat) (xs : List Nat) (bad : Bool) (w : World) (x : Rd w g xs bad) (hb : Bytes xs) (hl : xs.length ≤ 70368744177664) :
    Calls Tryd.prog 70 #[.pointer (some ⟨g, 0, none⟩)] w fun e w' => e = .returned (.agg (fv (rFld xs bad).1).toArray) ∧ Rd w' g (rFld xs bad).2.1 (rFld xs bad).2.2 ∧ Kept (fun k => k = g) w w' := by
  have hg := x.lt
  have AL := Lib.hid ((Below.refl w.heap.size w).alloc (Nat.le_refl _) (.cells #[.int .i64 0, .int .i64 0, .string { data := #[] }] 40))
  have R0 := Lib.hid (Blk.new w 40 (fv ⟨0, 0, eS⟩))
  have NM := Lib.hid (rnum_t g xs bad 1 _ (x.below AL.out) hb (by decide) (by decide) hl)
  obtain ⟨hy, hyl, hyn⟩ := rNum_bytes xs bad 1 hb
  have hF : rFld xs bad = if (rNum xs bad 1).1 = 1 then (⟨1, IntKind.i64.wrap ((rNum (rNum xs bad 1).2.1 (rNum xs bad 1).2.2 8).1 : Int), eS⟩, (rNum (rNum xs bad 1).2.1 (rNum xs bad 1).2.2 8).2)
    else if (rNum xs bad 1).1 = 2 then (⟨2, 0, str (rTxt (rNum xs bad 1).2.1 (rNum xs bad 1).2.2 40).1⟩, (rTxt (rNum xs bad 1).2.1 (rNum xs bad 1).2.2 40).2)
    else (⟨((rNum xs bad 1).1 : Int), 0, eS⟩, (rNum xs bad 1).2) := rfl
  obtain ⟨⟨k, ys, bad2⟩, hR⟩ : ∃ r, rNum xs bad 1 = r := ⟨_, rfl⟩
  rw [hF]
  simp only [hR] at NM hy hyl hyn ⊢
  have HY := Lib.hid hy
  obtain ⟨⟨f', zs', bd'⟩, hres⟩ : ∃ r : Fld × List Nat × Bool, (if k = 1 then (⟨1, IntKind.i64.wrap ((rNum ys bad2 8).1 : Int), eS⟩, (rNum ys bad2 8).2)
    else if k = 2 then (⟨2, 0, str (rTxt ys bad2 40).1⟩, (rTxt ys bad2 40).2) else (⟨(k : Int), 0, eS⟩, (ys, bad2))) = r := ⟨_, rfl⟩
  rw [hres]
  have RES := Lib.hid hres
  clear hF hR hy x hb hres
  have kw : IntKind.i64.wrap (k : Int) = (k : Int) := IntWalk.i64_in _ (by omega)
  have BF := built_fld (k : Int)
  go_enter Tryd.func70, Tryd.ntmps70
  go_wp2_with fail
  refine NM.out.mono ?_
  rintro e w1 ⟨rfl, x1, k1⟩
  have X1 := Lib.hid x1; have K1 := Lib.hid k1; have R1 := Lib.hid (R0.out.kept k1 (by omega))
  clear x1 k1 NM R0
  go_upto_region 2 with (fail)
  refine world_at (fun Y => Blk Y w1.heap.size 40 (fv ⟨k, 0, eS⟩) ∧ Blk Y w.heap.size 40 (fv ⟨0, 0, eS⟩) ∧ Rd Y g ys bad2 ∧ Kept (fun k => k = g) w Y)
    ⟨Blk.new w1 _ (fv ⟨k, 0, eS⟩), R1.out.alloc _, X1.out.below ((Below.refl _ _).alloc (Nat.le_refl _) _), ((Kept.of_below AL.out).trans K1.out).alloc _⟩ ?_
  rintro Y ⟨f3, f2, xy, ky⟩
  have hl3 : w.heap.size < w1.heap.size := by have := R1.out.lt; omega
  obtain ⟨g3, hg3⟩ : ∃ g, w1.heap.size = g := ⟨_, rfl⟩
  rw [hg3] at f3 hl3 ⊢
  have F3 := Lib.hid f3; have F2 := Lib.hid f2; have XY := Lib.hid xy; have KY := Lib.hid ky
  clear f3 f2 xy ky hg3 X1 K1 R1 AL BF
  obtain ⟨c0, c1, c2⟩ := fv_cells F3.out
  by_cases h1 : k = 1
  · subst h1
    have hr := RES.out
    rw [if_pos rfl] at hr
    clear RES
    have NM := Lib.hid (rnum_t g ys bad2 8 Y XY.out HY.out (by decide) (by decide) (by omega))
    obtain ⟨_, _, hv8⟩ := rNum_bytes ys bad2 8 HY.out
    obtain ⟨⟨v, zs, bad3⟩, hR⟩ : ∃ r, rNum ys bad2 8 = r := ⟨_, rfl⟩
    simp only [hR] at NM hv8 hr
    obtain ⟨n, hn⟩ : ∃ n, IntKind.i64.wrap (v : Int) = n := ⟨_, rfl⟩
    rw [hn] at hr
    cases hr
    clear hR XY HY
    go_wp2_with fail
    refine NM.out.mono ?_
    rintro e w2 ⟨rfl, x2, k2⟩
    have f3 := F3.out.kept k2 (by omega)
    have fz := f3.frozen 1
    have ct := f3.cell 1
    have f3b := fv_set1 f3 n
    have F2b := Lib.hid ((F2.out.kept k2 (by omega)).far (p := ⟨g3, 1, none⟩) (by show w.heap.size ≠ g3; omega) (.int .i64 n))
    have kz : Kept (fun k => k = g3) w2 (w2.setCell ⟨g3, 1, none⟩ (.int .i64 n)) := Kept.setCell (F := fun k => k = g3) (Kept.refl _ _) (p := ⟨g3, 1, none⟩) (.inl rfl) _
    have X2 := Lib.hid (x2.far f3 (fv_nob _) (by omega) kz)
    have K2 := Lib.hid ((KY.out.trans (k2.mono fun _ e => e)).setCell (p := ⟨g3, 1, none⟩) (.inr (by show w.heap.size ≤ g3; omega)) (.int .i64 n))
    have F3b := Lib.hid f3b
    clear x2 k2 f3 f3b kz F3 F2 KY NM c0 c1 c2
    go_upto_region 7 with (fail)
    clear fz ct
    refine world_at (fun Z => Blk Z g3 40 (fv ⟨1, n, eS⟩) ∧ Blk Z w.heap.size 40 (fv ⟨0, 0, eS⟩) ∧ Rd Z g zs' bd' ∧ Kept (fun k => k = g) w Z) ⟨F3b.out, F2b.out, X2.out, K2.out⟩ ?_
    rintro Z ⟨f3, f2, xz, kz⟩
    have F3 := Lib.hid f3; have F2 := Lib.hid f2; have XY := Lib.hid xz; have KY := Lib.hid kz
    clear f3 f2 xz kz F3b F2b X2 K2
    have FV := Lib.hid (fv_size ⟨1, n, eS⟩); have FO := Lib.hid (fv_one ⟨1, n, eS⟩)
    have RR := Lib.hid (F2.out.setRow (fv ⟨1, n, eS⟩))
    have KK := Lib.hid (KY.out.setRowK (.inr (Nat.le_refl _)) (fv ⟨1, n, eS⟩).toArray)
    have XX := Lib.hid (XY.out.far F2.out (fv_nob _) (by omega) (Kept.setRowK (F := fun k => k = w.heap.size) (Kept.refl _ _) (.inl rfl) (fv ⟨1, n, eS⟩).toArray))
    go_wp2_with (first
      | ((with_reducible refine load_blk 40 (.tmp 3) g3 40 (fv ⟨1, n, eS⟩) _ rfl rfl ?_ Tryd.underlying40 ?_ ?_ ?_ ?_); exact F3.out; exact rfl; exact FV.out; exact rfl)
      | ((with_reducible refine store_blk 40 (.tmp 2) (.tmp 22) w.heap.size 40 (fv ⟨0, 0, eS⟩) (fv ⟨1, n, eS⟩) rfl rfl ?_ ?_ ?_ ?_ ?_ ?_ ?_); exact F2.out; exact rfl; exact FV.out; exact FO.out; exact rfl; exact rfl))
    exact ret_blk (p := 2) (ty := 40) rfl rfl w.heap.size 40 _ _ rfl RR.out Tryd.underlying40 rfl FV.out ⟨rfl, XX.out, KK.out⟩
  · have hr := RES.out
    rw [if_neg h1] at hr
    clear RES
    have e1 : ((k : Int) == 1) = false := by rw [beq_eq_false_iff_ne]; omega
    by_cases h2 : k = 2
    · subst h2
      rw [if_pos rfl] at hr
      have NM := Lib.hid (rtxt_t g ys bad2 40 Y XY.out HY.out (by decide) (by omega))
      obtain ⟨⟨v, zs, bad3⟩, hR⟩ : ∃ r, rTxt ys bad2 40 = r := ⟨_, rfl⟩
      simp only [hR] at NM hr
      cases hr
      clear hR XY HY h1
      go_wp2_with fail
      refine NM.out.mono ?_
      rintro e w2 ⟨u, rfl, o2, x2, k2⟩
      obtain ⟨A, c, rfl, hc⟩ := own_form o2
      have hcv := (Sr.of_own o2).conv rfl c
      have f3 := F3.out.kept k2 (by omega)
      have fz := f3.frozen 2
      have ct := f3.cell 2
      have f3b := fv_set2 f3 (str v)
      have F2b := Lib.hid ((F2.out.kept k2 (by omega)).far (p := ⟨g3, 2, none⟩) (by show w.heap.size ≠ g3; omega) (.string (str v)))
      have kz : Kept (fun k => k = g3) w2 (w2.setCell ⟨g3, 2, none⟩ (.string (str v))) := Kept.setCell (F := fun k => k = g3) (Kept.refl _ _) (p := ⟨g3, 2, none⟩) (.inl rfl) _
      have X2 := Lib.hid (x2.far f3 (fv_nob _) (by omega) kz)
      have K2 := Lib.hid ((KY.out.trans (k2.mono fun _ e => e)).setCell (p := ⟨g3, 2, none⟩) (.inr (by show w.heap.size ≤ g3; omega)) (.string (str v)))
      have F3b := Lib.hid f3b
      clear x2 k2 f3 f3b kz F3 F2 KY NM c0 c1 c2 o2 hc
      go_upto_region 7 with (fail)
      clear fz ct hcv
      refine world_at (fun Z => Blk Z g3 40 (fv ⟨2, 0, str v⟩) ∧ Blk Z w.heap.size 40 (fv ⟨0, 0, eS⟩) ∧ Rd Z g zs' bd' ∧ Kept (fun k => k = g) w Z) ⟨F3b.out, F2b.out, X2.out, K2.out⟩ ?_
      rintro Z ⟨f3, f2, xz, kz⟩
      have F3 := Lib.hid f3; have F2 := Lib.hid f2; have XY := Lib.hid xz; have KY := Lib.hid kz
      clear f3 f2 xz kz F3b F2b X2 K2
      have FV := Lib.hid (fv_size ⟨2, 0, str v⟩); have FO := Lib.hid (fv_one ⟨2, 0, str v⟩)
      have RR := Lib.hid (F2.out.setRow (fv ⟨2, 0, str v⟩))
      have KK := Lib.hid (KY.out.setRowK (.inr (Nat.le_refl _)) (fv ⟨2, 0, str v⟩).toArray)
      have XX := Lib.hid (XY.out.far F2.out (fv_nob _) (by omega) (Kept.setRowK (F := fun k => k = w.heap.size) (Kept.refl _ _) (.inl rfl) (fv ⟨2, 0, str v⟩).toArray))
      go_wp2_with (first
        | ((with_reducible refine load_blk 40 (.tmp 3) g3 40 (fv ⟨2, 0, str v⟩) _ rfl rfl ?_ Tryd.underlying40 ?_ ?_ ?_ ?_); exact F3.out; exact rfl; exact FV.out; exact rfl)
        | ((with_reducible refine store_blk 40 (.tmp 2) (.tmp 22) w.heap.size 40 (fv ⟨0, 0, eS⟩) (fv ⟨2, 0, str v⟩) rfl rfl ?_ ?_ ?_ ?_ ?_ ?_ ?_); exact F2.out; exact rfl; exact FV.out; exact FO.out; exact rfl; exact rfl))
      exact ret_blk (p := 2) (ty := 40) rfl rfl w.heap.size 40 _ _ rfl RR.out Tryd.underlying40 rfl FV.out ⟨rfl, XX.out, KK.out⟩
    · rw [if_neg h2] at hr
      cases hr
      have e2 : ((k : Int) == 2) = false := by rw [beq_eq_false_iff_ne]; omega
      clear h1 h2
      have FV := Lib.hid (fv_size ⟨(k : Int), 0, eS⟩); have FO := Lib.hid (fv_one ⟨(k : Int), 0, eS⟩)
      have RR := Lib.hid (F2.out.setRow (fv ⟨(k : Int), 0, eS⟩))
      have KK := Lib.hid (KY.out.setRowK (.inr (Nat.le_refl _)) (fv ⟨(k : Int), 0, eS⟩).toArray)
      have XX := Lib.hid (XY.out.far F2.out (fv_nob _) (by omega) (Kept.setRowK (F := fun k => k = w.heap.size) (Kept.refl _ _) (.inl rfl) (fv ⟨(k : Int), 0, eS⟩).toArray))
      go_wp2_with (first
        | ((with_reducible refine load_blk 40 (.tmp 3) g3 40 (fv ⟨(k : Int), 0, eS⟩) _ rfl rfl ?_ Tryd.underlying40 ?_ ?_ ?_ ?_); exact F3.out; exact rfl; exact FV.out; exact rfl)
        | ((with_reducible refine store_blk 40 (.tmp 2) (.tmp 22) w.heap.size 40 (fv ⟨0, 0, eS⟩) (fv ⟨(k : Int), 0, eS⟩) rfl rfl ?_ ?_ ?_ ?_ ?_ ?_ ?_); exact F2.out; exact rfl; exact FV.out; exact FO.out; exact rfl; exact rfl))
      exact ret_blk (p := 2) (ty := 40) rfl rfl w.heap.size 40 _ _ rfl RR.out Tryd.underlying40 rfl FV.out ⟨rfl, XX.out, KK.out⟩
end Go.Proofs.YtigbnjgmdgkgjaaDoor
