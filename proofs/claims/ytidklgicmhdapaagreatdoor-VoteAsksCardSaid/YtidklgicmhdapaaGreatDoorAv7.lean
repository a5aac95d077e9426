/-
  LAYERS 6, 7
-/
import Derived.Test.YtidklgicmhdapaaGreatDoorAv5
import Derived.Test.YtidklgicmhdapaaGreatDoorAv6
import Derived.Laws.IdiomStrings
namespace Go.Proofs.YtidklgicmhdapaaGreatDoor
open Go Go.RowKit Sh


def bs (s : ByteArray) : List Nat := s.toList.map UInt8.toNat
theorem bs_length (s : ByteArray) : (bs s).length = s.size := by
  rw [bs, List.length_map, ByteArray.toList_eq]
  rfl
theorem bs_bytes (s : ByteArray) : Bytes (bs s) := sl_bytes (fun y hy => by
  obtain ⟨b, _, rfl⟩ := List.mem_map.1 hy
  exact b.toNat_lt)
theorem sr_frz (xs : List Nat) (w : World) (rest : List Value) (e : TypeId) (fr : Nat × Nat) : Sr (w.alloc (.cells (u8s xs ++ rest).toArray e fr)) (some ⟨w.heap.size, 0, none⟩) xs := fun _ => by
  refine ⟨w.heap.size, 0, rfl, by simp, fun j hj => ?_⟩
  rw [Nat.zero_add, cell_of_row _ _ j _ e fr (heap_alloc_new w _)]
  rw [List.getElem?_toArray, List.getElem?_append_left (by rw [u8s_length]; exact hj), u8s_get _ _ hj]
theorem conv_txt (s : ByteArray) (w : World) : ∃ w' c, (convert 9 24 (.string s)).run Tryz.prog w = .ok (.slice (some ⟨w.heap.size, 0, none⟩) s.size c) w' ∧ s.size ≤ c ∧ Sr w' (some ⟨w.heap.size, 0, none⟩) (bs s) ∧ Below w.heap.size w w' := by
  refine ⟨_, _, run_bytes_of_string w 9 24 5 s Tryz.underlying9 Tryz.underlying24 Tryz.underlying5, ?_, ?_, ?_⟩
  · exact grownCap_ge _ _ _ _
  · have h := sr_frz (bs s) w.drew (List.replicate (grownCap w s.size 0 5 - s.size) (.int .u8 0)) 5 ((bytesRow s (grownCap w s.size 0 5)).size, (bytesRow s (grownCap w s.size 0 5)).size + 1)
    have e : (u8s (bs s) ++ List.replicate (grownCap w s.size 0 5 - s.size) (Value.int .u8 0)).toArray = bytesRow s (grownCap w s.size 0 5) := by
      unfold bytesRow bs u8s
      rw [ByteArray.toList_eq]
      simp
    rw [e] at h
    exact h
  · exact (Below.refl _ _).drew.alloc (Nat.le_refl _) _
def putF (f : Fld) : List Nat := beN f.k.toNat 1 ++ (if f.k = 1 then beN (IntKind.u64.wrap f.n).toNat 8 else if f.k = 2 then txtN (bs f.s) else [])
def catF (G : Nat → Fld) : Nat → List Nat
  | 0 => []
  | j + 1 => catF G j ++ putF (G j)

def rNum (xs : List Nat) (bad : Bool) (n : Nat) : Nat × List Nat × Bool := if xs.length < n then (0, [], true) else (val (xs.take n), xs.drop n, bad)
def rTxt (xs : List Nat) (bad : Bool) (most : Nat) : List Nat × List Nat × Bool :=
  if 4 ≤ xs.length ∧ val (xs.take 4) ≤ most ∧ val (xs.take 4) ≤ xs.length - 4 then ((xs.drop 4).take (val (xs.take 4)), (xs.drop 4).drop (val (xs.take 4)), bad) else ([], [], true)
theorem rNum_bytes (xs : List Nat) (bad : Bool) (n : Nat) (h : Bytes xs) : Bytes (rNum xs bad n).2.1 ∧ (rNum xs bad n).2.1.length ≤ xs.length ∧ (rNum xs bad n).1 < 256 ^ n := by
  unfold rNum
  split
  · exact ⟨nil_bytes, Nat.zero_le _, Nat.pow_pos (by decide)⟩
  · rename_i hn
    refine ⟨bytes_drop h n, by rw [List.length_drop]; omega, ?_⟩
    have := val_lt (xs.take n) (bytes_take h n)
    rwa [List.length_take, Nat.min_eq_left (by omega)] at this
theorem rTxt_bytes (xs : List Nat) (bad : Bool) (n : Nat) (h : Bytes xs) : Bytes (rTxt xs bad n).2.1 ∧ (rTxt xs bad n).2.1.length ≤ xs.length ∧ (rTxt xs bad n).1.length ≤ n := by
  unfold rTxt
  split
  · rename_i hn
    refine ⟨bytes_drop (bytes_drop h 4) _, by rw [List.length_drop, List.length_drop]; omega, ?_⟩
    rw [List.length_take]; omega
  · exact ⟨nil_bytes, Nat.zero_le _, Nat.zero_le _⟩
theorem rnum_t (g : Nat) (xs : List Nat) (bad : Bool) (n : Nat) (w : World) (x : Rd w g xs bad) (hb : Bytes xs) (h1 : 1 ≤ n) (h2 : n ≤ 8) (hl : xs.length ≤ 70368744177664) :
    Calls Tryz.prog 24 #[.pointer (some ⟨g, 0, none⟩), .int .i64 n] w fun e w' => e = .returned (.int .u64 ((rNum xs bad n).1 : Nat)) ∧ Rd w' g (rNum xs bad n).2.1 (rNum xs bad n).2.2 ∧ Kept (fun k => k = g) w w' := by
  unfold rNum
  by_cases h : xs.length < n
  · rw [if_pos h]
    exact rnum_short g xs bad n w x h1 h2 h
  · rw [if_neg h]
    exact rnum_ok g xs bad n w x hb h1 h2 (by omega) hl
theorem rtxt_t (g : Nat) (xs : List Nat) (bad : Bool) (most : Nat) (w : World) (x : Rd w g xs bad) (hb : Bytes xs) (hm : most ≤ 1000000) (hl : xs.length ≤ 70368744177664) :
    Calls Tryz.prog 26 #[.pointer (some ⟨g, 0, none⟩), .int .i64 (most : Int)] w fun e w' => ∃ v, e = .returned v ∧ w'.ownsRow w.heap.size 5 1 v (rTxt xs bad most).1.length (u8s (rTxt xs bad most).1) ∧ Rd w' g (rTxt xs bad most).2.1 (rTxt xs bad most).2.2 ∧ Kept (fun k => k = g) w w' := by
  unfold rTxt
  by_cases h : 4 ≤ xs.length ∧ val (xs.take 4) ≤ most ∧ val (xs.take 4) ≤ xs.length - 4
  · rw [if_pos h]
    have := rtext_ok g xs bad (most : Int) w x hb (by omega) hl h.1 _ rfl (by simpa using h.2.1) h.2.2
    refine this.mono ?_
    rintro e w' ⟨v, rfl, o, r, k⟩
    refine ⟨v, rfl, ?_, r, k⟩
    show w'.ownsRow w.heap.size _ 1 v ((xs.drop 4).take (val (xs.take 4))).length _
    rw [List.length_take, List.length_drop, Nat.min_eq_left h.2.2]
    exact o
  · rw [if_neg h]
    by_cases h4 : xs.length < 4
    · exact rtext_short g xs bad (most : Int) w x (by omega) h4
    · exact rtext_over g xs bad (most : Int) w x hb (by omega) hl (by omega) (by
        have : most < val (xs.take 4) ∨ xs.length - 4 < val (xs.take 4) := by omega
        simpa using this)
def rFld (xs : List Nat) (bad : Bool) : Fld × List Nat × Bool :=
  if (rNum xs bad 1).1 = 1 then (⟨1, IntKind.i64.wrap ((rNum (rNum xs bad 1).2.1 (rNum xs bad 1).2.2 8).1 : Int), eS⟩, (rNum (rNum xs bad 1).2.1 (rNum xs bad 1).2.2 8).2)
  else if (rNum xs bad 1).1 = 2 then (⟨2, 0, str (rTxt (rNum xs bad 1).2.1 (rNum xs bad 1).2.2 40).1⟩, (rTxt (rNum xs bad 1).2.1 (rNum xs bad 1).2.2 40).2)
  else (⟨((rNum xs bad 1).1 : Int), 0, eS⟩, (rNum xs bad 1).2)
theorem built_fld (k : Int) : Tryz.prog.built 158 [(0, .int .i64 k)] = some (fv ⟨k, 0, eS⟩).toArray := by kernel_rfl
theorem fv_set1 {w : World} {g : Nat} {k n : Int} {s : ByteArray} (h : Blk w g 158 (fv ⟨k, n, s⟩)) (m : Int) : Blk (w.setCell ⟨g, 1, none⟩ (.int .i64 m)) g 158 (fv ⟨k, m, s⟩) := h.store 1 _
theorem fv_set2 {w : World} {g : Nat} {k n : Int} {s : ByteArray} (h : Blk w g 158 (fv ⟨k, n, s⟩)) (m : ByteArray) : Blk (w.setCell ⟨g, 2, none⟩ (.string m)) g 158 (fv ⟨k, n, m⟩) := h.store 2 _
theorem Rd.far {w w' : World} {g gl : Nat} {xs : List Nat} {bad : Bool} {t : TypeId} {cs : List Value} (x : Rd w g xs bad) (hb : Blk w gl t cs) (hcs : ∀ v ∈ cs, ∀ z, v ≠ .int .u8 z) (hne : g ≠ gl) (hk : Kept (fun k => k = gl) w w') : Rd w' g xs bad := by
  obtain ⟨A, c, h1, h2, h3⟩ := x.is
  refine ⟨⟨A, c, h1.kept hk hne, h2, h3.kept hk (fun hx a ha e => ?_)⟩, x.none_⟩
  obtain ⟨b, o, hA, _, hc⟩ := h3 hx
  rw [ha] at hA
  injection hA with hA
  subst hA
  have e2 : b = gl := e
  subst e2
  have := hc 0 hx
  rw [Nat.add_zero, hb.cell] at this
  exact hcs _ (List.mem_of_getElem? this) _ rfl
theorem fv_nob (f : Fld) : ∀ v ∈ fv f, ∀ z, v ≠ .int .u8 z := by
  intro v hv z
  simp only [fv, List.mem_cons, List.not_mem_nil, or_false] at hv
  rcases hv with rfl | rfl | rfl <;> intro h <;> cases h
set_option maxRecDepth 100000 in
set_option maxHeartbeats 400000 in
theorem read_t (g : Nat) (xs : List Nat) (bad : Bool) (w : World) (x : Rd w g xs bad) (hb : Bytes xs) (hl : xs.length ≤ 70368744177664) :
    Calls Tryz.prog 108 #[.pointer (some ⟨g, 0, none⟩)] w fun e w' => e = .returned (.agg (fv (rFld xs bad).1).toArray) ∧ Rd w' g (rFld xs bad).2.1 (rFld xs bad).2.2 ∧ Kept (fun k => k = g) w w' := by
  have hg := x.lt
  have AL := Lib.hid ((Below.refl w.heap.size w).alloc (Nat.le_refl _) (.cells #[.int .i64 0, .int .i64 0, .string { data := #[] }] 158))
  have R0 := Lib.hid (Blk.new w 158 (fv ⟨0, 0, eS⟩))
  have NM := Lib.hid (rnum_t g xs bad 1 _ (x.below AL.out) hb (by decide) (by decide) hl)
  obtain ⟨hy, hyl, hyn⟩ := rNum_bytes xs bad 1 hb
  have hF : rFld xs bad = if (rNum xs bad 1).1 = 1 then (⟨1, IntKind.i64.wrap ((rNum (rNum xs bad 1).2.1 (rNum xs bad 1).2.2 8).1 : Int), eS⟩, (rNum (rNum xs bad 1).2.1 (rNum xs bad 1).2.2 8).2)
    else if (rNum xs bad 1).1 = 2 then (⟨2, 0, str (rTxt (rNum xs bad 1).2.1 (rNum xs bad 1).2.2 40).1⟩, (rTxt (rNum xs bad 1).2.1 (rNum xs bad 1).2.2 40).2)
    else (⟨((rNum xs bad 1).1 : Int), 0, eS⟩, (rNum xs bad 1).2) := rfl
  obtain ⟨⟨k, ys, bad2⟩, hR⟩ : ∃ r, rNum xs bad 1 = r := ⟨_, rfl⟩
  rw [hF]
  simp only [hR] at NM hy hyl hyn ⊢
  have HY := Lib.hid hy
  obtain ⟨⟨f', zs', bd'⟩, hres⟩ : ∃ r : Fld × List Nat × Bool, (if k = 1 then (⟨1, IntKind.i64.wrap ((rNum ys bad2 8).1 : Int), eS⟩, (rNum ys bad2 8).2)
    else if k = 2 then (⟨2, 0, str (rTxt ys bad2 40).1⟩, (rTxt ys bad2 40).2) else (⟨(k : Int), 0, eS⟩, (ys, bad2))) = r := ⟨_, rfl⟩
  rw [hres]
  have RES := Lib.hid hres
  clear hF hR hy x hb hres
  have kw : IntKind.i64.wrap (k : Int) = (k : Int) := IntWalk.i64_in _ (by omega)
  have BF := built_fld (k : Int)
  go_enter Tryz.func108, Tryz.ntmps108
  go_wp2_with fail
  refine NM.out.mono ?_
  rintro e w1 ⟨rfl, x1, k1⟩
  have X1 := Lib.hid x1; have K1 := Lib.hid k1; have R1 := Lib.hid (R0.out.kept k1 (by omega))
  clear x1 k1 NM R0
  go_upto_region 2 with (fail)
  refine world_at (fun Y => Blk Y w1.heap.size 158 (fv ⟨k, 0, eS⟩) ∧ Blk Y w.heap.size 158 (fv ⟨0, 0, eS⟩) ∧ Rd Y g ys bad2 ∧ Kept (fun k => k = g) w Y)
    ⟨Blk.new w1 _ (fv ⟨k, 0, eS⟩), R1.out.alloc _, X1.out.below ((Below.refl _ _).alloc (Nat.le_refl _) _), ((Kept.of_below AL.out).trans K1.out).alloc _⟩ ?_
  rintro Y ⟨f3, f2, xy, ky⟩
  have hl3 : w.heap.size < w1.heap.size := by have := R1.out.lt; omega
  obtain ⟨g3, hg3⟩ : ∃ g, w1.heap.size = g := ⟨_, rfl⟩
  rw [hg3] at f3 hl3 ⊢
  have F3 := Lib.hid f3; have F2 := Lib.hid f2; have XY := Lib.hid xy; have KY := Lib.hid ky
  clear f3 f2 xy ky hg3 X1 K1 R1 AL BF
  obtain ⟨c0, c1, c2⟩ := fv_cells F3.out
  by_cases h1 : k = 1
  · subst h1
    have hr := RES.out
    rw [if_pos rfl] at hr
    clear RES
    have NM := Lib.hid (rnum_t g ys bad2 8 Y XY.out HY.out (by decide) (by decide) (by omega))
    obtain ⟨_, _, hv8⟩ := rNum_bytes ys bad2 8 HY.out
    obtain ⟨⟨v, zs, bad3⟩, hR⟩ : ∃ r, rNum ys bad2 8 = r := ⟨_, rfl⟩
    simp only [hR] at NM hv8 hr
    obtain ⟨n, hn⟩ : ∃ n, IntKind.i64.wrap (v : Int) = n := ⟨_, rfl⟩
    rw [hn] at hr
    cases hr
    clear hR XY HY
    go_wp2_with fail
    refine NM.out.mono ?_
    rintro e w2 ⟨rfl, x2, k2⟩
    have f3 := F3.out.kept k2 (by omega)
    have fz := f3.frozen 1
    have ct := f3.cell 1
    have f3b := fv_set1 f3 n
    have F2b := Lib.hid ((F2.out.kept k2 (by omega)).far (p := ⟨g3, 1, none⟩) (by show w.heap.size ≠ g3; omega) (.int .i64 n))
    have kz : Kept (fun k => k = g3) w2 (w2.setCell ⟨g3, 1, none⟩ (.int .i64 n)) := Kept.setCell (F := fun k => k = g3) (Kept.refl _ _) (p := ⟨g3, 1, none⟩) (.inl rfl) _
    have X2 := Lib.hid (x2.far f3 (fv_nob _) (by omega) kz)
    have K2 := Lib.hid ((KY.out.trans (k2.mono fun _ e => e)).setCell (p := ⟨g3, 1, none⟩) (.inr (by show w.heap.size ≤ g3; omega)) (.int .i64 n))
    have F3b := Lib.hid f3b
    clear x2 k2 f3 f3b kz F3 F2 KY NM c0 c1 c2
    go_upto_region 7 with (fail)
    clear fz ct
    refine world_at (fun Z => Blk Z g3 158 (fv ⟨1, n, eS⟩) ∧ Blk Z w.heap.size 158 (fv ⟨0, 0, eS⟩) ∧ Rd Z g zs' bd' ∧ Kept (fun k => k = g) w Z) ⟨F3b.out, F2b.out, X2.out, K2.out⟩ ?_
    rintro Z ⟨f3, f2, xz, kz⟩
    have F3 := Lib.hid f3; have F2 := Lib.hid f2; have XY := Lib.hid xz; have KY := Lib.hid kz
    clear f3 f2 xz kz F3b F2b X2 K2
    have FV := Lib.hid (fv_size ⟨1, n, eS⟩); have FO := Lib.hid (fv_one ⟨1, n, eS⟩)
    have RR := Lib.hid (F2.out.setRow (fv ⟨1, n, eS⟩))
    have KK := Lib.hid (KY.out.setRowK (.inr (Nat.le_refl _)) (fv ⟨1, n, eS⟩).toArray)
    have XX := Lib.hid (XY.out.far F2.out (fv_nob _) (by omega) (Kept.setRowK (F := fun k => k = w.heap.size) (Kept.refl _ _) (.inl rfl) (fv ⟨1, n, eS⟩).toArray))
    go_wp2_with (first
      | ((with_reducible refine load_blk 158 (.tmp 3) g3 158 (fv ⟨1, n, eS⟩) _ rfl rfl ?_ Tryz.underlying158 ?_ ?_ ?_ ?_); exact F3.out; exact rfl; exact FV.out; exact rfl)
      | ((with_reducible refine store_blk 158 (.tmp 2) (.tmp 22) w.heap.size 158 (fv ⟨0, 0, eS⟩) (fv ⟨1, n, eS⟩) rfl rfl ?_ ?_ ?_ ?_ ?_ ?_ ?_); exact F2.out; exact rfl; exact FV.out; exact FO.out; exact rfl; exact rfl))
    exact ret_blk (p := 2) (ty := 158) rfl rfl w.heap.size 158 _ _ rfl RR.out Tryz.underlying158 rfl FV.out ⟨rfl, XX.out, KK.out⟩
  · have hr := RES.out
    rw [if_neg h1] at hr
    clear RES
    have e1 : ((k : Int) == 1) = false := by rw [beq_eq_false_iff_ne]; omega
    by_cases h2 : k = 2
    · subst h2
      rw [if_pos rfl] at hr
      have NM := Lib.hid (rtxt_t g ys bad2 40 Y XY.out HY.out (by decide) (by omega))
      obtain ⟨⟨v, zs, bad3⟩, hR⟩ : ∃ r, rTxt ys bad2 40 = r := ⟨_, rfl⟩
      simp only [hR] at NM hr
      cases hr
      clear hR XY HY h1
      go_wp2_with fail
      refine NM.out.mono ?_
      rintro e w2 ⟨u, rfl, o2, x2, k2⟩
      obtain ⟨A, c, rfl, hc⟩ := own_form o2
      have hcv := (Sr.of_own o2).conv rfl c
      have f3 := F3.out.kept k2 (by omega)
      have fz := f3.frozen 2
      have ct := f3.cell 2
      have f3b := fv_set2 f3 (str v)
      have F2b := Lib.hid ((F2.out.kept k2 (by omega)).far (p := ⟨g3, 2, none⟩) (by show w.heap.size ≠ g3; omega) (.string (str v)))
      have kz : Kept (fun k => k = g3) w2 (w2.setCell ⟨g3, 2, none⟩ (.string (str v))) := Kept.setCell (F := fun k => k = g3) (Kept.refl _ _) (p := ⟨g3, 2, none⟩) (.inl rfl) _
      have X2 := Lib.hid (x2.far f3 (fv_nob _) (by omega) kz)
      have K2 := Lib.hid ((KY.out.trans (k2.mono fun _ e => e)).setCell (p := ⟨g3, 2, none⟩) (.inr (by show w.heap.size ≤ g3; omega)) (.string (str v)))
      have F3b := Lib.hid f3b
      clear x2 k2 f3 f3b kz F3 F2 KY NM c0 c1 c2 o2 hc
      go_upto_region 7 with (fail)
      clear fz ct hcv
      refine world_at (fun Z => Blk Z g3 158 (fv ⟨2, 0, str v⟩) ∧ Blk Z w.heap.size 158 (fv ⟨0, 0, eS⟩) ∧ Rd Z g zs' bd' ∧ Kept (fun k => k = g) w Z) ⟨F3b.out, F2b.out, X2.out, K2.out⟩ ?_
      rintro Z ⟨f3, f2, xz, kz⟩
      have F3 := Lib.hid f3; have F2 := Lib.hid f2; have XY := Lib.hid xz; have KY := Lib.hid kz
      clear f3 f2 xz kz F3b F2b X2 K2
      have FV := Lib.hid (fv_size ⟨2, 0, str v⟩); have FO := Lib.hid (fv_one ⟨2, 0, str v⟩)
      have RR := Lib.hid (F2.out.setRow (fv ⟨2, 0, str v⟩))
      have KK := Lib.hid (KY.out.setRowK (.inr (Nat.le_refl _)) (fv ⟨2, 0, str v⟩).toArray)
      have XX := Lib.hid (XY.out.far F2.out (fv_nob _) (by omega) (Kept.setRowK (F := fun k => k = w.heap.size) (Kept.refl _ _) (.inl rfl) (fv ⟨2, 0, str v⟩).toArray))
      go_wp2_with (first
        | ((with_reducible refine load_blk 158 (.tmp 3) g3 158 (fv ⟨2, 0, str v⟩) _ rfl rfl ?_ Tryz.underlying158 ?_ ?_ ?_ ?_); exact F3.out; exact rfl; exact FV.out; exact rfl)
        | ((with_reducible refine store_blk 158 (.tmp 2) (.tmp 22) w.heap.size 158 (fv ⟨0, 0, eS⟩) (fv ⟨2, 0, str v⟩) rfl rfl ?_ ?_ ?_ ?_ ?_ ?_ ?_); exact F2.out; exact rfl; exact FV.out; exact FO.out; exact rfl; exact rfl))
      exact ret_blk (p := 2) (ty := 158) rfl rfl w.heap.size 158 _ _ rfl RR.out Tryz.underlying158 rfl FV.out ⟨rfl, XX.out, KK.out⟩
    · rw [if_neg h2] at hr
      cases hr
      have e2 : ((k : Int) == 2) = false := by rw [beq_eq_false_iff_ne]; omega
      clear h1 h2
      have FV := Lib.hid (fv_size ⟨(k : Int), 0, eS⟩); have FO := Lib.hid (fv_one ⟨(k : Int), 0, eS⟩)
      have RR := Lib.hid (F2.out.setRow (fv ⟨(k : Int), 0, eS⟩))
      have KK := Lib.hid (KY.out.setRowK (.inr (Nat.le_refl _)) (fv ⟨(k : Int), 0, eS⟩).toArray)
      have XX := Lib.hid (XY.out.far F2.out (fv_nob _) (by omega) (Kept.setRowK (F := fun k => k = w.heap.size) (Kept.refl _ _) (.inl rfl) (fv ⟨(k : Int), 0, eS⟩).toArray))
      go_wp2_with (first
        | ((with_reducible refine load_blk 158 (.tmp 3) g3 158 (fv ⟨(k : Int), 0, eS⟩) _ rfl rfl ?_ Tryz.underlying158 ?_ ?_ ?_ ?_); exact F3.out; exact rfl; exact FV.out; exact rfl)
        | ((with_reducible refine store_blk 158 (.tmp 2) (.tmp 22) w.heap.size 158 (fv ⟨0, 0, eS⟩) (fv ⟨(k : Int), 0, eS⟩) rfl rfl ?_ ?_ ?_ ?_ ?_ ?_ ?_); exact F2.out; exact rfl; exact FV.out; exact FO.out; exact rfl; exact rfl))
      exact ret_blk (p := 2) (ty := 158) rfl rfl w.heap.size 158 _ _ rfl RR.out Tryz.underlying158 rfl FV.out ⟨rfl, XX.out, KK.out⟩


def zFt : Fld := ⟨0, 0, eS⟩
def rowC (G : Nat → Fld) : Nat → List Value
  | 0 => []
  | j + 1 => rowC G j ++ fv (G j)
def rowZ : Nat → List Value
  | 0 => []
  | m + 1 => fv zFt ++ rowZ m
theorem rowC_length (G : Nat → Fld) : ∀ j, (rowC G j).length = j * 3
  | 0 => rfl
  | j + 1 => by rw [rowC, List.length_append, rowC_length G j]; simp [fv]; omega
theorem rowC_nob (G : Nat → Fld) : ∀ j, ∀ v ∈ rowC G j, ∀ z, v ≠ .int .u8 z
  | 0 => fun v hv => absurd hv List.not_mem_nil
  | j + 1 => fun v hv z => by
    rcases List.mem_append.1 hv with h | h
    · exact rowC_nob G j v h z
    · exact fv_nob _ v h z
theorem rowZ_nob : ∀ j, ∀ v ∈ rowZ j, ∀ z, v ≠ .int .u8 z
  | 0 => fun v hv => absurd hv List.not_mem_nil
  | j + 1 => fun v hv z => by
    rcases List.mem_append.1 hv with h | h
    · exact fv_nob _ v h z
    · exact rowZ_nob j v h z
theorem app_nob {l m : List Value} (h1 : ∀ v ∈ l, ∀ z, v ≠ .int .u8 z) (h2 : ∀ v ∈ m, ∀ z, v ≠ .int .u8 z) : ∀ v ∈ l ++ m, ∀ z, v ≠ .int .u8 z := fun v hv z => by
  rcases List.mem_append.1 hv with h | h
  · exact h1 v h z
  · exact h2 v h z
theorem rowC_at {w : World} {g : Nat} {t : TypeId} (G : Nat → Fld) : ∀ n, ∀ {rest : List Value}, Blk w g t (rowC G n ++ rest) → ∀ j, j < n → w.rangeAt g (0 + j * 3) (fv (G j))
  | 0, _, _, j, hj => absurd hj (by omega)
  | n + 1, rest, h, j, hj => by
    rw [rowC, List.append_assoc] at h
    rcases Nat.lt_or_ge j n with hlt | hge
    · exact rowC_at (rest := fv (G n) ++ rest) G n h j hlt
    · obtain rfl : j = n := by omega
      have := range_of h
      rwa [rowC_length, ← Nat.zero_add (j * 3)] at this
def stN (xs : List Nat) (bad : Bool) : Nat → List Nat × Bool
  | 0 => (xs, bad)
  | j + 1 => (rFld (stN xs bad j).1 (stN xs bad j).2).2
def fldN (xs : List Nat) (bad : Bool) (j : Nat) : Fld := (rFld (stN xs bad j).1 (stN xs bad j).2).1
theorem rFld_bytes (xs : List Nat) (bad : Bool) (h : Bytes xs) : Bytes (rFld xs bad).2.1 ∧ (rFld xs bad).2.1.length ≤ xs.length := by
  obtain ⟨h1, h2, _⟩ := rNum_bytes xs bad 1 h
  unfold rFld
  split
  · obtain ⟨h3, h4, _⟩ := rNum_bytes (rNum xs bad 1).2.1 (rNum xs bad 1).2.2 8 h1
    exact ⟨h3, Nat.le_trans h4 h2⟩
  · split
    · obtain ⟨h3, h4, _⟩ := rTxt_bytes (rNum xs bad 1).2.1 (rNum xs bad 1).2.2 40 h1
      exact ⟨h3, Nat.le_trans h4 h2⟩
    · exact ⟨h1, h2⟩
theorem stN_bytes (xs : List Nat) (bad : Bool) (h : Bytes xs) : ∀ j, Bytes (stN xs bad j).1 ∧ (stN xs bad j).1.length ≤ xs.length
  | 0 => ⟨h, Nat.le_refl _⟩
  | j + 1 => by
    obtain ⟨h1, h2⟩ := stN_bytes xs bad h j
    obtain ⟨h3, h4⟩ := rFld_bytes (stN xs bad j).1 (stN xs bad j).2 h1
    exact ⟨h3, Nat.le_trans h4 h2⟩
structure GS (w0 W : World) (cr cl g gl n c : Nat) (xs : List Nat) (bad : Bool) (j : Nat) : Prop where
  r : W.cell? ⟨cr, 0, none⟩ = some (.pointer (some ⟨g, 0, none⟩))
  l : W.cell? ⟨cl, 0, none⟩ = some (.slice (some ⟨gl, 0, none⟩) n c)
  rd : Rd W g (stN xs bad j).1 (stN xs bad j).2
  row : Blk W gl 158 (rowC (fldN xs bad) j ++ rowZ (n - j))
  lt : cr < W.heap.size ∧ cl < W.heap.size
  ne : cr ≠ g ∧ cl ≠ g ∧ gl ≠ g ∧ cr ≠ gl ∧ cl ≠ gl
  low : w0.heap.size ≤ g ∧ w0.heap.size ≤ gl
  bel : Below w0.heap.size w0 W
section
variable {w0 W W' : World} {cr cl g gl n c : Nat} {xs : List Nat} {bad : Bool} {j : Nat}
theorem GS.below (h : GS w0 W cr cl g gl n c xs bad j) (hb : Below W.heap.size W W') : GS w0 W' cr cl g gl n c xs bad j :=
  ⟨(hb.cell (p := ⟨cr, 0, none⟩) h.lt.1).trans h.r, (hb.cell (p := ⟨cl, 0, none⟩) h.lt.2).trans h.l, h.rd.below hb, h.row.below hb h.row.lt, ⟨Nat.lt_of_lt_of_le h.lt.1 hb.size, Nat.lt_of_lt_of_le h.lt.2 hb.size⟩, h.ne, h.low, h.bel.trans (hb.mono h.bel.size)⟩
theorem kept_of_but {B g : Nat} {a b : World} (h : But B g a b) (hB : a.heap.size ≤ B) : Kept (fun k => k = g) a b := ⟨h.os, h.tape, h.output, h.size, fun k hk hg => h.block k (by omega) hg⟩
theorem kept_below {g : Nat} {w a b : World} (h : Below w.heap.size w a) (hk : Kept (fun k => k = g) a b) (hg : w.heap.size ≤ g) : Below w.heap.size w b :=
  h.trans ((hk.mono (G := fun k => w.heap.size ≤ k) (fun k e => by subst e; exact hg)).to_below h.size)
theorem rowZ_split (hj : j < n) : rowZ (n - j) = fv zFt ++ rowZ (n - (j + 1)) := by
  rw [show n - j = (n - (j + 1)) + 1 by omega]
  rfl
theorem GS.next (h : GS w0 W cr cl g gl n c xs bad j) {W1 : World} (hk : Kept (fun k => k = g) W W1) (hr : Rd W1 g (stN xs bad (j + 1)).1 (stN xs bad (j + 1)).2)
    (b1 : Blk W1 gl 158 (rowC (fldN xs bad) j ++ (fv zFt ++ rowZ (n - (j + 1))))) (a1 : Blk W' gl 158 (rowC (fldN xs bad) j ++ (fv (fldN xs bad j) ++ rowZ (n - (j + 1))))) (a2 : But W1.heap.size gl W1 W') : GS w0 W' cr cl g gl n c xs bad (j + 1) := by
  have k2 := kept_of_but a2 (Nat.le_refl _)
  have s1 := hk.size
  have s2 := k2.size
  have l1 := h.lt
  have n1 := h.ne
  refine ⟨?_, ?_, hr.far b1 (app_nob (rowC_nob _ _) (app_nob (fv_nob _) (rowZ_nob _))) (fun e => n1.2.2.1 e.symm) k2, ?_, ⟨by omega, by omega⟩, n1, h.low, ?_⟩
  · exact ((k2.cell (p := ⟨cr, 0, none⟩) (by show cr < _; omega) n1.2.2.2.1).trans (hk.cell (p := ⟨cr, 0, none⟩) l1.1 n1.1)).trans h.r
  · exact ((k2.cell (p := ⟨cl, 0, none⟩) (by show cl < _; omega) n1.2.2.2.2).trans (hk.cell (p := ⟨cl, 0, none⟩) l1.2 n1.2.1)).trans h.l
  · rw [rowC, List.append_assoc]; exact a1
  · exact kept_below (kept_below h.bel hk h.low.1) k2 h.low.2
end
set_option maxRecDepth 100000 in
theorem get1_t {w0 W : World} {cr cl g gl n c : Nat} {xs : List Nat} {bad : Bool} (j : Nat) (f : Fld) (h : GS w0 W cr cl g gl n c xs bad j) (hj : j < n) (hn : n ≤ 1000) (hb : Bytes xs) (hl : xs.length ≤ 70368744177664) :
    Calls Tryz.prog 107 #[.int .i64 (j : Int), .agg (fv f).toArray, .pointer (some ⟨cr, 0, none⟩), .pointer (some ⟨cl, 0, none⟩)] W fun e W' => e = .returned (.bool true) ∧ GS w0 W' cr cl g gl n c xs bad (j + 1) := by
  have BW := (Below.refl W.heap.size W).alloc (Nat.le_refl _) (.cells (fv f).toArray 158)
  have H0 := Lib.hid (h.below BW)
  obtain ⟨hb1, hl1⟩ := stN_bytes xs bad hb j
  have RD := Lib.hid (fun X (hx : Rd X g (stN xs bad j).1 (stN xs bad j).2) => show Calls Tryz.prog 108 #[.pointer (some ⟨g, 0, none⟩)] X fun e w' => e = .returned (.agg (fv (fldN xs bad j)).toArray) ∧ Rd w' g (stN xs bad (j + 1)).1 (stN xs bad (j + 1)).2 ∧ Kept (fun k => k = g) X w' from read_t g _ _ X hx hb1 (by omega))
  have j1 : (j : Int) < (n : Int) := by omega
  have n1 : (n : Int) ≤ 1000 := by omega
  have RZ := Lib.hid (rowZ_split hj)
  have RL := Lib.hid (rowC_length (fldN xs bad) j)
  obtain ⟨F, hF⟩ : ∃ F, fldN xs bad j = F := ⟨_, rfl⟩
  rw [hF] at RD
  have HF := Lib.hid hF
  have FV := Lib.hid (fv_size F); have FO := Lib.hid (fv_one F)
  clear h hb hl hb1 hl1 hF BW
  go_enter Tryz.func107, Tryz.ntmps107
  go_upto_region 1 with (fail)
  obtain ⟨V, hV⟩ : ∃ V, W.alloc (.cells (fv f).toArray 158) = V := ⟨_, rfl⟩
  rw [hV] at H0 ⊢
  clear hV
  have H1 := Lib.hid (H0.out.below (show Below V.heap.size V V.drew from (Below.refl _ _).drew))
  clear H0
  have r1 : V.drew.cell? ⟨cr, 0, none⟩ = some (.pointer (some ⟨g, 0, none⟩)) ∧ V.drew.cell? ⟨cl, 0, none⟩ = some (.slice (some ⟨gl, 0, none⟩) n c) := ⟨H1.out.r, H1.out.l⟩
  refine wp_region_held (S := fun X => X.cell? ⟨cr, 0, none⟩ = some (.pointer (some ⟨g, 0, none⟩)) ∧ X.cell? ⟨cl, 0, none⟩ = some (.slice (some ⟨gl, 0, none⟩) n c)) (by kernel_rfl) ?_
  change wpAnyH _ _ _ _ _ _ _ _ V.drew
  obtain ⟨U, hU⟩ : ∃ U, V.drew = U := ⟨_, rfl⟩
  rw [hU] at H1 r1 ⊢
  clear hU
  refine wpAnyH_take (i := 0) (v := ?_) rfl (by kernel_rfl) (by kernel_rfl) (by kernel_rfl) (fun _ _ _ h => h) (Or.inl ⟨by kernel_rfl, ?_⟩) r1 ?_
  rotate_left 1
  · (intro w hS; have hs := hS.2; clear hS; go_simp; try (with_reducible rfl))
  refine wpAnyH_take (i := 1) (v := ?_) rfl (by kernel_rfl) (by kernel_rfl) (by kernel_rfl) (fun _ _ _ h => h) (Or.inl ⟨by kernel_rfl, ?_⟩) r1 ?_
  rotate_left 1
  · (intro w hS; clear hS; go_simp; try (with_reducible rfl))
  refine wpAnyH_take (i := 2) (v := ?_) rfl (by kernel_rfl) (by kernel_rfl) (by kernel_rfl) (fun _ _ _ h => h) (Or.inl ⟨by kernel_rfl, ?_⟩) r1 ?_
  rotate_left 1
  · (intro w hS; have hs := hS.1; clear hS; go_simp; try (with_reducible rfl))
  clear r1
  refine wpAnyH_ready (rs := [3]) (by kernel_rfl) (by simp) ?_
  refine AllReadyH.cons rfl (fun K hK => ?_) AllReadyH.nil
  go_simp
  refine (RD.out _ H1.out.rd).mono ?_
  rintro e w2 ⟨rfl, x2, k2⟩
  have l1 := H1.out.lt
  have ne1 := H1.out.ne
  have r2 : w2.cell? ⟨cr, 0, none⟩ = some (.pointer (some ⟨g, 0, none⟩)) ∧ w2.cell? ⟨cl, 0, none⟩ = some (.slice (some ⟨gl, 0, none⟩) n c) :=
    ⟨(k2.cell (p := ⟨cr, 0, none⟩) l1.1 ne1.1).trans H1.out.r, (k2.cell (p := ⟨cl, 0, none⟩) l1.2 ne1.2.1).trans H1.out.l⟩
  have b2 : Blk w2 gl 158 (rowC (fldN xs bad) j ++ (fv zFt ++ rowZ (n - (j + 1)))) := by rw [← RZ.out]; exact H1.out.row.kept k2 ne1.2.2.1
  have X2 := Lib.hid x2; have K2 := Lib.hid k2; have B2 := Lib.hid b2
  clear x2 k2 b2 l1 ne1
  refine hK.out _ _ r2 (fun _ => ?_)
  clear hK K
  refine wpAnyH_take (i := 4) (v := ?_) rfl (by kernel_rfl) (by kernel_rfl) (by kernel_rfl) (fun _ _ _ h => h) (Or.inl ⟨by kernel_rfl, ?_⟩) r2 ?_
  rotate_left 1
  · (intro w hS; clear hS; go_simp; try (with_reducible rfl))
  refine wpAnyH_ready (rs := [5]) (by kernel_rfl) (by simp) ?_
  refine AllReadyH.cons rfl (fun K hK => ?_) AllReadyH.nil
  rw [if_pos (by kernel_rfl)]
  refine wstore_part 158 (.tmp 11) (.tmp 10) gl (j * 3) 158 (rowC (fldN xs bad) j) (fv zFt) (rowZ (n - (j + 1))) (fv F) rfl B2.out RL.out.symm rfl FV.out FO.out (by go_simp) (by go_simp) ?_
  intro wz a1 a2 a3
  have b3 : Blk wz gl 158 (rowC (fldN xs bad) j ++ (fv (fldN xs bad j) ++ rowZ (n - (j + 1)))) := by rw [HF.out]; exact a1.out
  have H3 := Lib.hid (H1.out.next K2.out X2.out B2.out b3 a2.out)
  clear b3 a1 a2 a3 r2
  refine hK.out _ _ ⟨H3.out.r, H3.out.l⟩ (fun _ => ?_)
  clear hK K
  refine wpAnyH_done (by kernel_rfl) ?_ _
  go_simp
  go_wp2_with fail
  go_ret
  exact ⟨rfl, H3.out⟩
theorem rowZ_snoc : ∀ m, rowZ (m + 1) = rowZ m ++ fv zFt
  | 0 => by simp [rowZ]
  | m + 1 => by
    show fv zFt ++ rowZ (m + 1) = (fv zFt ++ rowZ m) ++ fv zFt
    rw [rowZ_snoc m, List.append_assoc]
def zC : Array Value := #[.int .i64 0, .int .i64 0, .string { data := #[] }]
theorem made_list (z : Array Value) (n : Nat) : (madeCells z n).toList = (List.range n).map (fun i => z[i % z.size]!) := by simp [madeCells]
theorem made_flds (n : Nat) : madeCells zC (n * 3) = (rowZ n).toArray := by
  rw [← Array.toList_inj, made_list]
  show _ = rowZ n
  induction n with
  | zero => rfl
  | succ n ih =>
    have hz : zC.size = 3 := rfl
    rw [show (n + 1) * 3 = n * 3 + 1 + 1 + 1 by omega, List.range_succ, List.range_succ, List.range_succ, List.map_append, List.map_append, List.map_append, ih, rowZ_snoc, hz]
    have e0 : (n * 3) % 3 = 0 := by omega
    have e1 : (n * 3 + 1) % 3 = 1 := by omega
    have e2 : (n * 3 + 1 + 1) % 3 = 2 := by omega
    simp only [List.map_cons, List.map_nil, e0, e1, e2, List.append_assoc]
    rfl
theorem make_flds (n : Nat) (hn : n ≤ 1000) (w : World) : (Instr.makeSlice 77 (.int .u64 (n : Int)) (.int .u64 (n : Int))).run Tryz.prog w = .ok (.slice (some ⟨w.heap.size, 0, none⟩) n n) (w.alloc (.cells (rowZ n).toArray 158)) := by
  have hinfo : (Tryz.prog.info? 158).map (fun i => (i.zero, i.size, i.bytes)) = some (some (.agg zC), 3, 32) := by kernel_rfl
  obtain ⟨i, hi, hzz⟩ := Option.map_eq_some_iff.1 hinfo
  simp only [Prod.mk.injEq] at hzz
  obtain ⟨hz, hs, hb⟩ := hzz
  have hr := run_make (P := Tryz.prog) w 77 158 i (.agg zC) Tryz.underlying77 hi hz .u64 .u64 (n : Int) (n : Int) (by omega) (Int.le_refl _) (by rw [hb]; omega) (by omega)
  rw [Int.toNat_natCast, hs, show (Value.agg zC).cells = zC from rfl, made_flds n] at hr
  exact hr
theorem GS.read {w0 W : World} {cr cl g gl n c j : Nat} {xs : List Nat} {bad : Bool} (h : GS w0 W cr cl g gl n c xs bad j) (hj : j < n) : ∃ b o, (some ⟨gl, 0, none⟩ : Option Addr) = some ⟨b, o, none⟩ ∧ W.rangeAt b (o + j * 3) (fv zFt) := by
  have hr := h.row
  rw [rowZ_split hj] at hr
  have := range_of hr
  rw [rowC_length, ← Nat.zero_add (j * 3)] at this
  exact ⟨gl, 0, rfl, this⟩
theorem rw_of_blk {W : World} {g n : Nat} {t : TypeId} {rest : List Value} (G : Nat → Fld) (h : Blk W g t (rowC G n ++ rest)) : Rw W (some ⟨g, 0, none⟩) n G := fun j hj => ⟨g, 0, rfl, h.lt, rowC_at G n h j hj⟩
def cntN (xs : List Nat) : Nat := (rNum xs false 1).1
def gotN (xs : List Nat) : Nat → Fld := fldN (rNum xs false 1).2.1 (rNum xs false 1).2.2
def endG (xs : List Nat) : Nat := endN (stN (rNum xs false 1).2.1 (rNum xs false 1).2.2 (cntN xs)).1 (stN (rNum xs false 1).2.1 (rNum xs false 1).2.2 (cntN xs)).2
def getOK (xs : List Nat) : Bool := decide (endG xs = 0) && mayP (cntN xs) (gotN xs)
set_option maxRecDepth 100000 in
set_option maxHeartbeats 400000 in
theorem Get_t (xs : List Nat) (p : Option Addr) (m c : Nat) (w : World) (hx : xs.length = m) (hp : Sr w p xs) (hb : Bytes xs) (hl : m ≤ 70368744177664) :
    Calls Tryz.prog 92 #[.slice p m c] w fun e w' => Below w.heap.size w w' ∧ ((getOK xs = false ∧ e = .returned (.tuple #[.slice none 0 0, .int .i64 2])) ∨ (getOK xs = true ∧ ∃ gl c', e = .returned (.tuple #[.slice (some ⟨gl, 0, none⟩) (cntN xs) c', .int .i64 0]) ∧ w.heap.size ≤ gl ∧ Blk w' gl 158 (rowC (gotN xs) (cntN xs)))) := by
  have NW := Lib.hid (rnew_t xs p m c w hx hp hl)
  have NM := Lib.hid (fun X g (h : Rd X g xs false) => rnum_t g xs false 1 X h hb (by decide) (by decide) (by omega))
  obtain ⟨hb1, hl1, hn1⟩ := rNum_bytes xs false 1 hb
  have hG : ∀ j, gotN xs j = fldN (rNum xs false 1).2.1 (rNum xs false 1).2.2 j := fun j => rfl
  have hE : endG xs = endN (stN (rNum xs false 1).2.1 (rNum xs false 1).2.2 (rNum xs false 1).1).1 (stN (rNum xs false 1).2.1 (rNum xs false 1).2.2 (rNum xs false 1).1).2 := rfl
  have hC : cntN xs = (rNum xs false 1).1 := rfl
  obtain ⟨⟨n, ys, bd⟩, hR⟩ : ∃ r, rNum xs false 1 = r := ⟨_, rfl⟩
  simp only [hR] at NM hb1 hl1 hn1 hG hE hC
  have hG2 : gotN xs = fldN ys bd := funext hG
  have OKE := Lib.hid (show getOK xs = (decide (endN (stN ys bd n).1 (stN ys bd n).2 = 0) && mayP n (fldN ys bd)) by unfold getOK; rw [hE, hC, hG2])
  rw [hC, hG2]
  have HB := Lib.hid hb1
  have hl2 : ys.length ≤ 70368744177664 := by omega
  have hn2 : n ≤ 255 := by omega
  obtain ⟨ok, hok⟩ : ∃ r, getOK xs = r := ⟨_, rfl⟩
  rw [hok] at OKE ⊢
  clear hx hp hb hb1 hl1 hn1 hG hE hC hR hG2 hok hl
  go_enter Tryz.func92, Tryz.ntmps92
  go_wp2_with fail
  refine NW.out.mono ?_
  rintro e w1 ⟨g, rfl, hg, x1, b1⟩
  have X1 := Lib.hid x1; have B1 := Lib.hid b1
  have hgl := x1.lt
  clear x1 b1 NW
  go_upto_region 2 with (fail)
  have hcr : ∃ cr, w1.heap.size = cr := ⟨_, rfl⟩
  refine world_at (fun Y => Rd Y g xs false ∧ Y.cell? ⟨w1.heap.size, 0, none⟩ = some (.pointer (some ⟨g, 0, none⟩)) ∧ w1.heap.size < Y.heap.size ∧ Below w.heap.size w Y)
    ⟨X1.out.below ((Below.refl _ _).alloc (Nat.le_refl _) _), (Blk.new w1 49 [.pointer (some ⟨g, 0, none⟩)]).cell 0, by simp, B1.out.alloc (B1.out.size) _⟩ ?_
  rintro Y ⟨xy, cy, hy, bY⟩
  obtain ⟨cr, hcr⟩ := hcr
  rw [hcr] at cy hy hgl ⊢
  have XY := Lib.hid xy; have BY := Lib.hid bY
  clear xy bY X1 B1 hcr
  go_wp2_with fail
  refine (NM.out Y g XY.out).mono ?_
  rintro e w2 ⟨rfl, x2, k2⟩
  have X2 := Lib.hid x2; have B2 := Lib.hid (kept_below BY.out k2 hg)
  have c2 : w2.cell? ⟨cr, 0, none⟩ = some (.pointer (some ⟨g, 0, none⟩)) := (k2.cell (p := ⟨cr, 0, none⟩) hy (by show cr ≠ g; omega)).trans cy
  have hs2 := k2.size
  clear x2 k2 NM XY cy
  have hmk := make_flds n (by omega) w2
  go_upto_region 3 with (fail)
  have b0 := Blk.new w2 158 (rowZ n)
  have ba := (Below.refl w2.heap.size w2).alloc (Nat.le_refl _) (.cells (rowZ n).toArray 158)
  have bb := (Below.refl (w2.alloc (.cells (rowZ n).toArray 158)).heap.size (w2.alloc (.cells (rowZ n).toArray 158))).alloc (Nat.le_refl _) (.cells #[.slice (some ⟨w2.heap.size, 0, none⟩) n n] 77)
  have sz : (w2.alloc (.cells (rowZ n).toArray 158)).heap.size = w2.heap.size + 1 := Array.size_push _
  have cl0 : ((w2.alloc (.cells (rowZ n).toArray 158)).alloc (.cells #[.slice (some ⟨w2.heap.size, 0, none⟩) n n] 77)).cell? ⟨w2.heap.size + 1, 0, none⟩ = some (.slice (some ⟨w2.heap.size, 0, none⟩) n n) := (Blk.new2 w2 _ 77 [.slice (some ⟨w2.heap.size, 0, none⟩) n n]).cell 0
  have hw2 := B2.out.size
  have hgl2 : g < w2.heap.size := by omega
  refine world_at (fun Z => GS w Z cr (w2.heap.size + 1) g w2.heap.size n n ys bd 0)
    ⟨(bb.cell (p := ⟨cr, 0, none⟩) (by show cr < _; omega)).trans ((ba.cell (p := ⟨cr, 0, none⟩) (by show cr < _; omega)).trans c2), cl0, (X2.out.below ba).below bb, by
        show Blk _ _ _ ([] ++ rowZ (n - 0)); rw [List.nil_append, Nat.sub_zero]; exact b0.alloc _,
      ⟨by simp; omega, by simp⟩, ⟨by omega, by omega, by omega, by omega, by omega⟩, ⟨hg, hw2⟩, B2.out.trans ((ba.mono hw2).trans (bb.mono (by omega)))⟩ ?_
  clear b0 ba bb sz cl0 hmk c2 X2 B2 BY
  rintro Z gs
  have GZ := Lib.hid gs
  obtain ⟨gl, hgle⟩ : ∃ gl, w2.heap.size = gl := ⟨_, rfl⟩
  obtain ⟨cl, hcle⟩ : ∃ cl, gl + 1 = cl := ⟨_, rfl⟩
  rw [hgle, hcle] at gs GZ ⊢
  have EV := Lib.hid (every_t 107 #[.pointer (some ⟨cr, 0, none⟩), .pointer (some ⟨cl, 0, none⟩)] n n (some ⟨gl, 0, none⟩) (fun _ => zFt) (fun _ => true) (fun j W => GS w W cr cl g gl n n ys bd j) Z
    (enters_of Tryz.func107 (by kernel_rfl) rfl) (by omega) gs (fun j W W' h hb => h.below hb) (fun j W h hj => h.read hj)
    (fun j W hj _ h => get1_t j zFt h hj (by omega) HB.out hl2))
  have c5 := gs.l
  clear gs hgle hcle hs2 hw2 hgl2 hgl hy
  go_wp2_with fail
  refine EV.out.mono ?_
  rintro e w4 ⟨m', _, rfl, gs, hm⟩
  obtain rfl := hm ((allN_iff _ _).2 (fun _ _ => rfl))
  have hrow := gs.row
  rw [Nat.sub_self, show rowZ 0 = [] from rfl, List.append_nil] at hrow
  have G4 := Lib.hid gs; have RO := Lib.hid hrow
  have MT := Lib.hid (MayTemplate_t m' m' (some ⟨gl, 0, none⟩) (fldN ys bd) w4 (by omega) (rw_of_blk (rest := []) _ (by rw [List.append_nil]; exact hrow)))
  have ET := Lib.hid (end_t g _ _ w4 gs.rd)
  clear c5
  have c4 := gs.r
  have c5 := gs.l
  clear gs hm EV GZ hrow
  obtain ⟨en, hen⟩ : ∃ x, endN (stN ys bd m').1 (stN ys bd m').2 = x := ⟨_, rfl⟩
  rw [hen] at ET OKE
  obtain ⟨mp, hmp⟩ : ∃ x, mayP m' (fldN ys bd) = x := ⟨_, rfl⟩
  rw [hmp] at MT OKE
  clear hen hmp
  go_wp2_with fail
  refine ET.out.mono ?_
  rintro e w5 ⟨rfl, rfl⟩
  by_cases h0 : en = 0
  · subst h0
    go_wp2_with fail
    refine MT.out.mono ?_
    rintro e w6 ⟨rfl, b6⟩
    have G6 := Lib.hid (G4.out.below b6); have R6 := Lib.hid (RO.out.below b6 RO.out.lt)
    clear c4 c5
    have c5 := G6.out.l
    clear G4 RO b6 MT ET
    cases mp with
    | false =>
      go_wp2_with fail
      go_ret2
      exact ⟨G6.out.bel, .inl ⟨by rw [OKE.out]; rfl, rfl⟩⟩
    | true =>
      go_wp2_with fail
      go_ret2
      exact ⟨G6.out.bel, .inr ⟨by rw [OKE.out]; rfl, gl, m', rfl, G6.out.low.2, R6.out⟩⟩
  · have e1 : ((en : Int) != 0) = true := by rw [bne_iff_ne]; omega
    have e2 : decide (en = 0) = false := decide_eq_false h0
    rw [e2] at OKE
    clear MT ET c5 h0 e2 RO
    go_wp2_with fail
    go_ret2
    exact ⟨G4.out.bel, .inl ⟨by rw [OKE.out]; rfl, rfl⟩⟩


theorem bs_str (l : List Nat) (h : Bytes l) : bs (str l) = l := by
  unfold str bs strOfNums
  rw [ByteArray.toList_eq]
  simp only [List.map_map]
  conv => rhs; rw [← List.map_id l]
  refine List.map_congr_left (fun x hx => ?_)
  obtain ⟨i, hi, rfl⟩ := List.getElem_of_mem hx
  have := h i
  rw [gt_of_lt hi] at this
  simp
  omega
theorem rNum_front (v n : Nat) (ys : List Nat) (bad : Bool) (hv : v < 256 ^ n) : rNum (beN v n ++ ys) bad n = (v, ys, bad) := by
  unfold rNum
  rw [if_neg (by rw [List.length_append, beN_length]; omega)]
  rw [List.take_left' (beN_length v n), List.drop_left' (beN_length v n), val_beN, Nat.mod_eq_of_lt hv]
def fOK (l : List Nat) : Bool := l.isEmpty || getOK l
def fNr (l : List Nat) : Nat := if getOK l then cntN l else 0
theorem rTxt_frontG (l ys : List Nat) (bad : Bool) (most : Nat) (hl : l.length ≤ most) (h4 : l.length < 4294967296) : rTxt (txtN l ++ ys) bad most = (l, ys, bad) := by
  unfold rTxt
  rw [txt_len l h4, txt_rest]
  rw [if_pos ⟨by rw [List.length_append, txtN, List.length_append, beN_length]; omega, hl, by rw [List.length_append, txtN, List.length_append, beN_length]; omega⟩]
  rw [List.take_left' rfl, List.drop_left' rfl]
theorem getOK_nil : getOK [] = false := by decide +kernel
end Go.Proofs.YtidklgicmhdapaaGreatDoor
