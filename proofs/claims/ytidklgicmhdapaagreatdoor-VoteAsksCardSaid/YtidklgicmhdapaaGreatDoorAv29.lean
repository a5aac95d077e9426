/-
  PACKAGE genesis
-/
import Derived.Test.YtidklgicmhdapaaGreatDoorAv28
namespace Go.Proofs.YtidklgicmhdapaaGreatDoor
open Go Go.RowKit Sh

def putG (f rd wr : Int) (ks : List (List Nat)) (st : List Nat) : List Nat := beN f.toNat 1 ++ (beN rd.toNat 1 ++ (beN wr.toNat 1 ++ (ks.flatten ++ txtN st)))
def pg (x : Gv) : List Nat := putG x.f x.rd x.wr (x.ks.map (·.X)) x.st
structure MayG (x : Gv) : Prop where
  f0 : 0 ≤ x.f
  f2 : x.f ≤ 2
  r0 : 0 ≤ x.rd
  r1 : x.rd ≤ 15
  w0 : 0 ≤ x.wr
  w1 : x.wr ≤ 15
  n : (x.ks.length : Int) = 3 * x.f + 1
  k : ∀ y ∈ x.ks, formN y.X = true
  st : stB x = true
theorem formN_len {l : List Nat} (h : formN l = true) : l.length = 56 := by
  unfold formN at h
  rw [decide_eq_true_iff] at h
  exact h.1
theorem begB_h {x : Gv} (h : begB x = true) : MayG x := by
  unfold begB fltB alB mayK at h
  simp only [Bool.and_eq_true, decide_eq_true_eq, List.all_eq_true, List.length_map] at h
  obtain ⟨⟨h1, h2⟩, ⟨h3, h4⟩, ⟨h5, h6⟩, ⟨h7, h8⟩, h9⟩ := h
  exact ⟨h1, h2, h3, h4, h5, h6, h7, fun y hy => h8 y.X (List.mem_map_of_mem hy), h9⟩
structure QG9 (w0 w2 W : World) (x : Gv) (l : List Nat) : Prop where
  wr : Wr W (fun k => w2.heap.size ≤ k) w2.heap.size l
  box : Blk W w0.heap.size 41 (gv x)
  lo : w0.heap.size < w2.heap.size
  r2 : GvW w2 x
  bel : Below w0.heap.size w0 w2
  b2 : Below w2.heap.size w2 W
theorem QG9.step {w0 w2 W W' : World} {x : Gv} {l l' : List Nat} (h : QG9 w0 w2 W x l) (hw : Wr W' (fun k => w2.heap.size ≤ k) w2.heap.size l') (hb : Below w2.heap.size W W') : QG9 w0 w2 W' x l' :=
  ⟨hw, h.box.below hb h.lo, h.lo, h.r2, h.bel, h.b2.trans hb⟩
theorem flatten_len {l : List Ky} (h : ∀ y ∈ l, y.X.length = 56) : (l.map (·.X)).flatten.length = 56 * l.length := by
  induction l with
  | nil => rfl
  | cons a l ih =>
    rw [List.map_cons, List.flatten_cons, List.length_append, h a List.mem_cons_self, ih (fun y hy => h y (List.mem_cons_of_mem _ hy)), List.length_cons]
    omega
theorem flatten_snoc {l : List Ky} {j : Nat} {y : Ky} (h : l[j]? = some y) : ((l.take (j + 1)).map (·.X)).flatten = ((l.take j).map (·.X)).flatten ++ y.X := by
  rw [take_snocS h, List.map_append, List.flatten_append]
  simp
set_option maxRecDepth 100000 in
set_option maxHeartbeats 1000000 in
theorem written_t (x : Gv) (w : World) (h : GvW w x) (hm : begB x = true) :
    Calls Tryz.prog 57 #[.agg (gv x).toArray] w fun e w' => ∃ u, e = .returned u ∧ Fresh 5 w w' u (pg x) := by
  have m := begB_h hm
  obtain ⟨a, ha⟩ : ∃ a : Nat, x.f = (a : Int) := ⟨x.f.toNat, by have := m.f0; omega⟩
  obtain ⟨b, hb⟩ : ∃ a : Nat, x.rd = (a : Int) := ⟨x.rd.toNat, by have := m.r0; omega⟩
  obtain ⟨k, hk⟩ : ∃ a : Nat, x.wr = (a : Int) := ⟨x.wr.toNat, by have := m.w0; omega⟩
  obtain ⟨n, hn⟩ : ∃ n, x.ks.length = n := ⟨_, rfl⟩
  obtain ⟨kp, hkp⟩ : ∃ n, x.kp = n := ⟨_, rfl⟩
  have a9 : a ≤ 2 := by have := m.f2; omega
  have b9 : b ≤ 15 := by have := m.r1; omega
  have k9 : k ≤ 15 := by have := m.w1; omega
  have n9 : n ≤ 7 := by have := m.n; omega
  have KL := Lib.hid (fun (y : Ky) (hy : y ∈ x.ks) => formN_len (m.k y hy))
  have E := Lib.hid (show pg x = ((beN a 1 ++ beN b 1) ++ beN k 1) ++ (x.ks.map (·.X)).flatten ++ txtN x.st from by
    unfold pg putG
    rw [ha, hb, hk]
    simp only [Int.toNat_natCast, List.append_assoc])
  obtain ⟨xs, hxs⟩ : ∃ l, pg x = l := ⟨_, rfl⟩
  rw [hxs] at E ⊢
  have SL := Lib.hid h.sl
  have RC := Lib.hid (fun (W : World) (hb : Blk W w.heap.size 41 (gv x)) => gv_cells hb)
  rw [ha, hb, hk, hn, hkp] at RC
  have i1 : IntKind.u64.wrap (a : Int) = (a : Int) := IntWalk.u64_in _ (by omega)
  have i2 : IntKind.u64.wrap (b : Int) = (b : Int) := IntWalk.u64_in _ (by omega)
  have i3 : IntKind.u64.wrap (k : Int) = (k : Int) := IntWalk.u64_in _ (by omega)
  have HN := Lib.hid hn; have HKP := Lib.hid hkp
  have P0 := Lib.hid (show QG9 w (w.alloc (.cells (gv x).toArray 41)) ((w.alloc (.cells (gv x).toArray 41)).alloc (.cells #[.pointer none, .int .i64 0] 66)) x [] from by
    have g0 := GB9.new h
    have bz : Below (w.alloc (.cells (gv x).toArray 41)).heap.size (w.alloc (.cells (gv x).toArray 41)) ((w.alloc (.cells (gv x).toArray 41)).alloc (.cells #[.pointer none, .int .i64 0] 66)) := (Below.refl _ _).alloc (Nat.le_refl _) _
    exact ⟨Wr.new, g0.a.below bz g0.a.lt, g0.a.lt, g0.rx, g0.bel, bz⟩)
  clear h hm m ha hb hk hn hkp hxs
  go_enter Tryz.func57, Tryz.ntmps57
  go_upto_region 2 with (fail)
  obtain ⟨w2, hw2⟩ : ∃ V, w.alloc (.cells (gv x).toArray 41) = V := ⟨_, rfl⟩
  obtain ⟨gw, hgw⟩ : ∃ g, w.heap.size + 1 = g := ⟨_, rfl⟩
  have HGW := Lib.hid (show w2.heap.size = gw from by rw [← hw2, ← hgw]; simp)
  refine world_at (fun Y => QG9 w w2 Y x []) (by rw [← hw2]; exact P0.out) ?_
  rintro Y py
  have PY := Lib.hid py
  clear py P0 hw2
  first | rw [hgw] | skip
  rw [← HGW.out]
  clear hgw HGW
  obtain ⟨c0, _, _, _, _⟩ := RC.out _ PY.out.box
  go_wp2_with fail
  refine (num_s a 1 PY.out.wr (Below.refl _ _) PY.out.b2.size (by omega) (by decide) (by decide) (by simp)).mono ?_
  rintro e w3 ⟨rfl, x2, b2⟩
  have P3 := Lib.hid (PY.out.step x2 b2)
  clear x2 b2 PY
  rw [List.nil_append] at P3
  clear c0
  obtain ⟨_, c1, _, _, _⟩ := RC.out _ P3.out.box
  go_wp2_with fail
  refine (num_s b 1 P3.out.wr (Below.refl _ _) P3.out.b2.size (by omega) (by decide) (by decide) (by rw [beN_length]; omega)).mono ?_
  rintro e w4 ⟨rfl, x2, b2⟩
  have P4 := Lib.hid (P3.out.step x2 b2)
  clear x2 b2 P3
  clear c1
  obtain ⟨_, _, c2, _, _⟩ := RC.out _ P4.out.box
  go_wp2_with fail
  refine (num_s k 1 P4.out.wr (Below.refl _ _) P4.out.b2.size (by omega) (by decide) (by decide) (by simp only [List.length_append, beN_length]; omega)).mono ?_
  rintro e w5 ⟨rfl, x2, b2⟩
  have P5 := Lib.hid (P4.out.step x2 b2)
  clear x2 b2 P4
  clear c2 i1 i2 i3
  obtain ⟨_, _, _, c3, _⟩ := RC.out _ P5.out.box
  obtain ⟨pre, hpre⟩ : ∃ l, (beN a 1 ++ beN b 1) ++ beN k 1 = l := ⟨_, rfl⟩
  have LP := Lib.hid (show pre.length = 3 from by rw [← hpre]; simp only [List.length_append, beN_length])
  rw [hpre] at P5 E
  clear hpre
  go_wp2_with fail
  clear c3
  go_loopw [21] (fun t wr => ∃ j : Nat, j ≤ n ∧ t = .int .i64 (j : Int) ∧ QG9 w w2 wr x (pre ++ ((x.ks.take j).map (·.X)).flatten)) (fun t _ => n - (intOf t).toNat)
  case atStart => exact ⟨0, by omega, rfl, by rw [List.take_zero, List.map_nil, List.flatten_nil, List.append_nil]; exact P5.out⟩
  case round =>
    clear P5
    obtain ⟨j, hj, rfl, pj⟩ := hrel
    have PJ := Lib.hid pj
    clear pj
    have LJ := Lib.hid (show (pre ++ ((x.ks.take j).map (·.X)).flatten).length ≤ 3 + 56 * 7 from by
      have h1 := flatten_len (l := x.ks.take j) (fun y hy => KL.out y (List.mem_of_mem_take hy))
      have h2 : (x.ks.take j).length ≤ 7 := by rw [List.length_take]; omega
      rw [List.length_append, LP.out, h1]
      omega)
    by_cases hlt : j < n
    · obtain ⟨y, hy⟩ : ∃ y, x.ks[j]? = some y := ⟨_, List.getElem?_eq_getElem (by rw [HN.out]; exact hlt)⟩
      obtain ⟨bq, o, hpe, hbl, rg⟩ := (PJ.out.r2.below PJ.out.b2).ks j y hy
      obtain rfl : kp = some ⟨bq, o, none⟩ := HKP.out.symm.trans hpe
      have c1 : wr.cell? ⟨bq, o + j, none⟩ = some (.slice y.A y.X.length y.c) := by have := rg 0 _ rfl; rw [Nat.mul_one, Nat.add_zero] at this; exact this
      have j1 : (j : Int) < (n : Int) := by omega
      have HY := Lib.hid hy
      have HM := List.mem_of_getElem? hy
      have RW_ := Lib.hid (raw_s y.X y.A y.X.length y.c PJ.out.wr (Below.refl _ _) PJ.out.b2.size rfl ((PJ.out.r2.k y HM).below PJ.out.b2) (by have := LJ.out; have := KL.out y HM; omega))
      clear rg hpe hbl hy HM
      go_wp2_with fail
      refine RW_.out.mono ?_
      rintro e w7 ⟨rfl, x7, b7⟩
      have P7 := Lib.hid (PJ.out.step x7 b7)
      clear x7 b7 RW_ PJ c1
      go_wp2_with fail
      go_roundw
      case rel => exact ⟨j + 1, by omega, by go_num, by rw [flatten_snoc HY.out, ← List.append_assoc]; exact P7.out⟩
      case measure => simp [intOf]; omega
    · obtain rfl : j = n := by omega
      clear hlt
      rw [List.take_of_length_le (by rw [HN.out]; exact Nat.le_refl _)] at PJ LJ
      obtain ⟨_, _, _, _, c4⟩ := RC.out _ PJ.out.box
      have TX := Lib.hid (text_s x.st x.sp x.st.length x.sc PJ.out.wr (Below.refl _ _) PJ.out.b2.size rfl (PJ.out.r2.st.below PJ.out.b2) (fun hx a ha => .inl (PJ.out.r2.st.lt hx a ha)) (by have := LJ.out; have := SL.out; omega))
      go_wp2_with fail
      refine TX.out.mono ?_
      rintro e w8 ⟨rfl, x8, b8⟩
      have P8 := Lib.hid (PJ.out.step x8 b8)
      rw [← E.out] at P8
      have LX := Lib.hid (show xs.length ≤ 70368744177664 from by rw [E.out, List.length_append]; have := LJ.out; have := SL.out; show _ + (txtN x.st).length ≤ _; rw [show (txtN x.st).length = 4 + x.st.length by unfold txtN; rw [List.length_append, beN_length]]; omega)
      clear x8 b8 TX PJ c4
      go_wp2_with fail
      refine (wbytes_t _ w2.heap.size xs w8 P8.out.wr LX.out).mono ?_
      rintro e w9 ⟨v, rfl, fr⟩
      have hs := P8.out.bel.trans (P8.out.b2.mono P8.out.bel.size)
      have FR := Lib.hid (show Fresh 5 w w9 v xs from ⟨own_base fr.1 (fun k hk => Nat.le_trans hs.size (fr.1.lt k hk).1), hs.trans (fr.2.mono hs.size)⟩)
      clear fr P8 hs
      go_wp2_with fail
      go_ret
      exact ⟨v, rfl, FR.out⟩
end Go.Proofs.YtidklgicmhdapaaGreatDoor
