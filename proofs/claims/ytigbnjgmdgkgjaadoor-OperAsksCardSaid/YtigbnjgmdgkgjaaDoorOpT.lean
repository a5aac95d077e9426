/-
  told of chapter 7; Few.
-/
import Derived.Test.YtigbnjgmdgkgjaaDoorOpH
import Derived.Test.YtigbnjgmdgkgjaaDoorOpF
import Derived.Test.YtigbnjgmdgkgjaaDoorOpS
namespace Go.Proofs.YtigbnjgmdgkgjaaDoor
open Go Go.RowKit Sh

def tH : Nat → Fld := fun _ => ⟨1, 0, eS⟩
/-- The law's request. -/
def tRv (g : Nat) : Rv := ⟨⟨1, 2, 1, 3, 0, zG, 1, tH⟩, none, 0, some ⟨g, 0, none⟩, 1⟩
theorem tRv_may (g : Nat) : mayR (tRv g).r = true := by
  show mayR ⟨1, 2, 1, 3, 0, zG, 1, tH⟩ = true
  decide +kernel
theorem tRv_in (g : Nat) : InRq (tRv g).r := ⟨fun j hj => absurd hj (Nat.not_lt_zero j), fun j _ => (show (-9223372036854775808 : Int) ≤ 0 ∧ (0 : Int) ≤ 9223372036854775807 by decide)⟩
theorem built_f1 : Tryd.prog.built 40 [(0, .int .i64 1)] = some (fv ⟨1, 0, eS⟩).toArray := by kernel_rfl
theorem built_tr (g : Nat) : Tryd.prog.built 24 [(0, .int .i64 1), (1, .int .i64 2), (2, .int .i64 1), (4, .slice (some ⟨g, 0, none⟩) 1 1), (5, .int .i64 3)] = some (rv (tRv g)).toArray := by kernel_rfl
theorem built_n8 : Tryd.prog.built 24 [(1, .int .i64 1), (2, .int .i64 8)] = some (rv (nRv 0 1 8 0)).toArray := by kernel_rfl
theorem n8_may : mayR (nRv 0 1 8 0).r = true := by decide +kernel
theorem zRv_may : mayR zRv.r = false := by decide +kernel
theorem nRv_w (a b c d : Int) (w : World) : RvW w (nRv a b c d) := ⟨Rw.nil, Rw.nil, Nat.zero_le _, Nat.zero_le _⟩
/-- What told has in hand. -/
structure OT (w0 W : World) (g b1 : Nat) : Prop where
  box : Blk W b1 24 (rv (tRv g))
  rx : RvW W (tRv g)
  ut : UT W
  bel : Below w0.heap.size w0 W
theorem OT.below {w0 W W' : World} {g b1 : Nat} (h : OT w0 W g b1) (hb : Below W.heap.size W W') : OT w0 W' g b1 := ⟨h.box.below hb h.box.lt, h.rx.below hb, h.ut.below hb, h.bel.trans (hb.mono h.bel.size)⟩
/-- And the one that came back. -/
structure OU (W : World) (b2 : Nat) (y : Rv) : Prop where
  box : Blk W b2 24 (rv y)
  rx : RvW W y
theorem OU.below {W W' : World} {b2 : Nat} {y : Rv} (h : OU W b2 y) (hb : Below W.heap.size W W') : OU W' b2 y := ⟨h.box.below hb h.box.lt, h.rx.below hb⟩
set_option maxRecDepth 100000 in
set_option maxHeartbeats 1000000 in
theorem otold_t (w : World) (hu : UT w) : Calls Tryd.prog 8 #[] w fun e w' => e = .returned (.bool true) ∧ Below w.heap.size w w' := by
  have BA := (Below.refl w.heap.size w).alloc (Nat.le_refl _) (.cells (rowC tH 1).toArray 40)
  have BB := BA.alloc (by simp) (.cells (rv (tRv w.heap.size)).toArray 24)
  have O0 := Lib.hid (show OT w ((w.alloc (.cells (rowC tH 1).toArray 40)).alloc (.cells (rv (tRv w.heap.size)).toArray 24)) w.heap.size (w.heap.size + 1) from
    ⟨Blk.new2 w _ _ _, ⟨Rw.nil, rw_of_blk (n := 1) (rest := []) tH (by rw [List.append_nil]; exact ((Blk.new w 40 (rowC tH 1)).alloc _)), Nat.zero_le _, (show 1 ≤ 9223372036854775807 by decide)⟩, hu.below BB, BB⟩)
  have F1 := built_f1
  have F2 := built_tr w.heap.size
  clear BA BB
  go_enter Tryd.func8, Tryd.ntmps8
  go_upto_region 2 with (fail)
  refine world_at (fun Y => OT w Y w.heap.size (w.heap.size + 1)) O0.out ?_
  rintro Y h
  obtain ⟨a, ha⟩ : ∃ a, w.heap.size = a := ⟨_, rfl⟩
  obtain ⟨b, hb⟩ : ∃ b, a + 1 = b := ⟨_, rfl⟩
  rw [ha, hb] at h ⊢
  have H := Lib.hid h
  have HX := Lib.hid h.box
  clear h ha hb O0 F1 F2 hu
  go_wp2_with ((with_reducible refine load_blk_gdO 12 24 (.tmp 1) b 24 (rv (tRv a)) _ ?_ ?_ rfl ?_ Tryd.underlying24 ?_ ?_ ?_ ?_); exact rfl; kernel_rfl; exact HX.out; exact rfl; exact rv_size (tRv a); exact rfl)
  refine (PutR_yes (tRv a) Y H.out.ut H.out.rx (tRv_may a)).mono ?_
  rintro e w1 ⟨u, rfl, o1, b1⟩
  obtain ⟨A, c, rfl, hc⟩ := own_form o1
  have H1 := Lib.hid (H.out.below b1); have S1 := Lib.hid (Sr.of_own o1)
  have PB := Lib.hid (putR_bytes (tRv a).r)
  have PL := Lib.hid (putR_length (tRv_may a))
  have FO := Lib.hid (frontR_ok (tRv_may a) (tRv_in a))
  obtain ⟨xs, hxs⟩ : ∃ xs, putR (tRv a).r = xs := ⟨_, rfl⟩
  rw [hxs] at S1 PB PL FO ⊢
  clear o1 b1 hc hxs H HX
  go_wp2_with fail
  refine (Get_r xs A xs.length c w1 rfl S1.out PB.out (by have := PL.out; omega) H1.out.ut).mono ?_
  rintro e w2 ⟨b2, hh⟩
  rcases hh with ⟨h1, _⟩ | ⟨_, y, hy, rfl, ry⟩
  · rw [FO.out.1] at h1; cases h1
  have SY := Lib.hid (show sameR y.r (tRv a).r = true by rw [hy]; exact sameR_symm FO.out.2)
  have Z2 := Lib.hid (Blk.new w2 24 (rv zRv))
  have bz : Below w2.heap.size w2 ((w2.alloc (.cells (rv zRv).toArray 24)).setRow w2.heap.size (rv y).toArray) := below_setRow ((Below.refl _ _).alloc (Nat.le_refl _) _) (Nat.le_refl _) _
  have H2 := Lib.hid ((H1.out.below b2).below bz)
  have Y2 := Lib.hid (show OU ((w2.alloc (.cells (rv zRv).toArray 24)).setRow w2.heap.size (rv y).toArray) w2.heap.size y from ⟨Z2.out.setRow (rv y), ry.below bz⟩)
  have FO2 := Lib.hid (rv_one y)
  have BZ := built_rz
  clear ry b2 hy S1 PB PL FO H1 bz
  go_upto_region 4 with ((with_reducible refine store_blk 24 (.tmp 4) (.tmp 19) w2.heap.size 24 (rv zRv) (rv y) rfl rfl ?_ ?_ ?_ ?_ ?_ ?_ ?_); exact Z2.out; exact rfl; exact rv_size y; exact FO2.out; exact rfl; exact rfl)
  refine world_at (fun Z => OT w Z a b ∧ OU Z w2.heap.size y) ⟨H2.out, Y2.out⟩ ?_
  rintro Z ⟨hz, uz⟩
  obtain ⟨d, hd⟩ : ∃ d, w2.heap.size = d := ⟨_, rfl⟩
  rw [hd] at uz ⊢
  have HZ := Lib.hid hz; have UZ := Lib.hid uz
  clear hz uz H2 Y2 hd
  go_wp2_with fail
  refine (PutR_no zRv Z HZ.out.ut (zRv_w _) zRv_may).mono ?_
  rintro e w3 ⟨rfl, b3⟩
  have H3 := Lib.hid (HZ.out.below b3); have Y3 := Lib.hid (UZ.out.below b3)
  have X3 := Lib.hid H3.out.box
  clear b3 HZ UZ
  go_wp2_with ((with_reducible refine load_blk_gdO 26 24 (.tmp 1) b 24 (rv (tRv a)) _ ?_ ?_ rfl ?_ Tryd.underlying24 ?_ ?_ ?_ ?_); exact rfl; kernel_rfl; exact X3.out; exact rfl; exact rv_size (tRv a); exact rfl)
  refine (May_r (tRv a) w3 H3.out.ut H3.out.rx).mono ?_
  rintro e w4 ⟨rfl, b4⟩
  rw [tRv_may a]
  have H4 := Lib.hid (H3.out.below b4); have Y4 := Lib.hid (Y3.out.below b4)
  clear b4 H3 Y3 X3
  go_wp2_with fail
  refine (Reads_t 5 w4 H4.out.ut).mono ?_
  rintro e w5 ⟨rfl, rfl⟩
  rw [show rdK 5 = true from rfl]
  go_wp2_with fail
  refine (Writes_t 5 w4 H4.out.ut).mono ?_
  rintro e w5 ⟨rfl, rfl⟩
  rw [show wrK 5 = true from rfl]
  go_wp2_with fail
  refine (Writes_t 4 w4 H4.out.ut).mono ?_
  rintro e w5 ⟨rfl, rfl⟩
  rw [show wrK 4 = false from rfl]
  go_wp2_with fail
  refine (Reads_t 8 w4 H4.out.ut).mono ?_
  rintro e w5 ⟨rfl, rfl⟩
  rw [show rdK 8 = false from rfl]
  have X4 := Lib.hid H4.out.box; have Z4 := Lib.hid Y4.out.box
  go_wp2_with (first
    | ((with_reducible refine load_blk_gdO 51 24 (.tmp 4) d 24 (rv y) _ ?_ ?_ rfl ?_ Tryd.underlying24 ?_ ?_ ?_ ?_); exact rfl; kernel_rfl; exact Z4.out; exact rfl; exact rv_size y; exact rfl)
    | ((with_reducible refine load_blk_gdO 52 24 (.tmp 1) b 24 (rv (tRv a)) _ ?_ ?_ rfl ?_ Tryd.underlying24 ?_ ?_ ?_ ?_); exact rfl; kernel_rfl; exact X4.out; exact rfl; exact rv_size (tRv a); exact rfl))
  refine (Same_r y (tRv a) w4 Y4.out.rx H4.out.rx).mono ?_
  rintro e w6 ⟨rfl, b6⟩
  rw [SY.out]
  have H6 := Lib.hid (H4.out.below b6)
  have BN := built_n8
  clear b6 H4 Y4 X4 Z4
  go_wp2_with fail
  refine (May_r (nRv 0 1 8 0) w6 H6.out.ut (nRv_w _ _ _ _ _)).mono ?_
  rintro e w7 ⟨rfl, b7⟩
  rw [n8_may]
  have H7 := Lib.hid (H6.out.below b7)
  clear b7 H6
  go_wp2_with fail
  go_ret
  exact ⟨rfl, H7.out.bel⟩
def fewR (x : Rv) : Bool := fewL x.r.n x.r.G && fewL x.r.m x.r.H
theorem fewR_t (x : Rv) (w : World) (h : RvW w x) : Calls Tryd.prog 7 #[.agg (rv x).toArray] w fun e w' => e = .returned (.bool (fewR x)) ∧ Below w.heap.size w w' := by
  have B0 := Lib.hid (Blk.new w 24 (rv x))
  have BW := Lib.hid ((Below.refl w.heap.size w).alloc (Nat.le_refl _) (.cells (rv x).toArray 24))
  have F1 := Lib.hid (few_t x.r.n x.c x.p x.r.G _ h.n (h.below BW.out).p)
  have F2 := Lib.hid (few_t x.r.m x.d x.t x.r.H _ h.m (h.below BW.out).t)
  have hf : fewR x = (fewL x.r.n x.r.G && fewL x.r.m x.r.H) := rfl
  obtain ⟨_, _, _, c3, c4, _⟩ := rv_cells B0.out
  obtain ⟨f1, h1⟩ : ∃ b, fewL x.r.n x.r.G = b := ⟨_, rfl⟩
  obtain ⟨f2, h2⟩ : ∃ b, fewL x.r.m x.r.H = b := ⟨_, rfl⟩
  rw [h1] at F1 hf
  rw [h2] at F2 hf
  rw [hf]
  clear h h1 h2 hf
  cases f1 with
  | false =>
    go_enter Tryd.func7, Tryd.ntmps7
    go_wp2_with fail
    refine F1.out.mono ?_
    rintro e w2 ⟨rfl, rfl⟩
    go_wp2_with fail
    go_ret
    exact ⟨rfl, BW.out⟩
  | true =>
    go_enter Tryd.func7, Tryd.ntmps7
    go_wp2_with fail
    refine F1.out.mono ?_
    rintro e w2 ⟨rfl, rfl⟩
    go_wp2_with fail
    refine F2.out.mono ?_
    rintro e w2 ⟨rfl, rfl⟩
    go_wp2_with fail
    go_ret
    exact ⟨rfl, BW.out⟩
end Go.Proofs.YtigbnjgmdgkgjaaDoor
