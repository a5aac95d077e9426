/-
  OperKinds walked.
-/
import Derived.Test.YtigbnjgmdgkgjaaDoorOpTurned
namespace Go.Proofs.YtigbnjgmdgkgjaaDoor
open Go Go.RowKit Sh

def kG : Nat → Fld := fun _ => ⟨5, 0, eS⟩
def xB : ByteArray := { data := #[120] }
def kH : Nat → Fld := fun _ => ⟨2, 0, xB⟩
theorem built_fk : Tryd.prog.built 40 [(0, .int .i64 5)] = some (fv ⟨5, 0, eS⟩).toArray := by kernel_rfl
theorem built_ft : Tryd.prog.built 40 [(0, .int .i64 2), (2, .string { data := #[120] })] = some (fv ⟨2, 0, xB⟩).toArray := by kernel_rfl
theorem built_rk (k : Int) : Tryd.prog.built 24 [(0, .int .i64 2), (1, .int .i64 9), (2, .int .i64 k)] = some (rv (nRv 2 9 k 0)).toArray := by kernel_rfl
/-- Where the law stands with its request. -/
structure KQ (w0 W : World) (g : Nat) (x : Rv) : Prop where
  box : Blk W g 24 (rv x)
  p : Rw W x.p x.r.n x.r.G
  t : Rw W x.t x.r.m x.r.H
  n : x.r.n ≤ 1
  m : x.r.m ≤ 1
  fp : ∀ a : Addr, x.p = some a → a.block ≠ g
  ft : ∀ a : Addr, x.t = some a → a.block ≠ g
  lo : w0.heap.size ≤ g
  ut : UT w0
  bel : Below w0.heap.size w0 W
theorem KQ.below {w0 W W' : World} {g : Nat} {x : Rv} (h : KQ w0 W g x) (hb : Below W.heap.size W W') : KQ w0 W' g x :=
  ⟨h.box.below hb h.box.lt, h.p.below hb, h.t.below hb, h.n, h.m, h.fp, h.ft, h.lo, h.ut, h.bel.trans (hb.mono h.bel.size)⟩
theorem KQ.rx {w0 W : World} {g : Nat} {x : Rv} (h : KQ w0 W g x) : RvW W x := ⟨h.p, h.t, by have := h.n; omega, by have := h.m; omega⟩
theorem KQ.setP {w0 W : World} {g : Nat} {k : Int} (h : KQ w0 W g (nRv 2 9 k 0)) :
    KQ w0 ((W.alloc (.cells (rowC kG 1).toArray 40)).setCell ⟨g, 3, none⟩ (.slice (some ⟨W.heap.size, 0, none⟩) 1 1)) g ⟨⟨2, 9, k, 0, 1, kG, 0, zG⟩, some ⟨W.heap.size, 0, none⟩, 1, none, 0⟩ := by
  have hb : Below W.heap.size W (W.alloc (.cells (rowC kG 1).toArray 40)) := (Below.refl _ _).alloc (Nat.le_refl _) _
  have hr : Rw (W.alloc (.cells (rowC kG 1).toArray 40)) (some ⟨W.heap.size, 0, none⟩) 1 kG := rw_of_blk (rest := []) kG (by rw [List.append_nil]; exact Blk.new W _ _)
  have hk : Kept (fun k => k = g) (W.alloc (.cells (rowC kG 1).toArray 40)) ((W.alloc (.cells (rowC kG 1).toArray 40)).setCell ⟨g, 3, none⟩ (.slice (some ⟨W.heap.size, 0, none⟩) 1 1)) := Kept.setCell (F := fun k => k = g) (Kept.refl _ _) (p := ⟨g, 3, none⟩) (.inl rfl) _
  have hl := h.box.lt
  exact ⟨(h.box.below hb hl).store 3 _, hr.kept hk (fun a ha e => by cases ha; exact absurd e (show W.heap.size ≠ g by omega)), Rw.nil, Nat.le_refl _, Nat.zero_le _, (fun a ha => by cases ha; exact (show W.heap.size ≠ g by omega)), (fun a ha => by cases ha), h.lo, h.ut,
    kept_below (h.bel.trans (hb.mono h.bel.size)) hk h.lo⟩
theorem KQ.setT {w0 W : World} {g : Nat} {k : Int} {n c : Nat} {A : Option Addr} {G : Nat → Fld} (h : KQ w0 W g ⟨⟨2, 9, k, 0, n, G, 0, zG⟩, A, c, none, 0⟩) :
    KQ w0 ((W.alloc (.cells (rowC kH 1).toArray 40)).setCell ⟨g, 4, none⟩ (.slice (some ⟨W.heap.size, 0, none⟩) 1 1)) g ⟨⟨2, 9, k, 0, n, G, 1, kH⟩, A, c, some ⟨W.heap.size, 0, none⟩, 1⟩ := by
  have hb : Below W.heap.size W (W.alloc (.cells (rowC kH 1).toArray 40)) := (Below.refl _ _).alloc (Nat.le_refl _) _
  have hr : Rw (W.alloc (.cells (rowC kH 1).toArray 40)) (some ⟨W.heap.size, 0, none⟩) 1 kH := rw_of_blk (rest := []) kH (by rw [List.append_nil]; exact Blk.new W _ _)
  have hk : Kept (fun k => k = g) (W.alloc (.cells (rowC kH 1).toArray 40)) ((W.alloc (.cells (rowC kH 1).toArray 40)).setCell ⟨g, 4, none⟩ (.slice (some ⟨W.heap.size, 0, none⟩) 1 1)) := Kept.setCell (F := fun k => k = g) (Kept.refl _ _) (p := ⟨g, 4, none⟩) (.inl rfl) _
  have hl := h.box.lt
  exact ⟨(h.box.below hb hl).store 4 _, (h.p.below hb).kept hk (fun a ha e => h.fp a ha e), hr.kept hk (fun a ha e => by cases ha; exact absurd e (show W.heap.size ≠ g by omega)), h.n, Nat.le_refl _, h.fp, (fun a ha => by cases ha; exact (show W.heap.size ≠ g by omega)), h.lo, h.ut,
    kept_below (h.bel.trans (hb.mono h.bel.size)) hk h.lo⟩
theorem KQ.setL {w0 W : World} {g : Nat} {k : Int} {n c m d : Nat} {A B : Option Addr} {G H : Nat → Fld} (h : KQ w0 W g ⟨⟨2, 9, k, 0, n, G, m, H⟩, A, c, B, d⟩) :
    KQ w0 (W.setCell ⟨g, 5, none⟩ (.int .i64 5)) g ⟨⟨2, 9, k, 5, n, G, m, H⟩, A, c, B, d⟩ := by
  have hk : Kept (fun k => k = g) W (W.setCell ⟨g, 5, none⟩ (.int .i64 5)) := Kept.setCell (F := fun k => k = g) (Kept.refl _ _) (p := ⟨g, 5, none⟩) (.inl rfl) _
  exact ⟨h.box.store 5 _, h.p.kept hk (fun a ha e => h.fp a ha e), h.t.kept hk (fun a ha e => h.ft a ha e), h.n, h.m, h.fp, h.ft, h.lo, h.ut, kept_below h.bel hk h.lo⟩
set_option maxRecDepth 100000 in
set_option maxHeartbeats 40000000 in
theorem okinds_t (kind : Int) (p t lease : Bool) (w : World) (hu : UT w) :
    Calls Tryd.prog 5 #[.int .i64 kind, .bool p, .bool t, .bool lease] w fun e w' => e = .returned (.bool true) ∧ Below w.heap.size w w' := by
  obtain ⟨k0, hk, hke⟩ := mod_bigT 8 (by decide) (by decide) kind
  rw [show ((8 : Nat) : Int) = 8 from rfl] at hke
  obtain ⟨k, hkk⟩ : ∃ k, k0 + 1 = k := ⟨_, rfl⟩
  have hk1 : 1 ≤ k := by omega
  have hk9 : k ≤ 8 := by omega
  have hke1 : wrap64 (1 + (k0 : Int)) = (k : Int) := by unfold wrap64; omega
  have Q0 := Lib.hid (show KQ w (w.alloc (.cells (rv (nRv 2 9 (k : Int) 0)).toArray 24)) w.heap.size (nRv 2 9 (k : Int) 0) from
    ⟨Blk.new w _ _, Rw.nil, Rw.nil, Nat.zero_le _, Nat.zero_le _, (fun a ha => by cases ha), (fun a ha => by cases ha), Nat.le_refl _, hu, (Below.refl _ _).alloc (Nat.le_refl _) _⟩)
  have BK := built_rk (k : Int)
  have BF := built_fk
  have BT := built_ft
  clear hu hk hkk
  go_enter Tryd.func5, Tryd.ntmps5
  go_upto_region 3 with (fail)
  simp only [hke, hke1]
  refine world_at (fun Y => KQ w Y w.heap.size (nRv 2 9 (k : Int) 0)) Q0.out ?_
  clear Q0 hke hke1 BK
  rintro Y qx
  obtain ⟨g, hg⟩ : ∃ g, w.heap.size = g := ⟨_, rfl⟩
  rw [hg] at qx ⊢
  have QX := Lib.hid qx
  clear qx hg
  cases p with
  | false =>
    cases t with
    | false =>
      cases lease with
      | false =>
        go_upto_region 9 with (fail)
        refine world_at (fun Y => KQ w Y g ⟨⟨2, 9, (k : Int), 0, 0, zG, 0, zG⟩, none, 0, none, 0⟩) QX.out ?_
        clear QX
        rintro V qx
        have QX := Lib.hid qx
        clear qx
        obtain ⟨x, hxe⟩ : ∃ x : Rv, ⟨⟨2, 9, (k : Int), 0, 0, zG, 0, zG⟩, none, 0, none, 0⟩ = x := ⟨_, rfl⟩
        rw [hxe] at QX
        have hxr : x.r = ⟨2, 9, (k : Int), 0, 0, zG, 0, zG⟩ := by rw [← hxe]
        clear hxe
        have hk8 : k = 1 ∨ k = 2 ∨ k = 3 ∨ k = 4 ∨ k = 5 ∨ k = 6 ∨ k = 7 ∨ k = 8 := by omega
        have QV := QX
        clear QX hk1 hk9
        rcases hk8 with rfl | rfl | rfl | rfl | rfl | rfl | rfl | rfl
        · have HXE := Lib.hid (hxr.trans (show _ = (⟨2, 9, 1, 0, 0, zG, 0, zG⟩ : Rq) from rfl))
          clear hxr
          go_wp2_with fail
          refine (Reads_t 1 V (QV.out.ut.below QV.out.bel)).mono ?_
          rintro e w1 ⟨rfl, rfl⟩
          first | rw [show rdK 1 = true from rfl] | rw [show rdK 1 = false from rfl]
          go_wp2_with fail
          refine (otold_t V (QV.out.ut.below QV.out.bel)).mono ?_
          rintro e w2 ⟨rfl, b2⟩
          have Q2 := Lib.hid (QV.out.below b2)
          have X2 := Lib.hid Q2.out.box
          clear b2 QV
          go_wp2_with ((with_reducible refine load_blk_gdO 58 24 (.tmp 10) g 24 (rv x) _ ?_ ?_ rfl ?_ Tryd.underlying24 ?_ ?_ ?_ ?_); exact rfl; kernel_rfl; exact X2.out; exact rfl; exact rv_size x; exact rfl)
          refine (May_r x w2 (Q2.out.ut.below Q2.out.bel) Q2.out.rx).mono ?_
          rintro e w3 ⟨rfl, b3⟩
          rw [HXE.out]
          first | rw [show mayR ⟨2, 9, 1, 0, 0, zG, 0, zG⟩ = true from by decide +kernel] | rw [show mayR ⟨2, 9, 1, 0, 0, zG, 0, zG⟩ = false from by decide +kernel]
          have Q3 := Lib.hid (Q2.out.below b3)
          clear b3 Q2 X2
          go_wp2_with fail
          refine (Writes_t 1 w3 (Q3.out.ut.below Q3.out.bel)).mono ?_
          rintro e w4 ⟨rfl, rfl⟩
          first | rw [show wrK 1 = true from rfl] | rw [show wrK 1 = false from rfl]
          go_wp2_with fail
          go_ret
          exact ⟨rfl, Q3.out.bel⟩
        · have HXE := Lib.hid (hxr.trans (show _ = (⟨2, 9, 2, 0, 0, zG, 0, zG⟩ : Rq) from rfl))
          clear hxr
          go_wp2_with fail
          refine (Reads_t 2 V (QV.out.ut.below QV.out.bel)).mono ?_
          rintro e w1 ⟨rfl, rfl⟩
          first | rw [show rdK 2 = true from rfl] | rw [show rdK 2 = false from rfl]
          go_wp2_with fail
          refine (otold_t V (QV.out.ut.below QV.out.bel)).mono ?_
          rintro e w2 ⟨rfl, b2⟩
          have Q2 := Lib.hid (QV.out.below b2)
          have X2 := Lib.hid Q2.out.box
          clear b2 QV
          go_wp2_with ((with_reducible refine load_blk_gdO 58 24 (.tmp 10) g 24 (rv x) _ ?_ ?_ rfl ?_ Tryd.underlying24 ?_ ?_ ?_ ?_); exact rfl; kernel_rfl; exact X2.out; exact rfl; exact rv_size x; exact rfl)
          refine (May_r x w2 (Q2.out.ut.below Q2.out.bel) Q2.out.rx).mono ?_
          rintro e w3 ⟨rfl, b3⟩
          rw [HXE.out]
          first | rw [show mayR ⟨2, 9, 2, 0, 0, zG, 0, zG⟩ = true from by decide +kernel] | rw [show mayR ⟨2, 9, 2, 0, 0, zG, 0, zG⟩ = false from by decide +kernel]
          have Q3 := Lib.hid (Q2.out.below b3)
          clear b3 Q2 X2
          go_wp2_with fail
          refine (Writes_t 2 w3 (Q3.out.ut.below Q3.out.bel)).mono ?_
          rintro e w4 ⟨rfl, rfl⟩
          first | rw [show wrK 2 = true from rfl] | rw [show wrK 2 = false from rfl]
          go_wp2_with fail
          go_ret
          exact ⟨rfl, Q3.out.bel⟩
        · have HXE := Lib.hid (hxr.trans (show _ = (⟨2, 9, 3, 0, 0, zG, 0, zG⟩ : Rq) from rfl))
          clear hxr
          go_wp2_with fail
          refine (Reads_t 3 V (QV.out.ut.below QV.out.bel)).mono ?_
          rintro e w1 ⟨rfl, rfl⟩
          first | rw [show rdK 3 = true from rfl] | rw [show rdK 3 = false from rfl]
          go_wp2_with fail
          refine (otold_t V (QV.out.ut.below QV.out.bel)).mono ?_
          rintro e w2 ⟨rfl, b2⟩
          have Q2 := Lib.hid (QV.out.below b2)
          have X2 := Lib.hid Q2.out.box
          clear b2 QV
          go_wp2_with ((with_reducible refine load_blk_gdO 58 24 (.tmp 10) g 24 (rv x) _ ?_ ?_ rfl ?_ Tryd.underlying24 ?_ ?_ ?_ ?_); exact rfl; kernel_rfl; exact X2.out; exact rfl; exact rv_size x; exact rfl)
          refine (May_r x w2 (Q2.out.ut.below Q2.out.bel) Q2.out.rx).mono ?_
          rintro e w3 ⟨rfl, b3⟩
          rw [HXE.out]
          first | rw [show mayR ⟨2, 9, 3, 0, 0, zG, 0, zG⟩ = true from by decide +kernel] | rw [show mayR ⟨2, 9, 3, 0, 0, zG, 0, zG⟩ = false from by decide +kernel]
          have Q3 := Lib.hid (Q2.out.below b3)
          clear b3 Q2 X2
          go_wp2_with fail
          refine (Writes_t 3 w3 (Q3.out.ut.below Q3.out.bel)).mono ?_
          rintro e w4 ⟨rfl, rfl⟩
          first | rw [show wrK 3 = true from rfl] | rw [show wrK 3 = false from rfl]
          go_wp2_with fail
          go_ret
          exact ⟨rfl, Q3.out.bel⟩
        · have HXE := Lib.hid (hxr.trans (show _ = (⟨2, 9, 4, 0, 0, zG, 0, zG⟩ : Rq) from rfl))
          clear hxr
          go_wp2_with fail
          refine (Reads_t 4 V (QV.out.ut.below QV.out.bel)).mono ?_
          rintro e w1 ⟨rfl, rfl⟩
          first | rw [show rdK 4 = true from rfl] | rw [show rdK 4 = false from rfl]
          go_wp2_with fail
          refine (otold_t V (QV.out.ut.below QV.out.bel)).mono ?_
          rintro e w2 ⟨rfl, b2⟩
          have Q2 := Lib.hid (QV.out.below b2)
          have X2 := Lib.hid Q2.out.box
          clear b2 QV
          go_wp2_with ((with_reducible refine load_blk_gdO 58 24 (.tmp 10) g 24 (rv x) _ ?_ ?_ rfl ?_ Tryd.underlying24 ?_ ?_ ?_ ?_); exact rfl; kernel_rfl; exact X2.out; exact rfl; exact rv_size x; exact rfl)
          refine (May_r x w2 (Q2.out.ut.below Q2.out.bel) Q2.out.rx).mono ?_
          rintro e w3 ⟨rfl, b3⟩
          rw [HXE.out]
          first | rw [show mayR ⟨2, 9, 4, 0, 0, zG, 0, zG⟩ = true from by decide +kernel] | rw [show mayR ⟨2, 9, 4, 0, 0, zG, 0, zG⟩ = false from by decide +kernel]
          have Q3 := Lib.hid (Q2.out.below b3)
          clear b3 Q2 X2
          go_wp2_with fail
          refine (Writes_t 4 w3 (Q3.out.ut.below Q3.out.bel)).mono ?_
          rintro e w4 ⟨rfl, rfl⟩
          first | rw [show wrK 4 = true from rfl] | rw [show wrK 4 = false from rfl]
          go_wp2_with fail
          go_ret
          exact ⟨rfl, Q3.out.bel⟩
        · have HXE := Lib.hid (hxr.trans (show _ = (⟨2, 9, 5, 0, 0, zG, 0, zG⟩ : Rq) from rfl))
          clear hxr
          go_wp2_with fail
          refine (Reads_t 5 V (QV.out.ut.below QV.out.bel)).mono ?_
          rintro e w1 ⟨rfl, rfl⟩
          first | rw [show rdK 5 = true from rfl] | rw [show rdK 5 = false from rfl]
          go_wp2_with fail
          refine (otold_t V (QV.out.ut.below QV.out.bel)).mono ?_
          rintro e w2 ⟨rfl, b2⟩
          have Q2 := Lib.hid (QV.out.below b2)
          have X2 := Lib.hid Q2.out.box
          clear b2 QV
          go_wp2_with ((with_reducible refine load_blk_gdO 58 24 (.tmp 10) g 24 (rv x) _ ?_ ?_ rfl ?_ Tryd.underlying24 ?_ ?_ ?_ ?_); exact rfl; kernel_rfl; exact X2.out; exact rfl; exact rv_size x; exact rfl)
          refine (May_r x w2 (Q2.out.ut.below Q2.out.bel) Q2.out.rx).mono ?_
          rintro e w3 ⟨rfl, b3⟩
          rw [HXE.out]
          first | rw [show mayR ⟨2, 9, 5, 0, 0, zG, 0, zG⟩ = true from by decide +kernel] | rw [show mayR ⟨2, 9, 5, 0, 0, zG, 0, zG⟩ = false from by decide +kernel]
          have Q3 := Lib.hid (Q2.out.below b3)
          clear b3 Q2 X2
          go_wp2_with fail
          refine (Writes_t 5 w3 (Q3.out.ut.below Q3.out.bel)).mono ?_
          rintro e w4 ⟨rfl, rfl⟩
          first | rw [show wrK 5 = true from rfl] | rw [show wrK 5 = false from rfl]
          go_wp2_with fail
          go_ret
          exact ⟨rfl, Q3.out.bel⟩
        · have HXE := Lib.hid (hxr.trans (show _ = (⟨2, 9, 6, 0, 0, zG, 0, zG⟩ : Rq) from rfl))
          clear hxr
          go_wp2_with fail
          refine (Reads_t 6 V (QV.out.ut.below QV.out.bel)).mono ?_
          rintro e w1 ⟨rfl, rfl⟩
          first | rw [show rdK 6 = true from rfl] | rw [show rdK 6 = false from rfl]
          go_wp2_with fail
          refine (otold_t V (QV.out.ut.below QV.out.bel)).mono ?_
          rintro e w2 ⟨rfl, b2⟩
          have Q2 := Lib.hid (QV.out.below b2)
          have X2 := Lib.hid Q2.out.box
          clear b2 QV
          go_wp2_with ((with_reducible refine load_blk_gdO 58 24 (.tmp 10) g 24 (rv x) _ ?_ ?_ rfl ?_ Tryd.underlying24 ?_ ?_ ?_ ?_); exact rfl; kernel_rfl; exact X2.out; exact rfl; exact rv_size x; exact rfl)
          refine (May_r x w2 (Q2.out.ut.below Q2.out.bel) Q2.out.rx).mono ?_
          rintro e w3 ⟨rfl, b3⟩
          rw [HXE.out]
          first | rw [show mayR ⟨2, 9, 6, 0, 0, zG, 0, zG⟩ = true from by decide +kernel] | rw [show mayR ⟨2, 9, 6, 0, 0, zG, 0, zG⟩ = false from by decide +kernel]
          have Q3 := Lib.hid (Q2.out.below b3)
          clear b3 Q2 X2
          go_wp2_with fail
          refine (Writes_t 6 w3 (Q3.out.ut.below Q3.out.bel)).mono ?_
          rintro e w4 ⟨rfl, rfl⟩
          first | rw [show wrK 6 = true from rfl] | rw [show wrK 6 = false from rfl]
          go_wp2_with fail
          go_ret
          exact ⟨rfl, Q3.out.bel⟩
        · have HXE := Lib.hid (hxr.trans (show _ = (⟨2, 9, 7, 0, 0, zG, 0, zG⟩ : Rq) from rfl))
          clear hxr
          go_wp2_with fail
          refine (Reads_t 7 V (QV.out.ut.below QV.out.bel)).mono ?_
          rintro e w1 ⟨rfl, rfl⟩
          first | rw [show rdK 7 = true from rfl] | rw [show rdK 7 = false from rfl]
          go_wp2_with fail
          refine (otold_t V (QV.out.ut.below QV.out.bel)).mono ?_
          rintro e w2 ⟨rfl, b2⟩
          have Q2 := Lib.hid (QV.out.below b2)
          have X2 := Lib.hid Q2.out.box
          clear b2 QV
          go_wp2_with ((with_reducible refine load_blk_gdO 58 24 (.tmp 10) g 24 (rv x) _ ?_ ?_ rfl ?_ Tryd.underlying24 ?_ ?_ ?_ ?_); exact rfl; kernel_rfl; exact X2.out; exact rfl; exact rv_size x; exact rfl)
          refine (May_r x w2 (Q2.out.ut.below Q2.out.bel) Q2.out.rx).mono ?_
          rintro e w3 ⟨rfl, b3⟩
          rw [HXE.out]
          first | rw [show mayR ⟨2, 9, 7, 0, 0, zG, 0, zG⟩ = true from by decide +kernel] | rw [show mayR ⟨2, 9, 7, 0, 0, zG, 0, zG⟩ = false from by decide +kernel]
          have Q3 := Lib.hid (Q2.out.below b3)
          clear b3 Q2 X2
          go_wp2_with fail
          refine (Writes_t 7 w3 (Q3.out.ut.below Q3.out.bel)).mono ?_
          rintro e w4 ⟨rfl, rfl⟩
          first | rw [show wrK 7 = true from rfl] | rw [show wrK 7 = false from rfl]
          go_wp2_with fail
          go_ret
          exact ⟨rfl, Q3.out.bel⟩
        · have HXE := Lib.hid (hxr.trans (show _ = (⟨2, 9, 8, 0, 0, zG, 0, zG⟩ : Rq) from rfl))
          clear hxr
          go_wp2_with fail
          refine (Reads_t 8 V (QV.out.ut.below QV.out.bel)).mono ?_
          rintro e w1 ⟨rfl, rfl⟩
          first | rw [show rdK 8 = true from rfl] | rw [show rdK 8 = false from rfl]
          go_wp2_with fail
          refine (otold_t V (QV.out.ut.below QV.out.bel)).mono ?_
          rintro e w2 ⟨rfl, b2⟩
          have Q2 := Lib.hid (QV.out.below b2)
          have X2 := Lib.hid Q2.out.box
          clear b2 QV
          go_wp2_with ((with_reducible refine load_blk_gdO 58 24 (.tmp 10) g 24 (rv x) _ ?_ ?_ rfl ?_ Tryd.underlying24 ?_ ?_ ?_ ?_); exact rfl; kernel_rfl; exact X2.out; exact rfl; exact rv_size x; exact rfl)
          refine (May_r x w2 (Q2.out.ut.below Q2.out.bel) Q2.out.rx).mono ?_
          rintro e w3 ⟨rfl, b3⟩
          rw [HXE.out]
          first | rw [show mayR ⟨2, 9, 8, 0, 0, zG, 0, zG⟩ = true from by decide +kernel] | rw [show mayR ⟨2, 9, 8, 0, 0, zG, 0, zG⟩ = false from by decide +kernel]
          have Q3 := Lib.hid (Q2.out.below b3)
          clear b3 Q2 X2
          go_wp2_with fail
          refine (Writes_t 8 w3 (Q3.out.ut.below Q3.out.bel)).mono ?_
          rintro e w4 ⟨rfl, rfl⟩
          first | rw [show wrK 8 = true from rfl] | rw [show wrK 8 = false from rfl]
          go_wp2_with fail
          go_ret
          exact ⟨rfl, Q3.out.bel⟩
      | true =>
        have fz := QX.out.box.frozen 5
        have ct := QX.out.box.cell 5
        have QY := Lib.hid QX.out.setL
        clear QX
        go_upto_region 9 with (fail)
        clear fz ct
        refine world_at (fun Y => KQ w Y g ⟨⟨2, 9, (k : Int), 5, 0, zG, 0, zG⟩, none, 0, none, 0⟩) QY.out ?_
        clear QY
        rintro V qx
        have QX := Lib.hid qx
        clear qx
        obtain ⟨x, hxe⟩ : ∃ x : Rv, ⟨⟨2, 9, (k : Int), 5, 0, zG, 0, zG⟩, none, 0, none, 0⟩ = x := ⟨_, rfl⟩
        rw [hxe] at QX
        have hxr : x.r = ⟨2, 9, (k : Int), 5, 0, zG, 0, zG⟩ := by rw [← hxe]
        clear hxe
        have hk8 : k = 1 ∨ k = 2 ∨ k = 3 ∨ k = 4 ∨ k = 5 ∨ k = 6 ∨ k = 7 ∨ k = 8 := by omega
        have QV := QX
        clear QX hk1 hk9
        rcases hk8 with rfl | rfl | rfl | rfl | rfl | rfl | rfl | rfl
        · have HXE := Lib.hid (hxr.trans (show _ = (⟨2, 9, 1, 5, 0, zG, 0, zG⟩ : Rq) from rfl))
          clear hxr
          go_wp2_with fail
          refine (Reads_t 1 V (QV.out.ut.below QV.out.bel)).mono ?_
          rintro e w1 ⟨rfl, rfl⟩
          first | rw [show rdK 1 = true from rfl] | rw [show rdK 1 = false from rfl]
          go_wp2_with fail
          refine (otold_t V (QV.out.ut.below QV.out.bel)).mono ?_
          rintro e w2 ⟨rfl, b2⟩
          have Q2 := Lib.hid (QV.out.below b2)
          have X2 := Lib.hid Q2.out.box
          clear b2 QV
          go_wp2_with ((with_reducible refine load_blk_gdO 58 24 (.tmp 10) g 24 (rv x) _ ?_ ?_ rfl ?_ Tryd.underlying24 ?_ ?_ ?_ ?_); exact rfl; kernel_rfl; exact X2.out; exact rfl; exact rv_size x; exact rfl)
          refine (May_r x w2 (Q2.out.ut.below Q2.out.bel) Q2.out.rx).mono ?_
          rintro e w3 ⟨rfl, b3⟩
          rw [HXE.out]
          first | rw [show mayR ⟨2, 9, 1, 5, 0, zG, 0, zG⟩ = true from by decide +kernel] | rw [show mayR ⟨2, 9, 1, 5, 0, zG, 0, zG⟩ = false from by decide +kernel]
          have Q3 := Lib.hid (Q2.out.below b3)
          clear b3 Q2 X2
          go_wp2_with fail
          refine (Writes_t 1 w3 (Q3.out.ut.below Q3.out.bel)).mono ?_
          rintro e w4 ⟨rfl, rfl⟩
          first | rw [show wrK 1 = true from rfl] | rw [show wrK 1 = false from rfl]
          go_wp2_with fail
          go_ret
          exact ⟨rfl, Q3.out.bel⟩
        · have HXE := Lib.hid (hxr.trans (show _ = (⟨2, 9, 2, 5, 0, zG, 0, zG⟩ : Rq) from rfl))
          clear hxr
          go_wp2_with fail
          refine (Reads_t 2 V (QV.out.ut.below QV.out.bel)).mono ?_
          rintro e w1 ⟨rfl, rfl⟩
          first | rw [show rdK 2 = true from rfl] | rw [show rdK 2 = false from rfl]
          go_wp2_with fail
          refine (otold_t V (QV.out.ut.below QV.out.bel)).mono ?_
          rintro e w2 ⟨rfl, b2⟩
          have Q2 := Lib.hid (QV.out.below b2)
          have X2 := Lib.hid Q2.out.box
          clear b2 QV
          go_wp2_with ((with_reducible refine load_blk_gdO 58 24 (.tmp 10) g 24 (rv x) _ ?_ ?_ rfl ?_ Tryd.underlying24 ?_ ?_ ?_ ?_); exact rfl; kernel_rfl; exact X2.out; exact rfl; exact rv_size x; exact rfl)
          refine (May_r x w2 (Q2.out.ut.below Q2.out.bel) Q2.out.rx).mono ?_
          rintro e w3 ⟨rfl, b3⟩
          rw [HXE.out]
          first | rw [show mayR ⟨2, 9, 2, 5, 0, zG, 0, zG⟩ = true from by decide +kernel] | rw [show mayR ⟨2, 9, 2, 5, 0, zG, 0, zG⟩ = false from by decide +kernel]
          have Q3 := Lib.hid (Q2.out.below b3)
          clear b3 Q2 X2
          go_wp2_with fail
          refine (Writes_t 2 w3 (Q3.out.ut.below Q3.out.bel)).mono ?_
          rintro e w4 ⟨rfl, rfl⟩
          first | rw [show wrK 2 = true from rfl] | rw [show wrK 2 = false from rfl]
          go_wp2_with fail
          go_ret
          exact ⟨rfl, Q3.out.bel⟩
        · have HXE := Lib.hid (hxr.trans (show _ = (⟨2, 9, 3, 5, 0, zG, 0, zG⟩ : Rq) from rfl))
          clear hxr
          go_wp2_with fail
          refine (Reads_t 3 V (QV.out.ut.below QV.out.bel)).mono ?_
          rintro e w1 ⟨rfl, rfl⟩
          first | rw [show rdK 3 = true from rfl] | rw [show rdK 3 = false from rfl]
          go_wp2_with fail
          refine (otold_t V (QV.out.ut.below QV.out.bel)).mono ?_
          rintro e w2 ⟨rfl, b2⟩
          have Q2 := Lib.hid (QV.out.below b2)
          have X2 := Lib.hid Q2.out.box
          clear b2 QV
          go_wp2_with ((with_reducible refine load_blk_gdO 58 24 (.tmp 10) g 24 (rv x) _ ?_ ?_ rfl ?_ Tryd.underlying24 ?_ ?_ ?_ ?_); exact rfl; kernel_rfl; exact X2.out; exact rfl; exact rv_size x; exact rfl)
          refine (May_r x w2 (Q2.out.ut.below Q2.out.bel) Q2.out.rx).mono ?_
          rintro e w3 ⟨rfl, b3⟩
          rw [HXE.out]
          first | rw [show mayR ⟨2, 9, 3, 5, 0, zG, 0, zG⟩ = true from by decide +kernel] | rw [show mayR ⟨2, 9, 3, 5, 0, zG, 0, zG⟩ = false from by decide +kernel]
          have Q3 := Lib.hid (Q2.out.below b3)
          clear b3 Q2 X2
          go_wp2_with fail
          refine (Writes_t 3 w3 (Q3.out.ut.below Q3.out.bel)).mono ?_
          rintro e w4 ⟨rfl, rfl⟩
          first | rw [show wrK 3 = true from rfl] | rw [show wrK 3 = false from rfl]
          go_wp2_with fail
          go_ret
          exact ⟨rfl, Q3.out.bel⟩
        · have HXE := Lib.hid (hxr.trans (show _ = (⟨2, 9, 4, 5, 0, zG, 0, zG⟩ : Rq) from rfl))
          clear hxr
          go_wp2_with fail
          refine (Reads_t 4 V (QV.out.ut.below QV.out.bel)).mono ?_
          rintro e w1 ⟨rfl, rfl⟩
          first | rw [show rdK 4 = true from rfl] | rw [show rdK 4 = false from rfl]
          go_wp2_with fail
          refine (otold_t V (QV.out.ut.below QV.out.bel)).mono ?_
          rintro e w2 ⟨rfl, b2⟩
          have Q2 := Lib.hid (QV.out.below b2)
          have X2 := Lib.hid Q2.out.box
          clear b2 QV
          go_wp2_with ((with_reducible refine load_blk_gdO 58 24 (.tmp 10) g 24 (rv x) _ ?_ ?_ rfl ?_ Tryd.underlying24 ?_ ?_ ?_ ?_); exact rfl; kernel_rfl; exact X2.out; exact rfl; exact rv_size x; exact rfl)
          refine (May_r x w2 (Q2.out.ut.below Q2.out.bel) Q2.out.rx).mono ?_
          rintro e w3 ⟨rfl, b3⟩
          rw [HXE.out]
          first | rw [show mayR ⟨2, 9, 4, 5, 0, zG, 0, zG⟩ = true from by decide +kernel] | rw [show mayR ⟨2, 9, 4, 5, 0, zG, 0, zG⟩ = false from by decide +kernel]
          have Q3 := Lib.hid (Q2.out.below b3)
          clear b3 Q2 X2
          go_wp2_with fail
          refine (Writes_t 4 w3 (Q3.out.ut.below Q3.out.bel)).mono ?_
          rintro e w4 ⟨rfl, rfl⟩
          first | rw [show wrK 4 = true from rfl] | rw [show wrK 4 = false from rfl]
          go_wp2_with fail
          go_ret
          exact ⟨rfl, Q3.out.bel⟩
        · have HXE := Lib.hid (hxr.trans (show _ = (⟨2, 9, 5, 5, 0, zG, 0, zG⟩ : Rq) from rfl))
          clear hxr
          go_wp2_with fail
          refine (Reads_t 5 V (QV.out.ut.below QV.out.bel)).mono ?_
          rintro e w1 ⟨rfl, rfl⟩
          first | rw [show rdK 5 = true from rfl] | rw [show rdK 5 = false from rfl]
          go_wp2_with fail
          refine (otold_t V (QV.out.ut.below QV.out.bel)).mono ?_
          rintro e w2 ⟨rfl, b2⟩
          have Q2 := Lib.hid (QV.out.below b2)
          have X2 := Lib.hid Q2.out.box
          clear b2 QV
          go_wp2_with ((with_reducible refine load_blk_gdO 58 24 (.tmp 10) g 24 (rv x) _ ?_ ?_ rfl ?_ Tryd.underlying24 ?_ ?_ ?_ ?_); exact rfl; kernel_rfl; exact X2.out; exact rfl; exact rv_size x; exact rfl)
          refine (May_r x w2 (Q2.out.ut.below Q2.out.bel) Q2.out.rx).mono ?_
          rintro e w3 ⟨rfl, b3⟩
          rw [HXE.out]
          first | rw [show mayR ⟨2, 9, 5, 5, 0, zG, 0, zG⟩ = true from by decide +kernel] | rw [show mayR ⟨2, 9, 5, 5, 0, zG, 0, zG⟩ = false from by decide +kernel]
          have Q3 := Lib.hid (Q2.out.below b3)
          clear b3 Q2 X2
          go_wp2_with fail
          refine (Writes_t 5 w3 (Q3.out.ut.below Q3.out.bel)).mono ?_
          rintro e w4 ⟨rfl, rfl⟩
          first | rw [show wrK 5 = true from rfl] | rw [show wrK 5 = false from rfl]
          go_wp2_with fail
          go_ret
          exact ⟨rfl, Q3.out.bel⟩
        · have HXE := Lib.hid (hxr.trans (show _ = (⟨2, 9, 6, 5, 0, zG, 0, zG⟩ : Rq) from rfl))
          clear hxr
          go_wp2_with fail
          refine (Reads_t 6 V (QV.out.ut.below QV.out.bel)).mono ?_
          rintro e w1 ⟨rfl, rfl⟩
          first | rw [show rdK 6 = true from rfl] | rw [show rdK 6 = false from rfl]
          go_wp2_with fail
          refine (otold_t V (QV.out.ut.below QV.out.bel)).mono ?_
          rintro e w2 ⟨rfl, b2⟩
          have Q2 := Lib.hid (QV.out.below b2)
          have X2 := Lib.hid Q2.out.box
          clear b2 QV
          go_wp2_with ((with_reducible refine load_blk_gdO 58 24 (.tmp 10) g 24 (rv x) _ ?_ ?_ rfl ?_ Tryd.underlying24 ?_ ?_ ?_ ?_); exact rfl; kernel_rfl; exact X2.out; exact rfl; exact rv_size x; exact rfl)
          refine (May_r x w2 (Q2.out.ut.below Q2.out.bel) Q2.out.rx).mono ?_
          rintro e w3 ⟨rfl, b3⟩
          rw [HXE.out]
          first | rw [show mayR ⟨2, 9, 6, 5, 0, zG, 0, zG⟩ = true from by decide +kernel] | rw [show mayR ⟨2, 9, 6, 5, 0, zG, 0, zG⟩ = false from by decide +kernel]
          have Q3 := Lib.hid (Q2.out.below b3)
          clear b3 Q2 X2
          go_wp2_with fail
          refine (Writes_t 6 w3 (Q3.out.ut.below Q3.out.bel)).mono ?_
          rintro e w4 ⟨rfl, rfl⟩
          first | rw [show wrK 6 = true from rfl] | rw [show wrK 6 = false from rfl]
          go_wp2_with fail
          go_ret
          exact ⟨rfl, Q3.out.bel⟩
        · have HXE := Lib.hid (hxr.trans (show _ = (⟨2, 9, 7, 5, 0, zG, 0, zG⟩ : Rq) from rfl))
          clear hxr
          go_wp2_with fail
          refine (Reads_t 7 V (QV.out.ut.below QV.out.bel)).mono ?_
          rintro e w1 ⟨rfl, rfl⟩
          first | rw [show rdK 7 = true from rfl] | rw [show rdK 7 = false from rfl]
          go_wp2_with fail
          refine (otold_t V (QV.out.ut.below QV.out.bel)).mono ?_
          rintro e w2 ⟨rfl, b2⟩
          have Q2 := Lib.hid (QV.out.below b2)
          have X2 := Lib.hid Q2.out.box
          clear b2 QV
          go_wp2_with ((with_reducible refine load_blk_gdO 58 24 (.tmp 10) g 24 (rv x) _ ?_ ?_ rfl ?_ Tryd.underlying24 ?_ ?_ ?_ ?_); exact rfl; kernel_rfl; exact X2.out; exact rfl; exact rv_size x; exact rfl)
          refine (May_r x w2 (Q2.out.ut.below Q2.out.bel) Q2.out.rx).mono ?_
          rintro e w3 ⟨rfl, b3⟩
          rw [HXE.out]
          first | rw [show mayR ⟨2, 9, 7, 5, 0, zG, 0, zG⟩ = true from by decide +kernel] | rw [show mayR ⟨2, 9, 7, 5, 0, zG, 0, zG⟩ = false from by decide +kernel]
          have Q3 := Lib.hid (Q2.out.below b3)
          clear b3 Q2 X2
          go_wp2_with fail
          refine (Writes_t 7 w3 (Q3.out.ut.below Q3.out.bel)).mono ?_
          rintro e w4 ⟨rfl, rfl⟩
          first | rw [show wrK 7 = true from rfl] | rw [show wrK 7 = false from rfl]
          go_wp2_with fail
          go_ret
          exact ⟨rfl, Q3.out.bel⟩
        · have HXE := Lib.hid (hxr.trans (show _ = (⟨2, 9, 8, 5, 0, zG, 0, zG⟩ : Rq) from rfl))
          clear hxr
          go_wp2_with fail
          refine (Reads_t 8 V (QV.out.ut.below QV.out.bel)).mono ?_
          rintro e w1 ⟨rfl, rfl⟩
          first | rw [show rdK 8 = true from rfl] | rw [show rdK 8 = false from rfl]
          go_wp2_with fail
          refine (otold_t V (QV.out.ut.below QV.out.bel)).mono ?_
          rintro e w2 ⟨rfl, b2⟩
          have Q2 := Lib.hid (QV.out.below b2)
          have X2 := Lib.hid Q2.out.box
          clear b2 QV
          go_wp2_with ((with_reducible refine load_blk_gdO 58 24 (.tmp 10) g 24 (rv x) _ ?_ ?_ rfl ?_ Tryd.underlying24 ?_ ?_ ?_ ?_); exact rfl; kernel_rfl; exact X2.out; exact rfl; exact rv_size x; exact rfl)
          refine (May_r x w2 (Q2.out.ut.below Q2.out.bel) Q2.out.rx).mono ?_
          rintro e w3 ⟨rfl, b3⟩
          rw [HXE.out]
          first | rw [show mayR ⟨2, 9, 8, 5, 0, zG, 0, zG⟩ = true from by decide +kernel] | rw [show mayR ⟨2, 9, 8, 5, 0, zG, 0, zG⟩ = false from by decide +kernel]
          have Q3 := Lib.hid (Q2.out.below b3)
          clear b3 Q2 X2
          go_wp2_with fail
          refine (Writes_t 8 w3 (Q3.out.ut.below Q3.out.bel)).mono ?_
          rintro e w4 ⟨rfl, rfl⟩
          first | rw [show wrK 8 = true from rfl] | rw [show wrK 8 = false from rfl]
          go_wp2_with fail
          go_ret
          exact ⟨rfl, Q3.out.bel⟩
    | true =>
      have QA := QX.out.below ((Below.refl _ _).alloc (Nat.le_refl _) (.cells #[.int .i64 2, .int .i64 0, .string { data := #[120] }] 40))
      have fz := QA.box.frozen 4
      have ct := QA.box.cell 4
      have QY := Lib.hid QX.out.setT
      clear QX QA
      go_upto_region 7 with (fail)
      clear fz ct
      obtain ⟨gt2, hgt⟩ : ∃ z, Y.heap.size = z := ⟨_, rfl⟩
      rw [hgt] at QY ⊢
      refine world_at (fun Y => KQ w Y g ⟨⟨2, 9, (k : Int), 0, 0, zG, 1, kH⟩, none, 0, some ⟨gt2, 0, none⟩, 1⟩) QY.out ?_
      clear QY hgt
      rintro Z qx
      have QX := Lib.hid qx
      clear qx
      cases lease with
      | false =>
        go_upto_region 9 with (fail)
        refine world_at (fun Y => KQ w Y g ⟨⟨2, 9, (k : Int), 0, 0, zG, 1, kH⟩, none, 0, some ⟨gt2, 0, none⟩, 1⟩) QX.out ?_
        clear QX
        rintro V qx
        have QX := Lib.hid qx
        clear qx
        obtain ⟨x, hxe⟩ : ∃ x : Rv, ⟨⟨2, 9, (k : Int), 0, 0, zG, 1, kH⟩, none, 0, some ⟨gt2, 0, none⟩, 1⟩ = x := ⟨_, rfl⟩
        rw [hxe] at QX
        have hxr : x.r = ⟨2, 9, (k : Int), 0, 0, zG, 1, kH⟩ := by rw [← hxe]
        clear hxe
        have hk8 : k = 1 ∨ k = 2 ∨ k = 3 ∨ k = 4 ∨ k = 5 ∨ k = 6 ∨ k = 7 ∨ k = 8 := by omega
        have QV := QX
        clear QX hk1 hk9
        rcases hk8 with rfl | rfl | rfl | rfl | rfl | rfl | rfl | rfl
        · have HXE := Lib.hid (hxr.trans (show _ = (⟨2, 9, 1, 0, 0, zG, 1, kH⟩ : Rq) from rfl))
          clear hxr
          go_wp2_with fail
          refine (Reads_t 1 V (QV.out.ut.below QV.out.bel)).mono ?_
          rintro e w1 ⟨rfl, rfl⟩
          first | rw [show rdK 1 = true from rfl] | rw [show rdK 1 = false from rfl]
          go_wp2_with fail
          refine (otold_t V (QV.out.ut.below QV.out.bel)).mono ?_
          rintro e w2 ⟨rfl, b2⟩
          have Q2 := Lib.hid (QV.out.below b2)
          have X2 := Lib.hid Q2.out.box
          clear b2 QV
          go_wp2_with ((with_reducible refine load_blk_gdO 58 24 (.tmp 10) g 24 (rv x) _ ?_ ?_ rfl ?_ Tryd.underlying24 ?_ ?_ ?_ ?_); exact rfl; kernel_rfl; exact X2.out; exact rfl; exact rv_size x; exact rfl)
          refine (May_r x w2 (Q2.out.ut.below Q2.out.bel) Q2.out.rx).mono ?_
          rintro e w3 ⟨rfl, b3⟩
          rw [HXE.out]
          first | rw [show mayR ⟨2, 9, 1, 0, 0, zG, 1, kH⟩ = true from by decide +kernel] | rw [show mayR ⟨2, 9, 1, 0, 0, zG, 1, kH⟩ = false from by decide +kernel]
          have Q3 := Lib.hid (Q2.out.below b3)
          clear b3 Q2 X2
          go_wp2_with fail
          refine (Writes_t 1 w3 (Q3.out.ut.below Q3.out.bel)).mono ?_
          rintro e w4 ⟨rfl, rfl⟩
          first | rw [show wrK 1 = true from rfl] | rw [show wrK 1 = false from rfl]
          go_wp2_with fail
          go_ret
          exact ⟨rfl, Q3.out.bel⟩
        · have HXE := Lib.hid (hxr.trans (show _ = (⟨2, 9, 2, 0, 0, zG, 1, kH⟩ : Rq) from rfl))
          clear hxr
          go_wp2_with fail
          refine (Reads_t 2 V (QV.out.ut.below QV.out.bel)).mono ?_
          rintro e w1 ⟨rfl, rfl⟩
          first | rw [show rdK 2 = true from rfl] | rw [show rdK 2 = false from rfl]
          go_wp2_with fail
          refine (otold_t V (QV.out.ut.below QV.out.bel)).mono ?_
          rintro e w2 ⟨rfl, b2⟩
          have Q2 := Lib.hid (QV.out.below b2)
          have X2 := Lib.hid Q2.out.box
          clear b2 QV
          go_wp2_with ((with_reducible refine load_blk_gdO 58 24 (.tmp 10) g 24 (rv x) _ ?_ ?_ rfl ?_ Tryd.underlying24 ?_ ?_ ?_ ?_); exact rfl; kernel_rfl; exact X2.out; exact rfl; exact rv_size x; exact rfl)
          refine (May_r x w2 (Q2.out.ut.below Q2.out.bel) Q2.out.rx).mono ?_
          rintro e w3 ⟨rfl, b3⟩
          rw [HXE.out]
          first | rw [show mayR ⟨2, 9, 2, 0, 0, zG, 1, kH⟩ = true from by decide +kernel] | rw [show mayR ⟨2, 9, 2, 0, 0, zG, 1, kH⟩ = false from by decide +kernel]
          have Q3 := Lib.hid (Q2.out.below b3)
          clear b3 Q2 X2
          go_wp2_with fail
          refine (Writes_t 2 w3 (Q3.out.ut.below Q3.out.bel)).mono ?_
          rintro e w4 ⟨rfl, rfl⟩
          first | rw [show wrK 2 = true from rfl] | rw [show wrK 2 = false from rfl]
          go_wp2_with fail
          go_ret
          exact ⟨rfl, Q3.out.bel⟩
        · have HXE := Lib.hid (hxr.trans (show _ = (⟨2, 9, 3, 0, 0, zG, 1, kH⟩ : Rq) from rfl))
          clear hxr
          go_wp2_with fail
          refine (Reads_t 3 V (QV.out.ut.below QV.out.bel)).mono ?_
          rintro e w1 ⟨rfl, rfl⟩
          first | rw [show rdK 3 = true from rfl] | rw [show rdK 3 = false from rfl]
          go_wp2_with fail
          refine (otold_t V (QV.out.ut.below QV.out.bel)).mono ?_
          rintro e w2 ⟨rfl, b2⟩
          have Q2 := Lib.hid (QV.out.below b2)
          have X2 := Lib.hid Q2.out.box
          clear b2 QV
          go_wp2_with ((with_reducible refine load_blk_gdO 58 24 (.tmp 10) g 24 (rv x) _ ?_ ?_ rfl ?_ Tryd.underlying24 ?_ ?_ ?_ ?_); exact rfl; kernel_rfl; exact X2.out; exact rfl; exact rv_size x; exact rfl)
          refine (May_r x w2 (Q2.out.ut.below Q2.out.bel) Q2.out.rx).mono ?_
          rintro e w3 ⟨rfl, b3⟩
          rw [HXE.out]
          first | rw [show mayR ⟨2, 9, 3, 0, 0, zG, 1, kH⟩ = true from by decide +kernel] | rw [show mayR ⟨2, 9, 3, 0, 0, zG, 1, kH⟩ = false from by decide +kernel]
          have Q3 := Lib.hid (Q2.out.below b3)
          clear b3 Q2 X2
          go_wp2_with fail
          refine (Writes_t 3 w3 (Q3.out.ut.below Q3.out.bel)).mono ?_
          rintro e w4 ⟨rfl, rfl⟩
          first | rw [show wrK 3 = true from rfl] | rw [show wrK 3 = false from rfl]
          go_wp2_with fail
          go_ret
          exact ⟨rfl, Q3.out.bel⟩
        · have HXE := Lib.hid (hxr.trans (show _ = (⟨2, 9, 4, 0, 0, zG, 1, kH⟩ : Rq) from rfl))
          clear hxr
          go_wp2_with fail
          refine (Reads_t 4 V (QV.out.ut.below QV.out.bel)).mono ?_
          rintro e w1 ⟨rfl, rfl⟩
          first | rw [show rdK 4 = true from rfl] | rw [show rdK 4 = false from rfl]
          go_wp2_with fail
          refine (otold_t V (QV.out.ut.below QV.out.bel)).mono ?_
          rintro e w2 ⟨rfl, b2⟩
          have Q2 := Lib.hid (QV.out.below b2)
          have X2 := Lib.hid Q2.out.box
          clear b2 QV
          go_wp2_with ((with_reducible refine load_blk_gdO 58 24 (.tmp 10) g 24 (rv x) _ ?_ ?_ rfl ?_ Tryd.underlying24 ?_ ?_ ?_ ?_); exact rfl; kernel_rfl; exact X2.out; exact rfl; exact rv_size x; exact rfl)
          refine (May_r x w2 (Q2.out.ut.below Q2.out.bel) Q2.out.rx).mono ?_
          rintro e w3 ⟨rfl, b3⟩
          rw [HXE.out]
          first | rw [show mayR ⟨2, 9, 4, 0, 0, zG, 1, kH⟩ = true from by decide +kernel] | rw [show mayR ⟨2, 9, 4, 0, 0, zG, 1, kH⟩ = false from by decide +kernel]
          have Q3 := Lib.hid (Q2.out.below b3)
          clear b3 Q2 X2
          go_wp2_with fail
          refine (Writes_t 4 w3 (Q3.out.ut.below Q3.out.bel)).mono ?_
          rintro e w4 ⟨rfl, rfl⟩
          first | rw [show wrK 4 = true from rfl] | rw [show wrK 4 = false from rfl]
          go_wp2_with fail
          go_ret
          exact ⟨rfl, Q3.out.bel⟩
        · have HXE := Lib.hid (hxr.trans (show _ = (⟨2, 9, 5, 0, 0, zG, 1, kH⟩ : Rq) from rfl))
          clear hxr
          go_wp2_with fail
          refine (Reads_t 5 V (QV.out.ut.below QV.out.bel)).mono ?_
          rintro e w1 ⟨rfl, rfl⟩
          first | rw [show rdK 5 = true from rfl] | rw [show rdK 5 = false from rfl]
          go_wp2_with fail
          refine (otold_t V (QV.out.ut.below QV.out.bel)).mono ?_
          rintro e w2 ⟨rfl, b2⟩
          have Q2 := Lib.hid (QV.out.below b2)
          have X2 := Lib.hid Q2.out.box
          clear b2 QV
          go_wp2_with ((with_reducible refine load_blk_gdO 58 24 (.tmp 10) g 24 (rv x) _ ?_ ?_ rfl ?_ Tryd.underlying24 ?_ ?_ ?_ ?_); exact rfl; kernel_rfl; exact X2.out; exact rfl; exact rv_size x; exact rfl)
          refine (May_r x w2 (Q2.out.ut.below Q2.out.bel) Q2.out.rx).mono ?_
          rintro e w3 ⟨rfl, b3⟩
          rw [HXE.out]
          first | rw [show mayR ⟨2, 9, 5, 0, 0, zG, 1, kH⟩ = true from by decide +kernel] | rw [show mayR ⟨2, 9, 5, 0, 0, zG, 1, kH⟩ = false from by decide +kernel]
          have Q3 := Lib.hid (Q2.out.below b3)
          clear b3 Q2 X2
          go_wp2_with fail
          refine (Writes_t 5 w3 (Q3.out.ut.below Q3.out.bel)).mono ?_
          rintro e w4 ⟨rfl, rfl⟩
          first | rw [show wrK 5 = true from rfl] | rw [show wrK 5 = false from rfl]
          go_wp2_with fail
          go_ret
          exact ⟨rfl, Q3.out.bel⟩
        · have HXE := Lib.hid (hxr.trans (show _ = (⟨2, 9, 6, 0, 0, zG, 1, kH⟩ : Rq) from rfl))
          clear hxr
          go_wp2_with fail
          refine (Reads_t 6 V (QV.out.ut.below QV.out.bel)).mono ?_
          rintro e w1 ⟨rfl, rfl⟩
          first | rw [show rdK 6 = true from rfl] | rw [show rdK 6 = false from rfl]
          go_wp2_with fail
          refine (otold_t V (QV.out.ut.below QV.out.bel)).mono ?_
          rintro e w2 ⟨rfl, b2⟩
          have Q2 := Lib.hid (QV.out.below b2)
          have X2 := Lib.hid Q2.out.box
          clear b2 QV
          go_wp2_with ((with_reducible refine load_blk_gdO 58 24 (.tmp 10) g 24 (rv x) _ ?_ ?_ rfl ?_ Tryd.underlying24 ?_ ?_ ?_ ?_); exact rfl; kernel_rfl; exact X2.out; exact rfl; exact rv_size x; exact rfl)
          refine (May_r x w2 (Q2.out.ut.below Q2.out.bel) Q2.out.rx).mono ?_
          rintro e w3 ⟨rfl, b3⟩
          rw [HXE.out]
          first | rw [show mayR ⟨2, 9, 6, 0, 0, zG, 1, kH⟩ = true from by decide +kernel] | rw [show mayR ⟨2, 9, 6, 0, 0, zG, 1, kH⟩ = false from by decide +kernel]
          have Q3 := Lib.hid (Q2.out.below b3)
          clear b3 Q2 X2
          go_wp2_with fail
          refine (Writes_t 6 w3 (Q3.out.ut.below Q3.out.bel)).mono ?_
          rintro e w4 ⟨rfl, rfl⟩
          first | rw [show wrK 6 = true from rfl] | rw [show wrK 6 = false from rfl]
          go_wp2_with fail
          go_ret
          exact ⟨rfl, Q3.out.bel⟩
        · have HXE := Lib.hid (hxr.trans (show _ = (⟨2, 9, 7, 0, 0, zG, 1, kH⟩ : Rq) from rfl))
          clear hxr
          go_wp2_with fail
          refine (Reads_t 7 V (QV.out.ut.below QV.out.bel)).mono ?_
          rintro e w1 ⟨rfl, rfl⟩
          first | rw [show rdK 7 = true from rfl] | rw [show rdK 7 = false from rfl]
          go_wp2_with fail
          refine (otold_t V (QV.out.ut.below QV.out.bel)).mono ?_
          rintro e w2 ⟨rfl, b2⟩
          have Q2 := Lib.hid (QV.out.below b2)
          have X2 := Lib.hid Q2.out.box
          clear b2 QV
          go_wp2_with ((with_reducible refine load_blk_gdO 58 24 (.tmp 10) g 24 (rv x) _ ?_ ?_ rfl ?_ Tryd.underlying24 ?_ ?_ ?_ ?_); exact rfl; kernel_rfl; exact X2.out; exact rfl; exact rv_size x; exact rfl)
          refine (May_r x w2 (Q2.out.ut.below Q2.out.bel) Q2.out.rx).mono ?_
          rintro e w3 ⟨rfl, b3⟩
          rw [HXE.out]
          first | rw [show mayR ⟨2, 9, 7, 0, 0, zG, 1, kH⟩ = true from by decide +kernel] | rw [show mayR ⟨2, 9, 7, 0, 0, zG, 1, kH⟩ = false from by decide +kernel]
          have Q3 := Lib.hid (Q2.out.below b3)
          clear b3 Q2 X2
          go_wp2_with fail
          refine (Writes_t 7 w3 (Q3.out.ut.below Q3.out.bel)).mono ?_
          rintro e w4 ⟨rfl, rfl⟩
          first | rw [show wrK 7 = true from rfl] | rw [show wrK 7 = false from rfl]
          go_wp2_with fail
          go_ret
          exact ⟨rfl, Q3.out.bel⟩
        · have HXE := Lib.hid (hxr.trans (show _ = (⟨2, 9, 8, 0, 0, zG, 1, kH⟩ : Rq) from rfl))
          clear hxr
          go_wp2_with fail
          refine (Reads_t 8 V (QV.out.ut.below QV.out.bel)).mono ?_
          rintro e w1 ⟨rfl, rfl⟩
          first | rw [show rdK 8 = true from rfl] | rw [show rdK 8 = false from rfl]
          go_wp2_with fail
          refine (otold_t V (QV.out.ut.below QV.out.bel)).mono ?_
          rintro e w2 ⟨rfl, b2⟩
          have Q2 := Lib.hid (QV.out.below b2)
          have X2 := Lib.hid Q2.out.box
          clear b2 QV
          go_wp2_with ((with_reducible refine load_blk_gdO 58 24 (.tmp 10) g 24 (rv x) _ ?_ ?_ rfl ?_ Tryd.underlying24 ?_ ?_ ?_ ?_); exact rfl; kernel_rfl; exact X2.out; exact rfl; exact rv_size x; exact rfl)
          refine (May_r x w2 (Q2.out.ut.below Q2.out.bel) Q2.out.rx).mono ?_
          rintro e w3 ⟨rfl, b3⟩
          rw [HXE.out]
          first | rw [show mayR ⟨2, 9, 8, 0, 0, zG, 1, kH⟩ = true from by decide +kernel] | rw [show mayR ⟨2, 9, 8, 0, 0, zG, 1, kH⟩ = false from by decide +kernel]
          have Q3 := Lib.hid (Q2.out.below b3)
          clear b3 Q2 X2
          go_wp2_with fail
          refine (Writes_t 8 w3 (Q3.out.ut.below Q3.out.bel)).mono ?_
          rintro e w4 ⟨rfl, rfl⟩
          first | rw [show wrK 8 = true from rfl] | rw [show wrK 8 = false from rfl]
          go_wp2_with fail
          go_ret
          exact ⟨rfl, Q3.out.bel⟩
      | true =>
        have fz := QX.out.box.frozen 5
        have ct := QX.out.box.cell 5
        have QY := Lib.hid QX.out.setL
        clear QX
        go_upto_region 9 with (fail)
        clear fz ct
        refine world_at (fun Y => KQ w Y g ⟨⟨2, 9, (k : Int), 5, 0, zG, 1, kH⟩, none, 0, some ⟨gt2, 0, none⟩, 1⟩) QY.out ?_
        clear QY
        rintro V qx
        have QX := Lib.hid qx
        clear qx
        obtain ⟨x, hxe⟩ : ∃ x : Rv, ⟨⟨2, 9, (k : Int), 5, 0, zG, 1, kH⟩, none, 0, some ⟨gt2, 0, none⟩, 1⟩ = x := ⟨_, rfl⟩
        rw [hxe] at QX
        have hxr : x.r = ⟨2, 9, (k : Int), 5, 0, zG, 1, kH⟩ := by rw [← hxe]
        clear hxe
        have hk8 : k = 1 ∨ k = 2 ∨ k = 3 ∨ k = 4 ∨ k = 5 ∨ k = 6 ∨ k = 7 ∨ k = 8 := by omega
        have QV := QX
        clear QX hk1 hk9
        rcases hk8 with rfl | rfl | rfl | rfl | rfl | rfl | rfl | rfl
        · have HXE := Lib.hid (hxr.trans (show _ = (⟨2, 9, 1, 5, 0, zG, 1, kH⟩ : Rq) from rfl))
          clear hxr
          go_wp2_with fail
          refine (Reads_t 1 V (QV.out.ut.below QV.out.bel)).mono ?_
          rintro e w1 ⟨rfl, rfl⟩
          first | rw [show rdK 1 = true from rfl] | rw [show rdK 1 = false from rfl]
          go_wp2_with fail
          refine (otold_t V (QV.out.ut.below QV.out.bel)).mono ?_
          rintro e w2 ⟨rfl, b2⟩
          have Q2 := Lib.hid (QV.out.below b2)
          have X2 := Lib.hid Q2.out.box
          clear b2 QV
          go_wp2_with ((with_reducible refine load_blk_gdO 58 24 (.tmp 10) g 24 (rv x) _ ?_ ?_ rfl ?_ Tryd.underlying24 ?_ ?_ ?_ ?_); exact rfl; kernel_rfl; exact X2.out; exact rfl; exact rv_size x; exact rfl)
          refine (May_r x w2 (Q2.out.ut.below Q2.out.bel) Q2.out.rx).mono ?_
          rintro e w3 ⟨rfl, b3⟩
          rw [HXE.out]
          first | rw [show mayR ⟨2, 9, 1, 5, 0, zG, 1, kH⟩ = true from by decide +kernel] | rw [show mayR ⟨2, 9, 1, 5, 0, zG, 1, kH⟩ = false from by decide +kernel]
          have Q3 := Lib.hid (Q2.out.below b3)
          clear b3 Q2 X2
          go_wp2_with fail
          refine (Writes_t 1 w3 (Q3.out.ut.below Q3.out.bel)).mono ?_
          rintro e w4 ⟨rfl, rfl⟩
          first | rw [show wrK 1 = true from rfl] | rw [show wrK 1 = false from rfl]
          go_wp2_with fail
          go_ret
          exact ⟨rfl, Q3.out.bel⟩
        · have HXE := Lib.hid (hxr.trans (show _ = (⟨2, 9, 2, 5, 0, zG, 1, kH⟩ : Rq) from rfl))
          clear hxr
          go_wp2_with fail
          refine (Reads_t 2 V (QV.out.ut.below QV.out.bel)).mono ?_
          rintro e w1 ⟨rfl, rfl⟩
          first | rw [show rdK 2 = true from rfl] | rw [show rdK 2 = false from rfl]
          go_wp2_with fail
          refine (otold_t V (QV.out.ut.below QV.out.bel)).mono ?_
          rintro e w2 ⟨rfl, b2⟩
          have Q2 := Lib.hid (QV.out.below b2)
          have X2 := Lib.hid Q2.out.box
          clear b2 QV
          go_wp2_with ((with_reducible refine load_blk_gdO 58 24 (.tmp 10) g 24 (rv x) _ ?_ ?_ rfl ?_ Tryd.underlying24 ?_ ?_ ?_ ?_); exact rfl; kernel_rfl; exact X2.out; exact rfl; exact rv_size x; exact rfl)
          refine (May_r x w2 (Q2.out.ut.below Q2.out.bel) Q2.out.rx).mono ?_
          rintro e w3 ⟨rfl, b3⟩
          rw [HXE.out]
          first | rw [show mayR ⟨2, 9, 2, 5, 0, zG, 1, kH⟩ = true from by decide +kernel] | rw [show mayR ⟨2, 9, 2, 5, 0, zG, 1, kH⟩ = false from by decide +kernel]
          have Q3 := Lib.hid (Q2.out.below b3)
          clear b3 Q2 X2
          go_wp2_with fail
          refine (Writes_t 2 w3 (Q3.out.ut.below Q3.out.bel)).mono ?_
          rintro e w4 ⟨rfl, rfl⟩
          first | rw [show wrK 2 = true from rfl] | rw [show wrK 2 = false from rfl]
          go_wp2_with fail
          go_ret
          exact ⟨rfl, Q3.out.bel⟩
        · have HXE := Lib.hid (hxr.trans (show _ = (⟨2, 9, 3, 5, 0, zG, 1, kH⟩ : Rq) from rfl))
          clear hxr
          go_wp2_with fail
          refine (Reads_t 3 V (QV.out.ut.below QV.out.bel)).mono ?_
          rintro e w1 ⟨rfl, rfl⟩
          first | rw [show rdK 3 = true from rfl] | rw [show rdK 3 = false from rfl]
          go_wp2_with fail
          refine (otold_t V (QV.out.ut.below QV.out.bel)).mono ?_
          rintro e w2 ⟨rfl, b2⟩
          have Q2 := Lib.hid (QV.out.below b2)
          have X2 := Lib.hid Q2.out.box
          clear b2 QV
          go_wp2_with ((with_reducible refine load_blk_gdO 58 24 (.tmp 10) g 24 (rv x) _ ?_ ?_ rfl ?_ Tryd.underlying24 ?_ ?_ ?_ ?_); exact rfl; kernel_rfl; exact X2.out; exact rfl; exact rv_size x; exact rfl)
          refine (May_r x w2 (Q2.out.ut.below Q2.out.bel) Q2.out.rx).mono ?_
          rintro e w3 ⟨rfl, b3⟩
          rw [HXE.out]
          first | rw [show mayR ⟨2, 9, 3, 5, 0, zG, 1, kH⟩ = true from by decide +kernel] | rw [show mayR ⟨2, 9, 3, 5, 0, zG, 1, kH⟩ = false from by decide +kernel]
          have Q3 := Lib.hid (Q2.out.below b3)
          clear b3 Q2 X2
          go_wp2_with fail
          refine (Writes_t 3 w3 (Q3.out.ut.below Q3.out.bel)).mono ?_
          rintro e w4 ⟨rfl, rfl⟩
          first | rw [show wrK 3 = true from rfl] | rw [show wrK 3 = false from rfl]
          go_wp2_with fail
          go_ret
          exact ⟨rfl, Q3.out.bel⟩
        · have HXE := Lib.hid (hxr.trans (show _ = (⟨2, 9, 4, 5, 0, zG, 1, kH⟩ : Rq) from rfl))
          clear hxr
          go_wp2_with fail
          refine (Reads_t 4 V (QV.out.ut.below QV.out.bel)).mono ?_
          rintro e w1 ⟨rfl, rfl⟩
          first | rw [show rdK 4 = true from rfl] | rw [show rdK 4 = false from rfl]
          go_wp2_with fail
          refine (otold_t V (QV.out.ut.below QV.out.bel)).mono ?_
          rintro e w2 ⟨rfl, b2⟩
          have Q2 := Lib.hid (QV.out.below b2)
          have X2 := Lib.hid Q2.out.box
          clear b2 QV
          go_wp2_with ((with_reducible refine load_blk_gdO 58 24 (.tmp 10) g 24 (rv x) _ ?_ ?_ rfl ?_ Tryd.underlying24 ?_ ?_ ?_ ?_); exact rfl; kernel_rfl; exact X2.out; exact rfl; exact rv_size x; exact rfl)
          refine (May_r x w2 (Q2.out.ut.below Q2.out.bel) Q2.out.rx).mono ?_
          rintro e w3 ⟨rfl, b3⟩
          rw [HXE.out]
          first | rw [show mayR ⟨2, 9, 4, 5, 0, zG, 1, kH⟩ = true from by decide +kernel] | rw [show mayR ⟨2, 9, 4, 5, 0, zG, 1, kH⟩ = false from by decide +kernel]
          have Q3 := Lib.hid (Q2.out.below b3)
          clear b3 Q2 X2
          go_wp2_with fail
          refine (Writes_t 4 w3 (Q3.out.ut.below Q3.out.bel)).mono ?_
          rintro e w4 ⟨rfl, rfl⟩
          first | rw [show wrK 4 = true from rfl] | rw [show wrK 4 = false from rfl]
          go_wp2_with fail
          go_ret
          exact ⟨rfl, Q3.out.bel⟩
        · have HXE := Lib.hid (hxr.trans (show _ = (⟨2, 9, 5, 5, 0, zG, 1, kH⟩ : Rq) from rfl))
          clear hxr
          go_wp2_with fail
          refine (Reads_t 5 V (QV.out.ut.below QV.out.bel)).mono ?_
          rintro e w1 ⟨rfl, rfl⟩
          first | rw [show rdK 5 = true from rfl] | rw [show rdK 5 = false from rfl]
          go_wp2_with fail
          refine (otold_t V (QV.out.ut.below QV.out.bel)).mono ?_
          rintro e w2 ⟨rfl, b2⟩
          have Q2 := Lib.hid (QV.out.below b2)
          have X2 := Lib.hid Q2.out.box
          clear b2 QV
          go_wp2_with ((with_reducible refine load_blk_gdO 58 24 (.tmp 10) g 24 (rv x) _ ?_ ?_ rfl ?_ Tryd.underlying24 ?_ ?_ ?_ ?_); exact rfl; kernel_rfl; exact X2.out; exact rfl; exact rv_size x; exact rfl)
          refine (May_r x w2 (Q2.out.ut.below Q2.out.bel) Q2.out.rx).mono ?_
          rintro e w3 ⟨rfl, b3⟩
          rw [HXE.out]
          first | rw [show mayR ⟨2, 9, 5, 5, 0, zG, 1, kH⟩ = true from by decide +kernel] | rw [show mayR ⟨2, 9, 5, 5, 0, zG, 1, kH⟩ = false from by decide +kernel]
          have Q3 := Lib.hid (Q2.out.below b3)
          clear b3 Q2 X2
          go_wp2_with fail
          refine (Writes_t 5 w3 (Q3.out.ut.below Q3.out.bel)).mono ?_
          rintro e w4 ⟨rfl, rfl⟩
          first | rw [show wrK 5 = true from rfl] | rw [show wrK 5 = false from rfl]
          go_wp2_with fail
          go_ret
          exact ⟨rfl, Q3.out.bel⟩
        · have HXE := Lib.hid (hxr.trans (show _ = (⟨2, 9, 6, 5, 0, zG, 1, kH⟩ : Rq) from rfl))
          clear hxr
          go_wp2_with fail
          refine (Reads_t 6 V (QV.out.ut.below QV.out.bel)).mono ?_
          rintro e w1 ⟨rfl, rfl⟩
          first | rw [show rdK 6 = true from rfl] | rw [show rdK 6 = false from rfl]
          go_wp2_with fail
          refine (otold_t V (QV.out.ut.below QV.out.bel)).mono ?_
          rintro e w2 ⟨rfl, b2⟩
          have Q2 := Lib.hid (QV.out.below b2)
          have X2 := Lib.hid Q2.out.box
          clear b2 QV
          go_wp2_with ((with_reducible refine load_blk_gdO 58 24 (.tmp 10) g 24 (rv x) _ ?_ ?_ rfl ?_ Tryd.underlying24 ?_ ?_ ?_ ?_); exact rfl; kernel_rfl; exact X2.out; exact rfl; exact rv_size x; exact rfl)
          refine (May_r x w2 (Q2.out.ut.below Q2.out.bel) Q2.out.rx).mono ?_
          rintro e w3 ⟨rfl, b3⟩
          rw [HXE.out]
          first | rw [show mayR ⟨2, 9, 6, 5, 0, zG, 1, kH⟩ = true from by decide +kernel] | rw [show mayR ⟨2, 9, 6, 5, 0, zG, 1, kH⟩ = false from by decide +kernel]
          have Q3 := Lib.hid (Q2.out.below b3)
          clear b3 Q2 X2
          go_wp2_with fail
          refine (Writes_t 6 w3 (Q3.out.ut.below Q3.out.bel)).mono ?_
          rintro e w4 ⟨rfl, rfl⟩
          first | rw [show wrK 6 = true from rfl] | rw [show wrK 6 = false from rfl]
          go_wp2_with fail
          go_ret
          exact ⟨rfl, Q3.out.bel⟩
        · have HXE := Lib.hid (hxr.trans (show _ = (⟨2, 9, 7, 5, 0, zG, 1, kH⟩ : Rq) from rfl))
          clear hxr
          go_wp2_with fail
          refine (Reads_t 7 V (QV.out.ut.below QV.out.bel)).mono ?_
          rintro e w1 ⟨rfl, rfl⟩
          first | rw [show rdK 7 = true from rfl] | rw [show rdK 7 = false from rfl]
          go_wp2_with fail
          refine (otold_t V (QV.out.ut.below QV.out.bel)).mono ?_
          rintro e w2 ⟨rfl, b2⟩
          have Q2 := Lib.hid (QV.out.below b2)
          have X2 := Lib.hid Q2.out.box
          clear b2 QV
          go_wp2_with ((with_reducible refine load_blk_gdO 58 24 (.tmp 10) g 24 (rv x) _ ?_ ?_ rfl ?_ Tryd.underlying24 ?_ ?_ ?_ ?_); exact rfl; kernel_rfl; exact X2.out; exact rfl; exact rv_size x; exact rfl)
          refine (May_r x w2 (Q2.out.ut.below Q2.out.bel) Q2.out.rx).mono ?_
          rintro e w3 ⟨rfl, b3⟩
          rw [HXE.out]
          first | rw [show mayR ⟨2, 9, 7, 5, 0, zG, 1, kH⟩ = true from by decide +kernel] | rw [show mayR ⟨2, 9, 7, 5, 0, zG, 1, kH⟩ = false from by decide +kernel]
          have Q3 := Lib.hid (Q2.out.below b3)
          clear b3 Q2 X2
          go_wp2_with fail
          refine (Writes_t 7 w3 (Q3.out.ut.below Q3.out.bel)).mono ?_
          rintro e w4 ⟨rfl, rfl⟩
          first | rw [show wrK 7 = true from rfl] | rw [show wrK 7 = false from rfl]
          go_wp2_with fail
          go_ret
          exact ⟨rfl, Q3.out.bel⟩
        · have HXE := Lib.hid (hxr.trans (show _ = (⟨2, 9, 8, 5, 0, zG, 1, kH⟩ : Rq) from rfl))
          clear hxr
          go_wp2_with fail
          refine (Reads_t 8 V (QV.out.ut.below QV.out.bel)).mono ?_
          rintro e w1 ⟨rfl, rfl⟩
          first | rw [show rdK 8 = true from rfl] | rw [show rdK 8 = false from rfl]
          go_wp2_with fail
          refine (otold_t V (QV.out.ut.below QV.out.bel)).mono ?_
          rintro e w2 ⟨rfl, b2⟩
          have Q2 := Lib.hid (QV.out.below b2)
          have X2 := Lib.hid Q2.out.box
          clear b2 QV
          go_wp2_with ((with_reducible refine load_blk_gdO 58 24 (.tmp 10) g 24 (rv x) _ ?_ ?_ rfl ?_ Tryd.underlying24 ?_ ?_ ?_ ?_); exact rfl; kernel_rfl; exact X2.out; exact rfl; exact rv_size x; exact rfl)
          refine (May_r x w2 (Q2.out.ut.below Q2.out.bel) Q2.out.rx).mono ?_
          rintro e w3 ⟨rfl, b3⟩
          rw [HXE.out]
          first | rw [show mayR ⟨2, 9, 8, 5, 0, zG, 1, kH⟩ = true from by decide +kernel] | rw [show mayR ⟨2, 9, 8, 5, 0, zG, 1, kH⟩ = false from by decide +kernel]
          have Q3 := Lib.hid (Q2.out.below b3)
          clear b3 Q2 X2
          go_wp2_with fail
          refine (Writes_t 8 w3 (Q3.out.ut.below Q3.out.bel)).mono ?_
          rintro e w4 ⟨rfl, rfl⟩
          first | rw [show wrK 8 = true from rfl] | rw [show wrK 8 = false from rfl]
          go_wp2_with fail
          go_ret
          exact ⟨rfl, Q3.out.bel⟩
  | true =>
    have QA := QX.out.below ((Below.refl _ _).alloc (Nat.le_refl _) (.cells #[.int .i64 5, .int .i64 0, .string { data := #[] }] 40))
    have fz := QA.box.frozen 3
    have ct := QA.box.cell 3
    have QY := Lib.hid QX.out.setP
    clear QX QA
    go_upto_region 5 with (fail)
    clear fz ct
    obtain ⟨gp, hgp⟩ : ∃ z, Y.heap.size = z := ⟨_, rfl⟩
    rw [hgp] at QY ⊢
    refine world_at (fun Y => KQ w Y g ⟨⟨2, 9, (k : Int), 0, 1, kG, 0, zG⟩, some ⟨gp, 0, none⟩, 1, none, 0⟩) QY.out ?_
    clear QY hgp
    rintro Z qx
    have QX := Lib.hid qx
    clear qx
    cases t with
    | false =>
      cases lease with
      | false =>
        go_upto_region 9 with (fail)
        refine world_at (fun Y => KQ w Y g ⟨⟨2, 9, (k : Int), 0, 1, kG, 0, zG⟩, some ⟨gp, 0, none⟩, 1, none, 0⟩) QX.out ?_
        clear QX
        rintro V qx
        have QX := Lib.hid qx
        clear qx
        obtain ⟨x, hxe⟩ : ∃ x : Rv, ⟨⟨2, 9, (k : Int), 0, 1, kG, 0, zG⟩, some ⟨gp, 0, none⟩, 1, none, 0⟩ = x := ⟨_, rfl⟩
        rw [hxe] at QX
        have hxr : x.r = ⟨2, 9, (k : Int), 0, 1, kG, 0, zG⟩ := by rw [← hxe]
        clear hxe
        have hk8 : k = 1 ∨ k = 2 ∨ k = 3 ∨ k = 4 ∨ k = 5 ∨ k = 6 ∨ k = 7 ∨ k = 8 := by omega
        have QV := QX
        clear QX hk1 hk9
        rcases hk8 with rfl | rfl | rfl | rfl | rfl | rfl | rfl | rfl
        · have HXE := Lib.hid (hxr.trans (show _ = (⟨2, 9, 1, 0, 1, kG, 0, zG⟩ : Rq) from rfl))
          clear hxr
          go_wp2_with fail
          refine (Reads_t 1 V (QV.out.ut.below QV.out.bel)).mono ?_
          rintro e w1 ⟨rfl, rfl⟩
          first | rw [show rdK 1 = true from rfl] | rw [show rdK 1 = false from rfl]
          go_wp2_with fail
          refine (otold_t V (QV.out.ut.below QV.out.bel)).mono ?_
          rintro e w2 ⟨rfl, b2⟩
          have Q2 := Lib.hid (QV.out.below b2)
          have X2 := Lib.hid Q2.out.box
          clear b2 QV
          go_wp2_with ((with_reducible refine load_blk_gdO 58 24 (.tmp 10) g 24 (rv x) _ ?_ ?_ rfl ?_ Tryd.underlying24 ?_ ?_ ?_ ?_); exact rfl; kernel_rfl; exact X2.out; exact rfl; exact rv_size x; exact rfl)
          refine (May_r x w2 (Q2.out.ut.below Q2.out.bel) Q2.out.rx).mono ?_
          rintro e w3 ⟨rfl, b3⟩
          rw [HXE.out]
          first | rw [show mayR ⟨2, 9, 1, 0, 1, kG, 0, zG⟩ = true from by decide +kernel] | rw [show mayR ⟨2, 9, 1, 0, 1, kG, 0, zG⟩ = false from by decide +kernel]
          have Q3 := Lib.hid (Q2.out.below b3)
          clear b3 Q2 X2
          go_wp2_with fail
          refine (Writes_t 1 w3 (Q3.out.ut.below Q3.out.bel)).mono ?_
          rintro e w4 ⟨rfl, rfl⟩
          first | rw [show wrK 1 = true from rfl] | rw [show wrK 1 = false from rfl]
          go_wp2_with fail
          go_ret
          exact ⟨rfl, Q3.out.bel⟩
        · have HXE := Lib.hid (hxr.trans (show _ = (⟨2, 9, 2, 0, 1, kG, 0, zG⟩ : Rq) from rfl))
          clear hxr
          go_wp2_with fail
          refine (Reads_t 2 V (QV.out.ut.below QV.out.bel)).mono ?_
          rintro e w1 ⟨rfl, rfl⟩
          first | rw [show rdK 2 = true from rfl] | rw [show rdK 2 = false from rfl]
          go_wp2_with fail
          refine (otold_t V (QV.out.ut.below QV.out.bel)).mono ?_
          rintro e w2 ⟨rfl, b2⟩
          have Q2 := Lib.hid (QV.out.below b2)
          have X2 := Lib.hid Q2.out.box
          clear b2 QV
          go_wp2_with ((with_reducible refine load_blk_gdO 58 24 (.tmp 10) g 24 (rv x) _ ?_ ?_ rfl ?_ Tryd.underlying24 ?_ ?_ ?_ ?_); exact rfl; kernel_rfl; exact X2.out; exact rfl; exact rv_size x; exact rfl)
          refine (May_r x w2 (Q2.out.ut.below Q2.out.bel) Q2.out.rx).mono ?_
          rintro e w3 ⟨rfl, b3⟩
          rw [HXE.out]
          first | rw [show mayR ⟨2, 9, 2, 0, 1, kG, 0, zG⟩ = true from by decide +kernel] | rw [show mayR ⟨2, 9, 2, 0, 1, kG, 0, zG⟩ = false from by decide +kernel]
          have Q3 := Lib.hid (Q2.out.below b3)
          clear b3 Q2 X2
          go_wp2_with fail
          refine (Writes_t 2 w3 (Q3.out.ut.below Q3.out.bel)).mono ?_
          rintro e w4 ⟨rfl, rfl⟩
          first | rw [show wrK 2 = true from rfl] | rw [show wrK 2 = false from rfl]
          go_wp2_with fail
          go_ret
          exact ⟨rfl, Q3.out.bel⟩
        · have HXE := Lib.hid (hxr.trans (show _ = (⟨2, 9, 3, 0, 1, kG, 0, zG⟩ : Rq) from rfl))
          clear hxr
          go_wp2_with fail
          refine (Reads_t 3 V (QV.out.ut.below QV.out.bel)).mono ?_
          rintro e w1 ⟨rfl, rfl⟩
          first | rw [show rdK 3 = true from rfl] | rw [show rdK 3 = false from rfl]
          go_wp2_with fail
          refine (otold_t V (QV.out.ut.below QV.out.bel)).mono ?_
          rintro e w2 ⟨rfl, b2⟩
          have Q2 := Lib.hid (QV.out.below b2)
          have X2 := Lib.hid Q2.out.box
          clear b2 QV
          go_wp2_with ((with_reducible refine load_blk_gdO 58 24 (.tmp 10) g 24 (rv x) _ ?_ ?_ rfl ?_ Tryd.underlying24 ?_ ?_ ?_ ?_); exact rfl; kernel_rfl; exact X2.out; exact rfl; exact rv_size x; exact rfl)
          refine (May_r x w2 (Q2.out.ut.below Q2.out.bel) Q2.out.rx).mono ?_
          rintro e w3 ⟨rfl, b3⟩
          rw [HXE.out]
          first | rw [show mayR ⟨2, 9, 3, 0, 1, kG, 0, zG⟩ = true from by decide +kernel] | rw [show mayR ⟨2, 9, 3, 0, 1, kG, 0, zG⟩ = false from by decide +kernel]
          have Q3 := Lib.hid (Q2.out.below b3)
          clear b3 Q2 X2
          go_wp2_with fail
          refine (Writes_t 3 w3 (Q3.out.ut.below Q3.out.bel)).mono ?_
          rintro e w4 ⟨rfl, rfl⟩
          first | rw [show wrK 3 = true from rfl] | rw [show wrK 3 = false from rfl]
          go_wp2_with fail
          go_ret
          exact ⟨rfl, Q3.out.bel⟩
        · have HXE := Lib.hid (hxr.trans (show _ = (⟨2, 9, 4, 0, 1, kG, 0, zG⟩ : Rq) from rfl))
          clear hxr
          go_wp2_with fail
          refine (Reads_t 4 V (QV.out.ut.below QV.out.bel)).mono ?_
          rintro e w1 ⟨rfl, rfl⟩
          first | rw [show rdK 4 = true from rfl] | rw [show rdK 4 = false from rfl]
          go_wp2_with fail
          refine (otold_t V (QV.out.ut.below QV.out.bel)).mono ?_
          rintro e w2 ⟨rfl, b2⟩
          have Q2 := Lib.hid (QV.out.below b2)
          have X2 := Lib.hid Q2.out.box
          clear b2 QV
          go_wp2_with ((with_reducible refine load_blk_gdO 58 24 (.tmp 10) g 24 (rv x) _ ?_ ?_ rfl ?_ Tryd.underlying24 ?_ ?_ ?_ ?_); exact rfl; kernel_rfl; exact X2.out; exact rfl; exact rv_size x; exact rfl)
          refine (May_r x w2 (Q2.out.ut.below Q2.out.bel) Q2.out.rx).mono ?_
          rintro e w3 ⟨rfl, b3⟩
          rw [HXE.out]
          first | rw [show mayR ⟨2, 9, 4, 0, 1, kG, 0, zG⟩ = true from by decide +kernel] | rw [show mayR ⟨2, 9, 4, 0, 1, kG, 0, zG⟩ = false from by decide +kernel]
          have Q3 := Lib.hid (Q2.out.below b3)
          clear b3 Q2 X2
          go_wp2_with fail
          refine (Writes_t 4 w3 (Q3.out.ut.below Q3.out.bel)).mono ?_
          rintro e w4 ⟨rfl, rfl⟩
          first | rw [show wrK 4 = true from rfl] | rw [show wrK 4 = false from rfl]
          go_wp2_with fail
          go_ret
          exact ⟨rfl, Q3.out.bel⟩
        · have HXE := Lib.hid (hxr.trans (show _ = (⟨2, 9, 5, 0, 1, kG, 0, zG⟩ : Rq) from rfl))
          clear hxr
          go_wp2_with fail
          refine (Reads_t 5 V (QV.out.ut.below QV.out.bel)).mono ?_
          rintro e w1 ⟨rfl, rfl⟩
          first | rw [show rdK 5 = true from rfl] | rw [show rdK 5 = false from rfl]
          go_wp2_with fail
          refine (otold_t V (QV.out.ut.below QV.out.bel)).mono ?_
          rintro e w2 ⟨rfl, b2⟩
          have Q2 := Lib.hid (QV.out.below b2)
          have X2 := Lib.hid Q2.out.box
          clear b2 QV
          go_wp2_with ((with_reducible refine load_blk_gdO 58 24 (.tmp 10) g 24 (rv x) _ ?_ ?_ rfl ?_ Tryd.underlying24 ?_ ?_ ?_ ?_); exact rfl; kernel_rfl; exact X2.out; exact rfl; exact rv_size x; exact rfl)
          refine (May_r x w2 (Q2.out.ut.below Q2.out.bel) Q2.out.rx).mono ?_
          rintro e w3 ⟨rfl, b3⟩
          rw [HXE.out]
          first | rw [show mayR ⟨2, 9, 5, 0, 1, kG, 0, zG⟩ = true from by decide +kernel] | rw [show mayR ⟨2, 9, 5, 0, 1, kG, 0, zG⟩ = false from by decide +kernel]
          have Q3 := Lib.hid (Q2.out.below b3)
          clear b3 Q2 X2
          go_wp2_with fail
          refine (Writes_t 5 w3 (Q3.out.ut.below Q3.out.bel)).mono ?_
          rintro e w4 ⟨rfl, rfl⟩
          first | rw [show wrK 5 = true from rfl] | rw [show wrK 5 = false from rfl]
          go_wp2_with fail
          go_ret
          exact ⟨rfl, Q3.out.bel⟩
        · have HXE := Lib.hid (hxr.trans (show _ = (⟨2, 9, 6, 0, 1, kG, 0, zG⟩ : Rq) from rfl))
          clear hxr
          go_wp2_with fail
          refine (Reads_t 6 V (QV.out.ut.below QV.out.bel)).mono ?_
          rintro e w1 ⟨rfl, rfl⟩
          first | rw [show rdK 6 = true from rfl] | rw [show rdK 6 = false from rfl]
          go_wp2_with fail
          refine (otold_t V (QV.out.ut.below QV.out.bel)).mono ?_
          rintro e w2 ⟨rfl, b2⟩
          have Q2 := Lib.hid (QV.out.below b2)
          have X2 := Lib.hid Q2.out.box
          clear b2 QV
          go_wp2_with ((with_reducible refine load_blk_gdO 58 24 (.tmp 10) g 24 (rv x) _ ?_ ?_ rfl ?_ Tryd.underlying24 ?_ ?_ ?_ ?_); exact rfl; kernel_rfl; exact X2.out; exact rfl; exact rv_size x; exact rfl)
          refine (May_r x w2 (Q2.out.ut.below Q2.out.bel) Q2.out.rx).mono ?_
          rintro e w3 ⟨rfl, b3⟩
          rw [HXE.out]
          first | rw [show mayR ⟨2, 9, 6, 0, 1, kG, 0, zG⟩ = true from by decide +kernel] | rw [show mayR ⟨2, 9, 6, 0, 1, kG, 0, zG⟩ = false from by decide +kernel]
          have Q3 := Lib.hid (Q2.out.below b3)
          clear b3 Q2 X2
          go_wp2_with fail
          refine (Writes_t 6 w3 (Q3.out.ut.below Q3.out.bel)).mono ?_
          rintro e w4 ⟨rfl, rfl⟩
          first | rw [show wrK 6 = true from rfl] | rw [show wrK 6 = false from rfl]
          go_wp2_with fail
          go_ret
          exact ⟨rfl, Q3.out.bel⟩
        · have HXE := Lib.hid (hxr.trans (show _ = (⟨2, 9, 7, 0, 1, kG, 0, zG⟩ : Rq) from rfl))
          clear hxr
          go_wp2_with fail
          refine (Reads_t 7 V (QV.out.ut.below QV.out.bel)).mono ?_
          rintro e w1 ⟨rfl, rfl⟩
          first | rw [show rdK 7 = true from rfl] | rw [show rdK 7 = false from rfl]
          go_wp2_with fail
          refine (otold_t V (QV.out.ut.below QV.out.bel)).mono ?_
          rintro e w2 ⟨rfl, b2⟩
          have Q2 := Lib.hid (QV.out.below b2)
          have X2 := Lib.hid Q2.out.box
          clear b2 QV
          go_wp2_with ((with_reducible refine load_blk_gdO 58 24 (.tmp 10) g 24 (rv x) _ ?_ ?_ rfl ?_ Tryd.underlying24 ?_ ?_ ?_ ?_); exact rfl; kernel_rfl; exact X2.out; exact rfl; exact rv_size x; exact rfl)
          refine (May_r x w2 (Q2.out.ut.below Q2.out.bel) Q2.out.rx).mono ?_
          rintro e w3 ⟨rfl, b3⟩
          rw [HXE.out]
          first | rw [show mayR ⟨2, 9, 7, 0, 1, kG, 0, zG⟩ = true from by decide +kernel] | rw [show mayR ⟨2, 9, 7, 0, 1, kG, 0, zG⟩ = false from by decide +kernel]
          have Q3 := Lib.hid (Q2.out.below b3)
          clear b3 Q2 X2
          go_wp2_with fail
          refine (Writes_t 7 w3 (Q3.out.ut.below Q3.out.bel)).mono ?_
          rintro e w4 ⟨rfl, rfl⟩
          first | rw [show wrK 7 = true from rfl] | rw [show wrK 7 = false from rfl]
          go_wp2_with fail
          go_ret
          exact ⟨rfl, Q3.out.bel⟩
        · have HXE := Lib.hid (hxr.trans (show _ = (⟨2, 9, 8, 0, 1, kG, 0, zG⟩ : Rq) from rfl))
          clear hxr
          go_wp2_with fail
          refine (Reads_t 8 V (QV.out.ut.below QV.out.bel)).mono ?_
          rintro e w1 ⟨rfl, rfl⟩
          first | rw [show rdK 8 = true from rfl] | rw [show rdK 8 = false from rfl]
          go_wp2_with fail
          refine (otold_t V (QV.out.ut.below QV.out.bel)).mono ?_
          rintro e w2 ⟨rfl, b2⟩
          have Q2 := Lib.hid (QV.out.below b2)
          have X2 := Lib.hid Q2.out.box
          clear b2 QV
          go_wp2_with ((with_reducible refine load_blk_gdO 58 24 (.tmp 10) g 24 (rv x) _ ?_ ?_ rfl ?_ Tryd.underlying24 ?_ ?_ ?_ ?_); exact rfl; kernel_rfl; exact X2.out; exact rfl; exact rv_size x; exact rfl)
          refine (May_r x w2 (Q2.out.ut.below Q2.out.bel) Q2.out.rx).mono ?_
          rintro e w3 ⟨rfl, b3⟩
          rw [HXE.out]
          first | rw [show mayR ⟨2, 9, 8, 0, 1, kG, 0, zG⟩ = true from by decide +kernel] | rw [show mayR ⟨2, 9, 8, 0, 1, kG, 0, zG⟩ = false from by decide +kernel]
          have Q3 := Lib.hid (Q2.out.below b3)
          clear b3 Q2 X2
          go_wp2_with fail
          refine (Writes_t 8 w3 (Q3.out.ut.below Q3.out.bel)).mono ?_
          rintro e w4 ⟨rfl, rfl⟩
          first | rw [show wrK 8 = true from rfl] | rw [show wrK 8 = false from rfl]
          go_wp2_with fail
          go_ret
          exact ⟨rfl, Q3.out.bel⟩
      | true =>
        have fz := QX.out.box.frozen 5
        have ct := QX.out.box.cell 5
        have QY := Lib.hid QX.out.setL
        clear QX
        go_upto_region 9 with (fail)
        clear fz ct
        refine world_at (fun Y => KQ w Y g ⟨⟨2, 9, (k : Int), 5, 1, kG, 0, zG⟩, some ⟨gp, 0, none⟩, 1, none, 0⟩) QY.out ?_
        clear QY
        rintro V qx
        have QX := Lib.hid qx
        clear qx
        obtain ⟨x, hxe⟩ : ∃ x : Rv, ⟨⟨2, 9, (k : Int), 5, 1, kG, 0, zG⟩, some ⟨gp, 0, none⟩, 1, none, 0⟩ = x := ⟨_, rfl⟩
        rw [hxe] at QX
        have hxr : x.r = ⟨2, 9, (k : Int), 5, 1, kG, 0, zG⟩ := by rw [← hxe]
        clear hxe
        have hk8 : k = 1 ∨ k = 2 ∨ k = 3 ∨ k = 4 ∨ k = 5 ∨ k = 6 ∨ k = 7 ∨ k = 8 := by omega
        have QV := QX
        clear QX hk1 hk9
        rcases hk8 with rfl | rfl | rfl | rfl | rfl | rfl | rfl | rfl
        · have HXE := Lib.hid (hxr.trans (show _ = (⟨2, 9, 1, 5, 1, kG, 0, zG⟩ : Rq) from rfl))
          clear hxr
          go_wp2_with fail
          refine (Reads_t 1 V (QV.out.ut.below QV.out.bel)).mono ?_
          rintro e w1 ⟨rfl, rfl⟩
          first | rw [show rdK 1 = true from rfl] | rw [show rdK 1 = false from rfl]
          go_wp2_with fail
          refine (otold_t V (QV.out.ut.below QV.out.bel)).mono ?_
          rintro e w2 ⟨rfl, b2⟩
          have Q2 := Lib.hid (QV.out.below b2)
          have X2 := Lib.hid Q2.out.box
          clear b2 QV
          go_wp2_with ((with_reducible refine load_blk_gdO 58 24 (.tmp 10) g 24 (rv x) _ ?_ ?_ rfl ?_ Tryd.underlying24 ?_ ?_ ?_ ?_); exact rfl; kernel_rfl; exact X2.out; exact rfl; exact rv_size x; exact rfl)
          refine (May_r x w2 (Q2.out.ut.below Q2.out.bel) Q2.out.rx).mono ?_
          rintro e w3 ⟨rfl, b3⟩
          rw [HXE.out]
          first | rw [show mayR ⟨2, 9, 1, 5, 1, kG, 0, zG⟩ = true from by decide +kernel] | rw [show mayR ⟨2, 9, 1, 5, 1, kG, 0, zG⟩ = false from by decide +kernel]
          have Q3 := Lib.hid (Q2.out.below b3)
          clear b3 Q2 X2
          go_wp2_with fail
          refine (Writes_t 1 w3 (Q3.out.ut.below Q3.out.bel)).mono ?_
          rintro e w4 ⟨rfl, rfl⟩
          first | rw [show wrK 1 = true from rfl] | rw [show wrK 1 = false from rfl]
          go_wp2_with fail
          go_ret
          exact ⟨rfl, Q3.out.bel⟩
        · have HXE := Lib.hid (hxr.trans (show _ = (⟨2, 9, 2, 5, 1, kG, 0, zG⟩ : Rq) from rfl))
          clear hxr
          go_wp2_with fail
          refine (Reads_t 2 V (QV.out.ut.below QV.out.bel)).mono ?_
          rintro e w1 ⟨rfl, rfl⟩
          first | rw [show rdK 2 = true from rfl] | rw [show rdK 2 = false from rfl]
          go_wp2_with fail
          refine (otold_t V (QV.out.ut.below QV.out.bel)).mono ?_
          rintro e w2 ⟨rfl, b2⟩
          have Q2 := Lib.hid (QV.out.below b2)
          have X2 := Lib.hid Q2.out.box
          clear b2 QV
          go_wp2_with ((with_reducible refine load_blk_gdO 58 24 (.tmp 10) g 24 (rv x) _ ?_ ?_ rfl ?_ Tryd.underlying24 ?_ ?_ ?_ ?_); exact rfl; kernel_rfl; exact X2.out; exact rfl; exact rv_size x; exact rfl)
          refine (May_r x w2 (Q2.out.ut.below Q2.out.bel) Q2.out.rx).mono ?_
          rintro e w3 ⟨rfl, b3⟩
          rw [HXE.out]
          first | rw [show mayR ⟨2, 9, 2, 5, 1, kG, 0, zG⟩ = true from by decide +kernel] | rw [show mayR ⟨2, 9, 2, 5, 1, kG, 0, zG⟩ = false from by decide +kernel]
          have Q3 := Lib.hid (Q2.out.below b3)
          clear b3 Q2 X2
          go_wp2_with fail
          refine (Writes_t 2 w3 (Q3.out.ut.below Q3.out.bel)).mono ?_
          rintro e w4 ⟨rfl, rfl⟩
          first | rw [show wrK 2 = true from rfl] | rw [show wrK 2 = false from rfl]
          go_wp2_with fail
          go_ret
          exact ⟨rfl, Q3.out.bel⟩
        · have HXE := Lib.hid (hxr.trans (show _ = (⟨2, 9, 3, 5, 1, kG, 0, zG⟩ : Rq) from rfl))
          clear hxr
          go_wp2_with fail
          refine (Reads_t 3 V (QV.out.ut.below QV.out.bel)).mono ?_
          rintro e w1 ⟨rfl, rfl⟩
          first | rw [show rdK 3 = true from rfl] | rw [show rdK 3 = false from rfl]
          go_wp2_with fail
          refine (otold_t V (QV.out.ut.below QV.out.bel)).mono ?_
          rintro e w2 ⟨rfl, b2⟩
          have Q2 := Lib.hid (QV.out.below b2)
          have X2 := Lib.hid Q2.out.box
          clear b2 QV
          go_wp2_with ((with_reducible refine load_blk_gdO 58 24 (.tmp 10) g 24 (rv x) _ ?_ ?_ rfl ?_ Tryd.underlying24 ?_ ?_ ?_ ?_); exact rfl; kernel_rfl; exact X2.out; exact rfl; exact rv_size x; exact rfl)
          refine (May_r x w2 (Q2.out.ut.below Q2.out.bel) Q2.out.rx).mono ?_
          rintro e w3 ⟨rfl, b3⟩
          rw [HXE.out]
          first | rw [show mayR ⟨2, 9, 3, 5, 1, kG, 0, zG⟩ = true from by decide +kernel] | rw [show mayR ⟨2, 9, 3, 5, 1, kG, 0, zG⟩ = false from by decide +kernel]
          have Q3 := Lib.hid (Q2.out.below b3)
          clear b3 Q2 X2
          go_wp2_with fail
          refine (Writes_t 3 w3 (Q3.out.ut.below Q3.out.bel)).mono ?_
          rintro e w4 ⟨rfl, rfl⟩
          first | rw [show wrK 3 = true from rfl] | rw [show wrK 3 = false from rfl]
          go_wp2_with fail
          go_ret
          exact ⟨rfl, Q3.out.bel⟩
        · have HXE := Lib.hid (hxr.trans (show _ = (⟨2, 9, 4, 5, 1, kG, 0, zG⟩ : Rq) from rfl))
          clear hxr
          go_wp2_with fail
          refine (Reads_t 4 V (QV.out.ut.below QV.out.bel)).mono ?_
          rintro e w1 ⟨rfl, rfl⟩
          first | rw [show rdK 4 = true from rfl] | rw [show rdK 4 = false from rfl]
          go_wp2_with fail
          refine (otold_t V (QV.out.ut.below QV.out.bel)).mono ?_
          rintro e w2 ⟨rfl, b2⟩
          have Q2 := Lib.hid (QV.out.below b2)
          have X2 := Lib.hid Q2.out.box
          clear b2 QV
          go_wp2_with ((with_reducible refine load_blk_gdO 58 24 (.tmp 10) g 24 (rv x) _ ?_ ?_ rfl ?_ Tryd.underlying24 ?_ ?_ ?_ ?_); exact rfl; kernel_rfl; exact X2.out; exact rfl; exact rv_size x; exact rfl)
          refine (May_r x w2 (Q2.out.ut.below Q2.out.bel) Q2.out.rx).mono ?_
          rintro e w3 ⟨rfl, b3⟩
          rw [HXE.out]
          first | rw [show mayR ⟨2, 9, 4, 5, 1, kG, 0, zG⟩ = true from by decide +kernel] | rw [show mayR ⟨2, 9, 4, 5, 1, kG, 0, zG⟩ = false from by decide +kernel]
          have Q3 := Lib.hid (Q2.out.below b3)
          clear b3 Q2 X2
          go_wp2_with fail
          refine (Writes_t 4 w3 (Q3.out.ut.below Q3.out.bel)).mono ?_
          rintro e w4 ⟨rfl, rfl⟩
          first | rw [show wrK 4 = true from rfl] | rw [show wrK 4 = false from rfl]
          go_wp2_with fail
          go_ret
          exact ⟨rfl, Q3.out.bel⟩
        · have HXE := Lib.hid (hxr.trans (show _ = (⟨2, 9, 5, 5, 1, kG, 0, zG⟩ : Rq) from rfl))
          clear hxr
          go_wp2_with fail
          refine (Reads_t 5 V (QV.out.ut.below QV.out.bel)).mono ?_
          rintro e w1 ⟨rfl, rfl⟩
          first | rw [show rdK 5 = true from rfl] | rw [show rdK 5 = false from rfl]
          go_wp2_with fail
          refine (otold_t V (QV.out.ut.below QV.out.bel)).mono ?_
          rintro e w2 ⟨rfl, b2⟩
          have Q2 := Lib.hid (QV.out.below b2)
          have X2 := Lib.hid Q2.out.box
          clear b2 QV
          go_wp2_with ((with_reducible refine load_blk_gdO 58 24 (.tmp 10) g 24 (rv x) _ ?_ ?_ rfl ?_ Tryd.underlying24 ?_ ?_ ?_ ?_); exact rfl; kernel_rfl; exact X2.out; exact rfl; exact rv_size x; exact rfl)
          refine (May_r x w2 (Q2.out.ut.below Q2.out.bel) Q2.out.rx).mono ?_
          rintro e w3 ⟨rfl, b3⟩
          rw [HXE.out]
          first | rw [show mayR ⟨2, 9, 5, 5, 1, kG, 0, zG⟩ = true from by decide +kernel] | rw [show mayR ⟨2, 9, 5, 5, 1, kG, 0, zG⟩ = false from by decide +kernel]
          have Q3 := Lib.hid (Q2.out.below b3)
          clear b3 Q2 X2
          go_wp2_with fail
          refine (Writes_t 5 w3 (Q3.out.ut.below Q3.out.bel)).mono ?_
          rintro e w4 ⟨rfl, rfl⟩
          first | rw [show wrK 5 = true from rfl] | rw [show wrK 5 = false from rfl]
          go_wp2_with fail
          go_ret
          exact ⟨rfl, Q3.out.bel⟩
        · have HXE := Lib.hid (hxr.trans (show _ = (⟨2, 9, 6, 5, 1, kG, 0, zG⟩ : Rq) from rfl))
          clear hxr
          go_wp2_with fail
          refine (Reads_t 6 V (QV.out.ut.below QV.out.bel)).mono ?_
          rintro e w1 ⟨rfl, rfl⟩
          first | rw [show rdK 6 = true from rfl] | rw [show rdK 6 = false from rfl]
          go_wp2_with fail
          refine (otold_t V (QV.out.ut.below QV.out.bel)).mono ?_
          rintro e w2 ⟨rfl, b2⟩
          have Q2 := Lib.hid (QV.out.below b2)
          have X2 := Lib.hid Q2.out.box
          clear b2 QV
          go_wp2_with ((with_reducible refine load_blk_gdO 58 24 (.tmp 10) g 24 (rv x) _ ?_ ?_ rfl ?_ Tryd.underlying24 ?_ ?_ ?_ ?_); exact rfl; kernel_rfl; exact X2.out; exact rfl; exact rv_size x; exact rfl)
          refine (May_r x w2 (Q2.out.ut.below Q2.out.bel) Q2.out.rx).mono ?_
          rintro e w3 ⟨rfl, b3⟩
          rw [HXE.out]
          first | rw [show mayR ⟨2, 9, 6, 5, 1, kG, 0, zG⟩ = true from by decide +kernel] | rw [show mayR ⟨2, 9, 6, 5, 1, kG, 0, zG⟩ = false from by decide +kernel]
          have Q3 := Lib.hid (Q2.out.below b3)
          clear b3 Q2 X2
          go_wp2_with fail
          refine (Writes_t 6 w3 (Q3.out.ut.below Q3.out.bel)).mono ?_
          rintro e w4 ⟨rfl, rfl⟩
          first | rw [show wrK 6 = true from rfl] | rw [show wrK 6 = false from rfl]
          go_wp2_with fail
          go_ret
          exact ⟨rfl, Q3.out.bel⟩
        · have HXE := Lib.hid (hxr.trans (show _ = (⟨2, 9, 7, 5, 1, kG, 0, zG⟩ : Rq) from rfl))
          clear hxr
          go_wp2_with fail
          refine (Reads_t 7 V (QV.out.ut.below QV.out.bel)).mono ?_
          rintro e w1 ⟨rfl, rfl⟩
          first | rw [show rdK 7 = true from rfl] | rw [show rdK 7 = false from rfl]
          go_wp2_with fail
          refine (otold_t V (QV.out.ut.below QV.out.bel)).mono ?_
          rintro e w2 ⟨rfl, b2⟩
          have Q2 := Lib.hid (QV.out.below b2)
          have X2 := Lib.hid Q2.out.box
          clear b2 QV
          go_wp2_with ((with_reducible refine load_blk_gdO 58 24 (.tmp 10) g 24 (rv x) _ ?_ ?_ rfl ?_ Tryd.underlying24 ?_ ?_ ?_ ?_); exact rfl; kernel_rfl; exact X2.out; exact rfl; exact rv_size x; exact rfl)
          refine (May_r x w2 (Q2.out.ut.below Q2.out.bel) Q2.out.rx).mono ?_
          rintro e w3 ⟨rfl, b3⟩
          rw [HXE.out]
          first | rw [show mayR ⟨2, 9, 7, 5, 1, kG, 0, zG⟩ = true from by decide +kernel] | rw [show mayR ⟨2, 9, 7, 5, 1, kG, 0, zG⟩ = false from by decide +kernel]
          have Q3 := Lib.hid (Q2.out.below b3)
          clear b3 Q2 X2
          go_wp2_with fail
          refine (Writes_t 7 w3 (Q3.out.ut.below Q3.out.bel)).mono ?_
          rintro e w4 ⟨rfl, rfl⟩
          first | rw [show wrK 7 = true from rfl] | rw [show wrK 7 = false from rfl]
          go_wp2_with fail
          go_ret
          exact ⟨rfl, Q3.out.bel⟩
        · have HXE := Lib.hid (hxr.trans (show _ = (⟨2, 9, 8, 5, 1, kG, 0, zG⟩ : Rq) from rfl))
          clear hxr
          go_wp2_with fail
          refine (Reads_t 8 V (QV.out.ut.below QV.out.bel)).mono ?_
          rintro e w1 ⟨rfl, rfl⟩
          first | rw [show rdK 8 = true from rfl] | rw [show rdK 8 = false from rfl]
          go_wp2_with fail
          refine (otold_t V (QV.out.ut.below QV.out.bel)).mono ?_
          rintro e w2 ⟨rfl, b2⟩
          have Q2 := Lib.hid (QV.out.below b2)
          have X2 := Lib.hid Q2.out.box
          clear b2 QV
          go_wp2_with ((with_reducible refine load_blk_gdO 58 24 (.tmp 10) g 24 (rv x) _ ?_ ?_ rfl ?_ Tryd.underlying24 ?_ ?_ ?_ ?_); exact rfl; kernel_rfl; exact X2.out; exact rfl; exact rv_size x; exact rfl)
          refine (May_r x w2 (Q2.out.ut.below Q2.out.bel) Q2.out.rx).mono ?_
          rintro e w3 ⟨rfl, b3⟩
          rw [HXE.out]
          first | rw [show mayR ⟨2, 9, 8, 5, 1, kG, 0, zG⟩ = true from by decide +kernel] | rw [show mayR ⟨2, 9, 8, 5, 1, kG, 0, zG⟩ = false from by decide +kernel]
          have Q3 := Lib.hid (Q2.out.below b3)
          clear b3 Q2 X2
          go_wp2_with fail
          refine (Writes_t 8 w3 (Q3.out.ut.below Q3.out.bel)).mono ?_
          rintro e w4 ⟨rfl, rfl⟩
          first | rw [show wrK 8 = true from rfl] | rw [show wrK 8 = false from rfl]
          go_wp2_with fail
          go_ret
          exact ⟨rfl, Q3.out.bel⟩
    | true =>
      have QA := QX.out.below ((Below.refl _ _).alloc (Nat.le_refl _) (.cells #[.int .i64 2, .int .i64 0, .string { data := #[120] }] 40))
      have fz := QA.box.frozen 4
      have ct := QA.box.cell 4
      have QY := Lib.hid QX.out.setT
      clear QX QA
      go_upto_region 7 with (fail)
      clear fz ct
      obtain ⟨gt2, hgt⟩ : ∃ z, Z.heap.size = z := ⟨_, rfl⟩
      rw [hgt] at QY ⊢
      refine world_at (fun Y => KQ w Y g ⟨⟨2, 9, (k : Int), 0, 1, kG, 1, kH⟩, some ⟨gp, 0, none⟩, 1, some ⟨gt2, 0, none⟩, 1⟩) QY.out ?_
      clear QY hgt
      rintro Z2 qx
      have QX := Lib.hid qx
      clear qx
      cases lease with
      | false =>
        go_upto_region 9 with (fail)
        refine world_at (fun Y => KQ w Y g ⟨⟨2, 9, (k : Int), 0, 1, kG, 1, kH⟩, some ⟨gp, 0, none⟩, 1, some ⟨gt2, 0, none⟩, 1⟩) QX.out ?_
        clear QX
        rintro V qx
        have QX := Lib.hid qx
        clear qx
        obtain ⟨x, hxe⟩ : ∃ x : Rv, ⟨⟨2, 9, (k : Int), 0, 1, kG, 1, kH⟩, some ⟨gp, 0, none⟩, 1, some ⟨gt2, 0, none⟩, 1⟩ = x := ⟨_, rfl⟩
        rw [hxe] at QX
        have hxr : x.r = ⟨2, 9, (k : Int), 0, 1, kG, 1, kH⟩ := by rw [← hxe]
        clear hxe
        have hk8 : k = 1 ∨ k = 2 ∨ k = 3 ∨ k = 4 ∨ k = 5 ∨ k = 6 ∨ k = 7 ∨ k = 8 := by omega
        have QV := QX
        clear QX hk1 hk9
        rcases hk8 with rfl | rfl | rfl | rfl | rfl | rfl | rfl | rfl
        · have HXE := Lib.hid (hxr.trans (show _ = (⟨2, 9, 1, 0, 1, kG, 1, kH⟩ : Rq) from rfl))
          clear hxr
          go_wp2_with fail
          refine (Reads_t 1 V (QV.out.ut.below QV.out.bel)).mono ?_
          rintro e w1 ⟨rfl, rfl⟩
          first | rw [show rdK 1 = true from rfl] | rw [show rdK 1 = false from rfl]
          go_wp2_with fail
          refine (otold_t V (QV.out.ut.below QV.out.bel)).mono ?_
          rintro e w2 ⟨rfl, b2⟩
          have Q2 := Lib.hid (QV.out.below b2)
          have X2 := Lib.hid Q2.out.box
          clear b2 QV
          go_wp2_with ((with_reducible refine load_blk_gdO 58 24 (.tmp 10) g 24 (rv x) _ ?_ ?_ rfl ?_ Tryd.underlying24 ?_ ?_ ?_ ?_); exact rfl; kernel_rfl; exact X2.out; exact rfl; exact rv_size x; exact rfl)
          refine (May_r x w2 (Q2.out.ut.below Q2.out.bel) Q2.out.rx).mono ?_
          rintro e w3 ⟨rfl, b3⟩
          rw [HXE.out]
          first | rw [show mayR ⟨2, 9, 1, 0, 1, kG, 1, kH⟩ = true from by decide +kernel] | rw [show mayR ⟨2, 9, 1, 0, 1, kG, 1, kH⟩ = false from by decide +kernel]
          have Q3 := Lib.hid (Q2.out.below b3)
          clear b3 Q2 X2
          go_wp2_with fail
          refine (Writes_t 1 w3 (Q3.out.ut.below Q3.out.bel)).mono ?_
          rintro e w4 ⟨rfl, rfl⟩
          first | rw [show wrK 1 = true from rfl] | rw [show wrK 1 = false from rfl]
          go_wp2_with fail
          go_ret
          exact ⟨rfl, Q3.out.bel⟩
        · have HXE := Lib.hid (hxr.trans (show _ = (⟨2, 9, 2, 0, 1, kG, 1, kH⟩ : Rq) from rfl))
          clear hxr
          go_wp2_with fail
          refine (Reads_t 2 V (QV.out.ut.below QV.out.bel)).mono ?_
          rintro e w1 ⟨rfl, rfl⟩
          first | rw [show rdK 2 = true from rfl] | rw [show rdK 2 = false from rfl]
          go_wp2_with fail
          refine (otold_t V (QV.out.ut.below QV.out.bel)).mono ?_
          rintro e w2 ⟨rfl, b2⟩
          have Q2 := Lib.hid (QV.out.below b2)
          have X2 := Lib.hid Q2.out.box
          clear b2 QV
          go_wp2_with ((with_reducible refine load_blk_gdO 58 24 (.tmp 10) g 24 (rv x) _ ?_ ?_ rfl ?_ Tryd.underlying24 ?_ ?_ ?_ ?_); exact rfl; kernel_rfl; exact X2.out; exact rfl; exact rv_size x; exact rfl)
          refine (May_r x w2 (Q2.out.ut.below Q2.out.bel) Q2.out.rx).mono ?_
          rintro e w3 ⟨rfl, b3⟩
          rw [HXE.out]
          first | rw [show mayR ⟨2, 9, 2, 0, 1, kG, 1, kH⟩ = true from by decide +kernel] | rw [show mayR ⟨2, 9, 2, 0, 1, kG, 1, kH⟩ = false from by decide +kernel]
          have Q3 := Lib.hid (Q2.out.below b3)
          clear b3 Q2 X2
          go_wp2_with fail
          refine (Writes_t 2 w3 (Q3.out.ut.below Q3.out.bel)).mono ?_
          rintro e w4 ⟨rfl, rfl⟩
          first | rw [show wrK 2 = true from rfl] | rw [show wrK 2 = false from rfl]
          go_wp2_with fail
          go_ret
          exact ⟨rfl, Q3.out.bel⟩
        · have HXE := Lib.hid (hxr.trans (show _ = (⟨2, 9, 3, 0, 1, kG, 1, kH⟩ : Rq) from rfl))
          clear hxr
          go_wp2_with fail
          refine (Reads_t 3 V (QV.out.ut.below QV.out.bel)).mono ?_
          rintro e w1 ⟨rfl, rfl⟩
          first | rw [show rdK 3 = true from rfl] | rw [show rdK 3 = false from rfl]
          go_wp2_with fail
          refine (otold_t V (QV.out.ut.below QV.out.bel)).mono ?_
          rintro e w2 ⟨rfl, b2⟩
          have Q2 := Lib.hid (QV.out.below b2)
          have X2 := Lib.hid Q2.out.box
          clear b2 QV
          go_wp2_with ((with_reducible refine load_blk_gdO 58 24 (.tmp 10) g 24 (rv x) _ ?_ ?_ rfl ?_ Tryd.underlying24 ?_ ?_ ?_ ?_); exact rfl; kernel_rfl; exact X2.out; exact rfl; exact rv_size x; exact rfl)
          refine (May_r x w2 (Q2.out.ut.below Q2.out.bel) Q2.out.rx).mono ?_
          rintro e w3 ⟨rfl, b3⟩
          rw [HXE.out]
          first | rw [show mayR ⟨2, 9, 3, 0, 1, kG, 1, kH⟩ = true from by decide +kernel] | rw [show mayR ⟨2, 9, 3, 0, 1, kG, 1, kH⟩ = false from by decide +kernel]
          have Q3 := Lib.hid (Q2.out.below b3)
          clear b3 Q2 X2
          go_wp2_with fail
          refine (Writes_t 3 w3 (Q3.out.ut.below Q3.out.bel)).mono ?_
          rintro e w4 ⟨rfl, rfl⟩
          first | rw [show wrK 3 = true from rfl] | rw [show wrK 3 = false from rfl]
          go_wp2_with fail
          go_ret
          exact ⟨rfl, Q3.out.bel⟩
        · have HXE := Lib.hid (hxr.trans (show _ = (⟨2, 9, 4, 0, 1, kG, 1, kH⟩ : Rq) from rfl))
          clear hxr
          go_wp2_with fail
          refine (Reads_t 4 V (QV.out.ut.below QV.out.bel)).mono ?_
          rintro e w1 ⟨rfl, rfl⟩
          first | rw [show rdK 4 = true from rfl] | rw [show rdK 4 = false from rfl]
          go_wp2_with fail
          refine (otold_t V (QV.out.ut.below QV.out.bel)).mono ?_
          rintro e w2 ⟨rfl, b2⟩
          have Q2 := Lib.hid (QV.out.below b2)
          have X2 := Lib.hid Q2.out.box
          clear b2 QV
          go_wp2_with ((with_reducible refine load_blk_gdO 58 24 (.tmp 10) g 24 (rv x) _ ?_ ?_ rfl ?_ Tryd.underlying24 ?_ ?_ ?_ ?_); exact rfl; kernel_rfl; exact X2.out; exact rfl; exact rv_size x; exact rfl)
          refine (May_r x w2 (Q2.out.ut.below Q2.out.bel) Q2.out.rx).mono ?_
          rintro e w3 ⟨rfl, b3⟩
          rw [HXE.out]
          first | rw [show mayR ⟨2, 9, 4, 0, 1, kG, 1, kH⟩ = true from by decide +kernel] | rw [show mayR ⟨2, 9, 4, 0, 1, kG, 1, kH⟩ = false from by decide +kernel]
          have Q3 := Lib.hid (Q2.out.below b3)
          clear b3 Q2 X2
          go_wp2_with fail
          refine (Writes_t 4 w3 (Q3.out.ut.below Q3.out.bel)).mono ?_
          rintro e w4 ⟨rfl, rfl⟩
          first | rw [show wrK 4 = true from rfl] | rw [show wrK 4 = false from rfl]
          go_wp2_with fail
          go_ret
          exact ⟨rfl, Q3.out.bel⟩
        · have HXE := Lib.hid (hxr.trans (show _ = (⟨2, 9, 5, 0, 1, kG, 1, kH⟩ : Rq) from rfl))
          clear hxr
          go_wp2_with fail
          refine (Reads_t 5 V (QV.out.ut.below QV.out.bel)).mono ?_
          rintro e w1 ⟨rfl, rfl⟩
          first | rw [show rdK 5 = true from rfl] | rw [show rdK 5 = false from rfl]
          go_wp2_with fail
          refine (otold_t V (QV.out.ut.below QV.out.bel)).mono ?_
          rintro e w2 ⟨rfl, b2⟩
          have Q2 := Lib.hid (QV.out.below b2)
          have X2 := Lib.hid Q2.out.box
          clear b2 QV
          go_wp2_with ((with_reducible refine load_blk_gdO 58 24 (.tmp 10) g 24 (rv x) _ ?_ ?_ rfl ?_ Tryd.underlying24 ?_ ?_ ?_ ?_); exact rfl; kernel_rfl; exact X2.out; exact rfl; exact rv_size x; exact rfl)
          refine (May_r x w2 (Q2.out.ut.below Q2.out.bel) Q2.out.rx).mono ?_
          rintro e w3 ⟨rfl, b3⟩
          rw [HXE.out]
          first | rw [show mayR ⟨2, 9, 5, 0, 1, kG, 1, kH⟩ = true from by decide +kernel] | rw [show mayR ⟨2, 9, 5, 0, 1, kG, 1, kH⟩ = false from by decide +kernel]
          have Q3 := Lib.hid (Q2.out.below b3)
          clear b3 Q2 X2
          go_wp2_with fail
          refine (Writes_t 5 w3 (Q3.out.ut.below Q3.out.bel)).mono ?_
          rintro e w4 ⟨rfl, rfl⟩
          first | rw [show wrK 5 = true from rfl] | rw [show wrK 5 = false from rfl]
          go_wp2_with fail
          go_ret
          exact ⟨rfl, Q3.out.bel⟩
        · have HXE := Lib.hid (hxr.trans (show _ = (⟨2, 9, 6, 0, 1, kG, 1, kH⟩ : Rq) from rfl))
          clear hxr
          go_wp2_with fail
          refine (Reads_t 6 V (QV.out.ut.below QV.out.bel)).mono ?_
          rintro e w1 ⟨rfl, rfl⟩
          first | rw [show rdK 6 = true from rfl] | rw [show rdK 6 = false from rfl]
          go_wp2_with fail
          refine (otold_t V (QV.out.ut.below QV.out.bel)).mono ?_
          rintro e w2 ⟨rfl, b2⟩
          have Q2 := Lib.hid (QV.out.below b2)
          have X2 := Lib.hid Q2.out.box
          clear b2 QV
          go_wp2_with ((with_reducible refine load_blk_gdO 58 24 (.tmp 10) g 24 (rv x) _ ?_ ?_ rfl ?_ Tryd.underlying24 ?_ ?_ ?_ ?_); exact rfl; kernel_rfl; exact X2.out; exact rfl; exact rv_size x; exact rfl)
          refine (May_r x w2 (Q2.out.ut.below Q2.out.bel) Q2.out.rx).mono ?_
          rintro e w3 ⟨rfl, b3⟩
          rw [HXE.out]
          first | rw [show mayR ⟨2, 9, 6, 0, 1, kG, 1, kH⟩ = true from by decide +kernel] | rw [show mayR ⟨2, 9, 6, 0, 1, kG, 1, kH⟩ = false from by decide +kernel]
          have Q3 := Lib.hid (Q2.out.below b3)
          clear b3 Q2 X2
          go_wp2_with fail
          refine (Writes_t 6 w3 (Q3.out.ut.below Q3.out.bel)).mono ?_
          rintro e w4 ⟨rfl, rfl⟩
          first | rw [show wrK 6 = true from rfl] | rw [show wrK 6 = false from rfl]
          go_wp2_with fail
          go_ret
          exact ⟨rfl, Q3.out.bel⟩
        · have HXE := Lib.hid (hxr.trans (show _ = (⟨2, 9, 7, 0, 1, kG, 1, kH⟩ : Rq) from rfl))
          clear hxr
          go_wp2_with fail
          refine (Reads_t 7 V (QV.out.ut.below QV.out.bel)).mono ?_
          rintro e w1 ⟨rfl, rfl⟩
          first | rw [show rdK 7 = true from rfl] | rw [show rdK 7 = false from rfl]
          go_wp2_with fail
          refine (otold_t V (QV.out.ut.below QV.out.bel)).mono ?_
          rintro e w2 ⟨rfl, b2⟩
          have Q2 := Lib.hid (QV.out.below b2)
          have X2 := Lib.hid Q2.out.box
          clear b2 QV
          go_wp2_with ((with_reducible refine load_blk_gdO 58 24 (.tmp 10) g 24 (rv x) _ ?_ ?_ rfl ?_ Tryd.underlying24 ?_ ?_ ?_ ?_); exact rfl; kernel_rfl; exact X2.out; exact rfl; exact rv_size x; exact rfl)
          refine (May_r x w2 (Q2.out.ut.below Q2.out.bel) Q2.out.rx).mono ?_
          rintro e w3 ⟨rfl, b3⟩
          rw [HXE.out]
          first | rw [show mayR ⟨2, 9, 7, 0, 1, kG, 1, kH⟩ = true from by decide +kernel] | rw [show mayR ⟨2, 9, 7, 0, 1, kG, 1, kH⟩ = false from by decide +kernel]
          have Q3 := Lib.hid (Q2.out.below b3)
          clear b3 Q2 X2
          go_wp2_with fail
          refine (Writes_t 7 w3 (Q3.out.ut.below Q3.out.bel)).mono ?_
          rintro e w4 ⟨rfl, rfl⟩
          first | rw [show wrK 7 = true from rfl] | rw [show wrK 7 = false from rfl]
          go_wp2_with fail
          go_ret
          exact ⟨rfl, Q3.out.bel⟩
        · have HXE := Lib.hid (hxr.trans (show _ = (⟨2, 9, 8, 0, 1, kG, 1, kH⟩ : Rq) from rfl))
          clear hxr
          go_wp2_with fail
          refine (Reads_t 8 V (QV.out.ut.below QV.out.bel)).mono ?_
          rintro e w1 ⟨rfl, rfl⟩
          first | rw [show rdK 8 = true from rfl] | rw [show rdK 8 = false from rfl]
          go_wp2_with fail
          refine (otold_t V (QV.out.ut.below QV.out.bel)).mono ?_
          rintro e w2 ⟨rfl, b2⟩
          have Q2 := Lib.hid (QV.out.below b2)
          have X2 := Lib.hid Q2.out.box
          clear b2 QV
          go_wp2_with ((with_reducible refine load_blk_gdO 58 24 (.tmp 10) g 24 (rv x) _ ?_ ?_ rfl ?_ Tryd.underlying24 ?_ ?_ ?_ ?_); exact rfl; kernel_rfl; exact X2.out; exact rfl; exact rv_size x; exact rfl)
          refine (May_r x w2 (Q2.out.ut.below Q2.out.bel) Q2.out.rx).mono ?_
          rintro e w3 ⟨rfl, b3⟩
          rw [HXE.out]
          first | rw [show mayR ⟨2, 9, 8, 0, 1, kG, 1, kH⟩ = true from by decide +kernel] | rw [show mayR ⟨2, 9, 8, 0, 1, kG, 1, kH⟩ = false from by decide +kernel]
          have Q3 := Lib.hid (Q2.out.below b3)
          clear b3 Q2 X2
          go_wp2_with fail
          refine (Writes_t 8 w3 (Q3.out.ut.below Q3.out.bel)).mono ?_
          rintro e w4 ⟨rfl, rfl⟩
          first | rw [show wrK 8 = true from rfl] | rw [show wrK 8 = false from rfl]
          go_wp2_with fail
          go_ret
          exact ⟨rfl, Q3.out.bel⟩
      | true =>
        have fz := QX.out.box.frozen 5
        have ct := QX.out.box.cell 5
        have QY := Lib.hid QX.out.setL
        clear QX
        go_upto_region 9 with (fail)
        clear fz ct
        refine world_at (fun Y => KQ w Y g ⟨⟨2, 9, (k : Int), 5, 1, kG, 1, kH⟩, some ⟨gp, 0, none⟩, 1, some ⟨gt2, 0, none⟩, 1⟩) QY.out ?_
        clear QY
        rintro V qx
        have QX := Lib.hid qx
        clear qx
        obtain ⟨x, hxe⟩ : ∃ x : Rv, ⟨⟨2, 9, (k : Int), 5, 1, kG, 1, kH⟩, some ⟨gp, 0, none⟩, 1, some ⟨gt2, 0, none⟩, 1⟩ = x := ⟨_, rfl⟩
        rw [hxe] at QX
        have hxr : x.r = ⟨2, 9, (k : Int), 5, 1, kG, 1, kH⟩ := by rw [← hxe]
        clear hxe
        have hk8 : k = 1 ∨ k = 2 ∨ k = 3 ∨ k = 4 ∨ k = 5 ∨ k = 6 ∨ k = 7 ∨ k = 8 := by omega
        have QV := QX
        clear QX hk1 hk9
        rcases hk8 with rfl | rfl | rfl | rfl | rfl | rfl | rfl | rfl
        · have HXE := Lib.hid (hxr.trans (show _ = (⟨2, 9, 1, 5, 1, kG, 1, kH⟩ : Rq) from rfl))
          clear hxr
          go_wp2_with fail
          refine (Reads_t 1 V (QV.out.ut.below QV.out.bel)).mono ?_
          rintro e w1 ⟨rfl, rfl⟩
          first | rw [show rdK 1 = true from rfl] | rw [show rdK 1 = false from rfl]
          go_wp2_with fail
          refine (otold_t V (QV.out.ut.below QV.out.bel)).mono ?_
          rintro e w2 ⟨rfl, b2⟩
          have Q2 := Lib.hid (QV.out.below b2)
          have X2 := Lib.hid Q2.out.box
          clear b2 QV
          go_wp2_with ((with_reducible refine load_blk_gdO 58 24 (.tmp 10) g 24 (rv x) _ ?_ ?_ rfl ?_ Tryd.underlying24 ?_ ?_ ?_ ?_); exact rfl; kernel_rfl; exact X2.out; exact rfl; exact rv_size x; exact rfl)
          refine (May_r x w2 (Q2.out.ut.below Q2.out.bel) Q2.out.rx).mono ?_
          rintro e w3 ⟨rfl, b3⟩
          rw [HXE.out]
          first | rw [show mayR ⟨2, 9, 1, 5, 1, kG, 1, kH⟩ = true from by decide +kernel] | rw [show mayR ⟨2, 9, 1, 5, 1, kG, 1, kH⟩ = false from by decide +kernel]
          have Q3 := Lib.hid (Q2.out.below b3)
          clear b3 Q2 X2
          go_wp2_with fail
          refine (Writes_t 1 w3 (Q3.out.ut.below Q3.out.bel)).mono ?_
          rintro e w4 ⟨rfl, rfl⟩
          first | rw [show wrK 1 = true from rfl] | rw [show wrK 1 = false from rfl]
          go_wp2_with fail
          go_ret
          exact ⟨rfl, Q3.out.bel⟩
        · have HXE := Lib.hid (hxr.trans (show _ = (⟨2, 9, 2, 5, 1, kG, 1, kH⟩ : Rq) from rfl))
          clear hxr
          go_wp2_with fail
          refine (Reads_t 2 V (QV.out.ut.below QV.out.bel)).mono ?_
          rintro e w1 ⟨rfl, rfl⟩
          first | rw [show rdK 2 = true from rfl] | rw [show rdK 2 = false from rfl]
          go_wp2_with fail
          refine (otold_t V (QV.out.ut.below QV.out.bel)).mono ?_
          rintro e w2 ⟨rfl, b2⟩
          have Q2 := Lib.hid (QV.out.below b2)
          have X2 := Lib.hid Q2.out.box
          clear b2 QV
          go_wp2_with ((with_reducible refine load_blk_gdO 58 24 (.tmp 10) g 24 (rv x) _ ?_ ?_ rfl ?_ Tryd.underlying24 ?_ ?_ ?_ ?_); exact rfl; kernel_rfl; exact X2.out; exact rfl; exact rv_size x; exact rfl)
          refine (May_r x w2 (Q2.out.ut.below Q2.out.bel) Q2.out.rx).mono ?_
          rintro e w3 ⟨rfl, b3⟩
          rw [HXE.out]
          first | rw [show mayR ⟨2, 9, 2, 5, 1, kG, 1, kH⟩ = true from by decide +kernel] | rw [show mayR ⟨2, 9, 2, 5, 1, kG, 1, kH⟩ = false from by decide +kernel]
          have Q3 := Lib.hid (Q2.out.below b3)
          clear b3 Q2 X2
          go_wp2_with fail
          refine (Writes_t 2 w3 (Q3.out.ut.below Q3.out.bel)).mono ?_
          rintro e w4 ⟨rfl, rfl⟩
          first | rw [show wrK 2 = true from rfl] | rw [show wrK 2 = false from rfl]
          go_wp2_with fail
          go_ret
          exact ⟨rfl, Q3.out.bel⟩
        · have HXE := Lib.hid (hxr.trans (show _ = (⟨2, 9, 3, 5, 1, kG, 1, kH⟩ : Rq) from rfl))
          clear hxr
          go_wp2_with fail
          refine (Reads_t 3 V (QV.out.ut.below QV.out.bel)).mono ?_
          rintro e w1 ⟨rfl, rfl⟩
          first | rw [show rdK 3 = true from rfl] | rw [show rdK 3 = false from rfl]
          go_wp2_with fail
          refine (otold_t V (QV.out.ut.below QV.out.bel)).mono ?_
          rintro e w2 ⟨rfl, b2⟩
          have Q2 := Lib.hid (QV.out.below b2)
          have X2 := Lib.hid Q2.out.box
          clear b2 QV
          go_wp2_with ((with_reducible refine load_blk_gdO 58 24 (.tmp 10) g 24 (rv x) _ ?_ ?_ rfl ?_ Tryd.underlying24 ?_ ?_ ?_ ?_); exact rfl; kernel_rfl; exact X2.out; exact rfl; exact rv_size x; exact rfl)
          refine (May_r x w2 (Q2.out.ut.below Q2.out.bel) Q2.out.rx).mono ?_
          rintro e w3 ⟨rfl, b3⟩
          rw [HXE.out]
          first | rw [show mayR ⟨2, 9, 3, 5, 1, kG, 1, kH⟩ = true from by decide +kernel] | rw [show mayR ⟨2, 9, 3, 5, 1, kG, 1, kH⟩ = false from by decide +kernel]
          have Q3 := Lib.hid (Q2.out.below b3)
          clear b3 Q2 X2
          go_wp2_with fail
          refine (Writes_t 3 w3 (Q3.out.ut.below Q3.out.bel)).mono ?_
          rintro e w4 ⟨rfl, rfl⟩
          first | rw [show wrK 3 = true from rfl] | rw [show wrK 3 = false from rfl]
          go_wp2_with fail
          go_ret
          exact ⟨rfl, Q3.out.bel⟩
        · have HXE := Lib.hid (hxr.trans (show _ = (⟨2, 9, 4, 5, 1, kG, 1, kH⟩ : Rq) from rfl))
          clear hxr
          go_wp2_with fail
          refine (Reads_t 4 V (QV.out.ut.below QV.out.bel)).mono ?_
          rintro e w1 ⟨rfl, rfl⟩
          first | rw [show rdK 4 = true from rfl] | rw [show rdK 4 = false from rfl]
          go_wp2_with fail
          refine (otold_t V (QV.out.ut.below QV.out.bel)).mono ?_
          rintro e w2 ⟨rfl, b2⟩
          have Q2 := Lib.hid (QV.out.below b2)
          have X2 := Lib.hid Q2.out.box
          clear b2 QV
          go_wp2_with ((with_reducible refine load_blk_gdO 58 24 (.tmp 10) g 24 (rv x) _ ?_ ?_ rfl ?_ Tryd.underlying24 ?_ ?_ ?_ ?_); exact rfl; kernel_rfl; exact X2.out; exact rfl; exact rv_size x; exact rfl)
          refine (May_r x w2 (Q2.out.ut.below Q2.out.bel) Q2.out.rx).mono ?_
          rintro e w3 ⟨rfl, b3⟩
          rw [HXE.out]
          first | rw [show mayR ⟨2, 9, 4, 5, 1, kG, 1, kH⟩ = true from by decide +kernel] | rw [show mayR ⟨2, 9, 4, 5, 1, kG, 1, kH⟩ = false from by decide +kernel]
          have Q3 := Lib.hid (Q2.out.below b3)
          clear b3 Q2 X2
          go_wp2_with fail
          refine (Writes_t 4 w3 (Q3.out.ut.below Q3.out.bel)).mono ?_
          rintro e w4 ⟨rfl, rfl⟩
          first | rw [show wrK 4 = true from rfl] | rw [show wrK 4 = false from rfl]
          go_wp2_with fail
          go_ret
          exact ⟨rfl, Q3.out.bel⟩
        · have HXE := Lib.hid (hxr.trans (show _ = (⟨2, 9, 5, 5, 1, kG, 1, kH⟩ : Rq) from rfl))
          clear hxr
          go_wp2_with fail
          refine (Reads_t 5 V (QV.out.ut.below QV.out.bel)).mono ?_
          rintro e w1 ⟨rfl, rfl⟩
          first | rw [show rdK 5 = true from rfl] | rw [show rdK 5 = false from rfl]
          go_wp2_with fail
          refine (otold_t V (QV.out.ut.below QV.out.bel)).mono ?_
          rintro e w2 ⟨rfl, b2⟩
          have Q2 := Lib.hid (QV.out.below b2)
          have X2 := Lib.hid Q2.out.box
          clear b2 QV
          go_wp2_with ((with_reducible refine load_blk_gdO 58 24 (.tmp 10) g 24 (rv x) _ ?_ ?_ rfl ?_ Tryd.underlying24 ?_ ?_ ?_ ?_); exact rfl; kernel_rfl; exact X2.out; exact rfl; exact rv_size x; exact rfl)
          refine (May_r x w2 (Q2.out.ut.below Q2.out.bel) Q2.out.rx).mono ?_
          rintro e w3 ⟨rfl, b3⟩
          rw [HXE.out]
          first | rw [show mayR ⟨2, 9, 5, 5, 1, kG, 1, kH⟩ = true from by decide +kernel] | rw [show mayR ⟨2, 9, 5, 5, 1, kG, 1, kH⟩ = false from by decide +kernel]
          have Q3 := Lib.hid (Q2.out.below b3)
          clear b3 Q2 X2
          go_wp2_with fail
          refine (Writes_t 5 w3 (Q3.out.ut.below Q3.out.bel)).mono ?_
          rintro e w4 ⟨rfl, rfl⟩
          first | rw [show wrK 5 = true from rfl] | rw [show wrK 5 = false from rfl]
          go_wp2_with fail
          go_ret
          exact ⟨rfl, Q3.out.bel⟩
        · have HXE := Lib.hid (hxr.trans (show _ = (⟨2, 9, 6, 5, 1, kG, 1, kH⟩ : Rq) from rfl))
          clear hxr
          go_wp2_with fail
          refine (Reads_t 6 V (QV.out.ut.below QV.out.bel)).mono ?_
          rintro e w1 ⟨rfl, rfl⟩
          first | rw [show rdK 6 = true from rfl] | rw [show rdK 6 = false from rfl]
          go_wp2_with fail
          refine (otold_t V (QV.out.ut.below QV.out.bel)).mono ?_
          rintro e w2 ⟨rfl, b2⟩
          have Q2 := Lib.hid (QV.out.below b2)
          have X2 := Lib.hid Q2.out.box
          clear b2 QV
          go_wp2_with ((with_reducible refine load_blk_gdO 58 24 (.tmp 10) g 24 (rv x) _ ?_ ?_ rfl ?_ Tryd.underlying24 ?_ ?_ ?_ ?_); exact rfl; kernel_rfl; exact X2.out; exact rfl; exact rv_size x; exact rfl)
          refine (May_r x w2 (Q2.out.ut.below Q2.out.bel) Q2.out.rx).mono ?_
          rintro e w3 ⟨rfl, b3⟩
          rw [HXE.out]
          first | rw [show mayR ⟨2, 9, 6, 5, 1, kG, 1, kH⟩ = true from by decide +kernel] | rw [show mayR ⟨2, 9, 6, 5, 1, kG, 1, kH⟩ = false from by decide +kernel]
          have Q3 := Lib.hid (Q2.out.below b3)
          clear b3 Q2 X2
          go_wp2_with fail
          refine (Writes_t 6 w3 (Q3.out.ut.below Q3.out.bel)).mono ?_
          rintro e w4 ⟨rfl, rfl⟩
          first | rw [show wrK 6 = true from rfl] | rw [show wrK 6 = false from rfl]
          go_wp2_with fail
          go_ret
          exact ⟨rfl, Q3.out.bel⟩
        · have HXE := Lib.hid (hxr.trans (show _ = (⟨2, 9, 7, 5, 1, kG, 1, kH⟩ : Rq) from rfl))
          clear hxr
          go_wp2_with fail
          refine (Reads_t 7 V (QV.out.ut.below QV.out.bel)).mono ?_
          rintro e w1 ⟨rfl, rfl⟩
          first | rw [show rdK 7 = true from rfl] | rw [show rdK 7 = false from rfl]
          go_wp2_with fail
          refine (otold_t V (QV.out.ut.below QV.out.bel)).mono ?_
          rintro e w2 ⟨rfl, b2⟩
          have Q2 := Lib.hid (QV.out.below b2)
          have X2 := Lib.hid Q2.out.box
          clear b2 QV
          go_wp2_with ((with_reducible refine load_blk_gdO 58 24 (.tmp 10) g 24 (rv x) _ ?_ ?_ rfl ?_ Tryd.underlying24 ?_ ?_ ?_ ?_); exact rfl; kernel_rfl; exact X2.out; exact rfl; exact rv_size x; exact rfl)
          refine (May_r x w2 (Q2.out.ut.below Q2.out.bel) Q2.out.rx).mono ?_
          rintro e w3 ⟨rfl, b3⟩
          rw [HXE.out]
          first | rw [show mayR ⟨2, 9, 7, 5, 1, kG, 1, kH⟩ = true from by decide +kernel] | rw [show mayR ⟨2, 9, 7, 5, 1, kG, 1, kH⟩ = false from by decide +kernel]
          have Q3 := Lib.hid (Q2.out.below b3)
          clear b3 Q2 X2
          go_wp2_with fail
          refine (Writes_t 7 w3 (Q3.out.ut.below Q3.out.bel)).mono ?_
          rintro e w4 ⟨rfl, rfl⟩
          first | rw [show wrK 7 = true from rfl] | rw [show wrK 7 = false from rfl]
          go_wp2_with fail
          go_ret
          exact ⟨rfl, Q3.out.bel⟩
        · have HXE := Lib.hid (hxr.trans (show _ = (⟨2, 9, 8, 5, 1, kG, 1, kH⟩ : Rq) from rfl))
          clear hxr
          go_wp2_with fail
          refine (Reads_t 8 V (QV.out.ut.below QV.out.bel)).mono ?_
          rintro e w1 ⟨rfl, rfl⟩
          first | rw [show rdK 8 = true from rfl] | rw [show rdK 8 = false from rfl]
          go_wp2_with fail
          refine (otold_t V (QV.out.ut.below QV.out.bel)).mono ?_
          rintro e w2 ⟨rfl, b2⟩
          have Q2 := Lib.hid (QV.out.below b2)
          have X2 := Lib.hid Q2.out.box
          clear b2 QV
          go_wp2_with ((with_reducible refine load_blk_gdO 58 24 (.tmp 10) g 24 (rv x) _ ?_ ?_ rfl ?_ Tryd.underlying24 ?_ ?_ ?_ ?_); exact rfl; kernel_rfl; exact X2.out; exact rfl; exact rv_size x; exact rfl)
          refine (May_r x w2 (Q2.out.ut.below Q2.out.bel) Q2.out.rx).mono ?_
          rintro e w3 ⟨rfl, b3⟩
          rw [HXE.out]
          first | rw [show mayR ⟨2, 9, 8, 5, 1, kG, 1, kH⟩ = true from by decide +kernel] | rw [show mayR ⟨2, 9, 8, 5, 1, kG, 1, kH⟩ = false from by decide +kernel]
          have Q3 := Lib.hid (Q2.out.below b3)
          clear b3 Q2 X2
          go_wp2_with fail
          refine (Writes_t 8 w3 (Q3.out.ut.below Q3.out.bel)).mono ?_
          rintro e w4 ⟨rfl, rfl⟩
          first | rw [show wrK 8 = true from rfl] | rw [show wrK 8 = false from rfl]
          go_wp2_with fail
          go_ret
          exact ⟨rfl, Q3.out.bel⟩
end Go.Proofs.YtigbnjgmdgkgjaaDoor
