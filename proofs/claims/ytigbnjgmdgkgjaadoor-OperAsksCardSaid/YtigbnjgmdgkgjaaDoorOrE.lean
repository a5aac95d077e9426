/-
  THE REFERENCE of chapter 7: GetRequest walked.
-/
import Derived.Test.YtigbnjgmdgkgjaaDoorOrD
namespace Go.Proofs.YtigbnjgmdgkgjaaDoor
open Go Go.RowKit Sh

/-- A row of fields does not lie in a block that holds no text. -/
theorem Rw.keptN {w w' : World} {p : Option Addr} {n : Nat} {G : Nat → Fld} {g : Nat} {t : TypeId} {cs : List Value} (h : Rw w p n G) (hg : Blk w g t cs) (hcs : ∀ v ∈ cs, ∀ s, v ≠ .string s) (hk : Kept (fun k => k = g) w w') : Rw w' p n G := fun j hj => by
  obtain ⟨b, o, rfl, hl, r⟩ := h j hj
  have hne : b ≠ g := fun e => by
    subst e
    have h2 := r 2 (.string (G j).s) rfl
    rw [hg.cell] at h2
    exact hcs _ (List.mem_of_getElem? h2) _ rfl
  exact ⟨b, o, rfl, Nat.lt_of_lt_of_le hl hk.size, fun i v hv => (hk.cell (p := ⟨b, o + j * 3 + i, none⟩) hl hne).trans (r i v hv)⟩
theorem rv_nos (x : Rv) : ∀ v ∈ rv x, ∀ s, v ≠ .string s := by
  intro v hv s
  simp only [rv, List.mem_cons, List.not_mem_nil, or_false] at hv
  rcases hv with rfl | rfl | rfl | rfl | rfl | rfl <;> intro h <;> cases h
theorem rr_nos (A : Option Addr) (n c : Nat) (b : Bool) : ∀ v ∈ [Value.slice A n c, .bool b], ∀ s, v ≠ .string s := by
  intro v hv s
  simp only [List.mem_cons, List.not_mem_nil, or_false] at hv
  rcases hv with rfl | rfl <;> intro h <;> cases h
/-- Where GetRequest stands. -/
structure GZ (w W : World) (g gr : Nat) (zs : List Nat) (bad : Bool) (x : Rv) : Prop where
  rd : Rr w W g zs bad
  res : Blk W w.heap.size 24 (rv zRv)
  box : Blk W gr 24 (rv x)
  p : Rw W x.p x.r.n x.r.G
  t : Rw W x.t x.r.m x.r.H
  ord : w.heap.size < g ∧ g < gr
theorem GZ.read {w W W' : World} {g gr : Nat} {zs zs' : List Nat} {bad bad' : Bool} {x : Rv} (h : GZ w W g gr zs bad x) (hk : Kept (fun k => k = g) W W') (hr : Rr w W' g zs' bad') : GZ w W' g gr zs' bad' x := by
  obtain ⟨A, c, hb, _, _⟩ := h.rd.is
  have ho := h.ord
  exact ⟨hr, h.res.kept hk (by omega), h.box.kept hk (by omega), h.p.keptN hb (rr_nos _ _ _ _) hk, h.t.keptN hb (rr_nos _ _ _ _) hk, h.ord⟩
theorem GZ.below {w W W' : World} {g gr : Nat} {zs : List Nat} {bad : Bool} {x : Rv} (h : GZ w W g gr zs bad x) (hb : Below W.heap.size W W') : GZ w W' g gr zs bad x :=
  ⟨h.rd.below hb, h.res.below hb h.res.lt, h.box.below hb h.box.lt, h.p.below hb, h.t.below hb, h.ord⟩
theorem GZ.put {w W : World} {g gr : Nat} {zs : List Nat} {bad : Bool} {x y : Rv} (h : GZ w W g gr zs bad x) (j : Nat) (v : Value) (hv : (rv x).set j v = rv y) (hp : Rw W y.p y.r.n y.r.G) (ht : Rw W y.t y.r.m y.r.H) :
    GZ w (W.setCell ⟨gr, j, none⟩ v) g gr zs bad y := by
  have hk : Kept (fun k => k = gr) W (W.setCell ⟨gr, j, none⟩ v) := Kept.setCell (F := fun k => k = gr) (Kept.refl _ _) (p := ⟨gr, j, none⟩) (.inl rfl) _
  have ho := h.ord
  have hw := h.rd.low
  refine ⟨h.rd.off hk (by omega) (by omega), h.res.kept hk (by omega), ?_, hp.keptN h.box (rv_nos _) hk, ht.keptN h.box (rv_nos _) hk, h.ord⟩
  rw [← hv]
  exact h.box.store j v
theorem built_r1 (a : Int) : Tryd.prog.built 24 [(0, .int .i64 a)] = some (rv (nRv a 0 0 0)).toArray := by kernel_rfl
set_option maxRecDepth 100000 in
set_option maxHeartbeats 2000000 in
theorem refGet_r (xs : List Nat) (p : Option Addr) (m c : Nat) (w : World) (hx : xs.length = m) (hc : m ≤ c) (hp : Sr w p xs) (hb : Bytes xs) (hl : m ≤ 1000000) :
    Calls Tryd.prog 15 #[.slice p m c] w fun e w' => Below w.heap.size w w' ∧ ((okR xs = false ∧ e = .returned (.tuple #[.agg (rv zRv).toArray, .int .i64 2])) ∨ (okR xs = true ∧ ∃ y : Rv, y.r = gotR xs ∧ e = .returned (.tuple #[.agg (rv y).toArray, .int .i64 0]) ∧ RvW w' y)) := by
  subst hx
  obtain ⟨v1, y1, d1, v2, y2, d2, v3, y3, d3, v4, y4, d4, _, _, _, _, _, _, st⟩ := steps_of xs hb
  obtain ⟨oke, gote⟩ := okRr_eq xs hb
  have E1 : q1 xs = (v1, y1, d1) := st.e1
  have E2 : q2 xs = (v2, y2, d2) := by unfold q2; rw [E1]; exact st.e2
  have E3 : q3 xs = (v3, y3, d3) := by unfold q3; rw [E2]; exact st.e3
  have E4 : q4 xs = (v4, y4, d4) := by unfold q4; rw [E3]; exact st.e4
  have R1 : r1 xs = nmb v4 y4 d4 := by unfold r1; rw [E4]
  obtain ⟨⟨a4, z4, f4⟩, hR1⟩ : ∃ r, nmb v4 y4 d4 = r := ⟨_, rfl⟩
  have bz4 : Bytes z4 ∧ z4.length ≤ xs.length := by
    unfold nmb at hR1
    split at hR1
    · simp only [Prod.mk.injEq] at hR1; obtain ⟨_, rfl, _⟩ := hR1; exact ⟨nil_bytes, Nat.zero_le _⟩
    · simp only [Prod.mk.injEq] at hR1; obtain ⟨_, rfl, _⟩ := hR1; exact ⟨st.b4.1, st.b4.2.1⟩
  have smb : ∀ ys b, Bytes ys → Bytes (smN ys b).2.1 ∧ (smN ys b).2.1.length ≤ ys.length ∧ Bytes (smN ys b).1 := fun ys b h => by
    have hr := rNum_bytes ys b 4 h
    have ht := rTxtM_text ys b 1000 h
    unfold smN
    split
    · refine ⟨?_, ?_, ht.1⟩
      · unfold rTxtM; split
        · exact bytes_drop hr.1 _
        · exact nil_bytes
      · unfold rTxtM; split
        · show ((rNum ys b 4).2.1.drop _).length ≤ _; rw [List.length_drop]; omega
        · exact Nat.zero_le _
    · exact ⟨nil_bytes, Nat.zero_le _, nil_bytes⟩
  have R2 : r2 xs = smN z4 f4 := by unfold r2; rw [R1, hR1]
  have b5 := smb z4 f4 bz4.1
  obtain ⟨⟨l5, z5, f5⟩, hR2⟩ : ∃ r, smN z4 f4 = r := ⟨_, rfl⟩
  rw [hR2] at b5
  have R3 : r3 xs = smN z5 f5 := by unfold r3; rw [R2, hR2]
  have b6 := smb z5 f5 b5.1
  obtain ⟨⟨l6, z6, f6⟩, hR3⟩ : ∃ r, smN z5 f5 = r := ⟨_, rfl⟩
  rw [hR3] at b6
  have hgot : gotRr xs = ⟨(v1 : Int), (v2 : Int), (v3 : Int), (a4 : Int), fN l5, gotN l5, fN l6, gotN l6⟩ := by unfold gotRr; rw [E1, E2, E3, R1, hR1, R2, hR2, R3, hR3]
  have hok : okRr xs = (decide (endN z6 f6 = 0) && mayR (gotRr xs)) := by unfold okRr; rw [R3, hR3]
  rw [oke] at hok
  obtain ⟨ok, hoke⟩ : ∃ z, okR xs = z := ⟨_, rfl⟩
  rw [hoke] at hok gote ⊢
  obtain ⟨gr0, hgr⟩ : ∃ z, gotRr xs = z := ⟨_, rfl⟩
  rw [hgr] at hgot hok gote
  obtain ⟨gr1, hgr1⟩ : ∃ z, gotR xs = z := ⟨_, rfl⟩
  rw [hgr1] at gote ⊢
  have GOT := Lib.hid hgot; have OKD := Lib.hid hok; have GE := Lib.hid gote
  have HP := Lib.hid hp; have HC := Lib.hid hc; have HB := Lib.hid hb
  have ST := Lib.hid st
  have B4 := Lib.hid bz4; have B5 := Lib.hid b5; have B6 := Lib.hid b6
  have HR1 := Lib.hid hR1; have HR2 := Lib.hid hR2; have HR3 := Lib.hid hR3
  have V1 := st.b1.2.2; have V2 := st.b2.2.2; have V3 := st.b3.2.2
  have w1e : IntKind.i64.wrap (v1 : Int) = (v1 : Int) := IntWalk.i64_in _ (by omega)
  have w2e : IntKind.i64.wrap (v2 : Int) = (v2 : Int) := IntWalk.i64_in _ (by omega)
  have w3e : IntKind.i64.wrap (v3 : Int) = (v3 : Int) := IntWalk.i64_in _ (by omega)
  have BR := built_R p xs.length c
  have BF := built_r1 (v1 : Int)
  have Q0 := Lib.hid (show Rr w ((w.alloc (.cells (rv zRv).toArray 24)).alloc (.cells #[.slice p xs.length c, .bool false] 64)) (w.heap.size + 1) xs false from
    ⟨⟨p, c, Blk.new2 w _ _ [.slice p xs.length c, .bool false], hc, hp⟩, (fun e => by cases e), ((Below.refl _ _).alloc (Nat.le_refl _) _).alloc (by simp) _, Nat.le_succ _⟩)
  have Z0 := Lib.hid (show Blk ((w.alloc (.cells (rv zRv).toArray 24)).alloc (.cells #[.slice p xs.length c, .bool false] 64)) w.heap.size 24 (rv zRv) from (Blk.new w _ _).alloc _)
  clear st hp hc hb bz4 b5 b6 hgot hok gote hoke hgr hgr1 oke hR1 hR2 hR3 R1 R2 R3 E1 E2 E3 E4 smb
  go_enter Tryd.func15, Tryd.ntmps15
  go_upto_region 2 with (fail)
  refine world_at (fun Y => Rr w Y (w.heap.size + 1) xs false ∧ Blk Y w.heap.size 24 (rv zRv)) ⟨Q0.out, Z0.out⟩ ?_
  rintro Y ⟨qy, zy⟩
  obtain ⟨g, hg⟩ : ∃ g, w.heap.size + 1 = g := ⟨_, rfl⟩
  have hgw : w.heap.size < g := by omega
  rw [hg] at qy ⊢
  have QY := Lib.hid qy; have ZY := Lib.hid zy
  clear qy zy Q0 Z0 BR hg
  go_wp2_with fail
  refine (rrnum_t g xs false 1 w Y QY.out HB.out (by decide) (by decide)).mono ?_
  rw [ST.out.e1]
  rintro e w2 ⟨rfl, x2, k2⟩
  have G2 := Lib.hid (show GZ w (w2.alloc (.cells (rv (nRv v1 0 0 0)).toArray 24)) g w2.heap.size y1 d1 (nRv v1 0 0 0) from by
    have bz : Below w2.heap.size w2 (w2.alloc (.cells (rv (nRv v1 0 0 0)).toArray 24)) := (Below.refl _ _).alloc (Nat.le_refl _) _
    exact ⟨x2.below bz, (ZY.out.kept k2 (by omega)).below bz (ZY.out.kept k2 (by omega)).lt, Blk.new w2 _ _, Rw.nil, Rw.nil, ⟨hgw, x2.lt⟩⟩)
  clear x2 k2 QY ZY
  go_upto_region 3 with (fail)
  refine world_at (fun Y => GZ w Y g w2.heap.size y1 d1 (nRv v1 0 0 0)) G2.out ?_
  rintro V gv
  obtain ⟨gr, hgre⟩ : ∃ g, w2.heap.size = g := ⟨_, rfl⟩
  rw [hgre] at gv ⊢
  have GV := Lib.hid gv
  clear gv G2 hgre BF w1e
  go_wp2_with fail
  refine (rrnum_t g y1 d1 4 w V GV.out.rd ST.out.b1.1 (by decide) (by decide)).mono ?_
  rw [ST.out.e2]
  rintro e w3 ⟨rfl, x3, k3⟩
  have G3 := Lib.hid (GV.out.read k3 x3)
  have fz := G3.out.box.frozen 1
  have ct := G3.out.box.cell 1
  have G3b := Lib.hid (G3.out.put (y := nRv v1 v2 0 0) 1 (.int .i64 (v2 : Int)) rfl Rw.nil Rw.nil)
  clear x3 k3 GV
  go_upto_region 4 with (fail)
  clear fz ct w2e
  refine world_at (fun Y => GZ w Y g gr y2 d2 (nRv v1 v2 0 0)) G3b.out ?_
  rintro V gv
  have GV := Lib.hid gv
  clear gv G3 G3b
  go_wp2_with fail
  refine (rrnum_t g y2 d2 1 w V GV.out.rd ST.out.b2.1 (by decide) (by decide)).mono ?_
  rw [ST.out.e3]
  rintro e w4 ⟨rfl, x4, k4⟩
  have G4 := Lib.hid (GV.out.read k4 x4)
  have fz := G4.out.box.frozen 2
  have ct := G4.out.box.cell 2
  have G4b := Lib.hid (G4.out.put (y := nRv v1 v2 v3 0) 2 (.int .i64 (v3 : Int)) rfl Rw.nil Rw.nil)
  clear x4 k4 GV
  go_upto_region 5 with (fail)
  clear fz ct w3e
  refine world_at (fun Y => GZ w Y g gr y3 d3 (nRv v1 v2 v3 0)) G4b.out ?_
  rintro V gv
  have GV := Lib.hid gv
  clear gv G4 G4b
  go_wp2_with fail
  refine (number_t g y3 d3 w V GV.out.rd ST.out.b3.1 v4 y4 d4 ST.out.e4).mono ?_
  rw [HR1.out]
  rintro e w5 ⟨rfl, x5, k5⟩
  have G5 := Lib.hid (GV.out.read k5 x5)
  have fz := G5.out.box.frozen 5
  have ct := G5.out.box.cell 5
  have G5b := Lib.hid (G5.out.put (y := nRv v1 v2 v3 a4) 5 (.int .i64 (a4 : Int)) rfl Rw.nil Rw.nil)
  clear x5 k5 GV
  go_upto_region 6 with (fail)
  clear fz ct
  refine world_at (fun Y => GZ w Y g gr z4 f4 (nRv v1 v2 v3 a4)) G5b.out ?_
  rintro V gv
  have GV := Lib.hid gv
  clear gv G5 G5b
  go_wp2_with fail
  refine (some_t g z4 f4 w V GV.out.rd B4.out.1 (by have := B4.out.2; omega) l5 z5 f5 HR2.out).mono ?_
  rintro e w6 ⟨⟨A, c6, rfl, ra⟩, x6, k6⟩
  have G6 := Lib.hid (GV.out.read k6 x6)
  have fz := G6.out.box.frozen 3
  have ct := G6.out.box.cell 3
  have G6b := Lib.hid (G6.out.put (y := ⟨⟨v1, v2, v3, a4, fN l5, gotN l5, 0, zG⟩, A, c6, none, 0⟩) 3 (.slice A (fN l5) c6) rfl ra Rw.nil)
  clear x6 k6 GV ra
  go_upto_region 7 with (fail)
  clear fz ct
  refine world_at (fun Y => GZ w Y g gr z5 f5 ⟨⟨v1, v2, v3, a4, fN l5, gotN l5, 0, zG⟩, A, c6, none, 0⟩) G6b.out ?_
  rintro V gv
  have GV := Lib.hid gv
  clear gv G6 G6b
  go_wp2_with fail
  refine (some_t g z5 f5 w V GV.out.rd B5.out.1 (by have := B4.out.2; have := B5.out.2.1; omega) l6 z6 f6 HR3.out).mono ?_
  rintro e w7 ⟨⟨B, c7, rfl, rb⟩, x7, k7⟩
  have G7 := Lib.hid (GV.out.read k7 x7)
  have fz := G7.out.box.frozen 4
  have ct := G7.out.box.cell 4
  have G7b := Lib.hid (G7.out.put (y := ⟨⟨v1, v2, v3, a4, fN l5, gotN l5, fN l6, gotN l6⟩, A, c6, B, c7⟩) 4 (.slice B (fN l6) c7) rfl G7.out.p rb)
  clear x7 k7 GV rb
  go_upto_region 8 with (fail)
  clear fz ct
  obtain ⟨x, hxe⟩ : ∃ x : Rv, (⟨⟨v1, v2, v3, a4, fN l5, gotN l5, fN l6, gotN l6⟩, A, c6, B, c7⟩ : Rv) = x := ⟨_, rfl⟩
  have hxr : x.r = gr0 := by rw [← hxe]; exact GOT.out.symm
  have hxw : ∀ W, Rw W x.p x.r.n x.r.G → Rw W x.t x.r.m x.r.H → RvW W x := fun W h1 h2 => ⟨h1, h2, by rw [← hxe]; exact fN_le l5 B5.out.2.2, by rw [← hxe]; exact fN_le l6 B6.out.2.2⟩
  rw [hxe] at G7b
  have HXW := Lib.hid hxw; have HXR := Lib.hid hxr
  clear hxe hxr hxw GOT
  refine world_at (fun Z => GZ w Z g gr z6 f6 x) G7b.out ?_
  rintro V gv
  have GV := Lib.hid gv
  clear gv G7b G7
  obtain ⟨en, hen⟩ : ∃ z, endN z6 f6 = z := ⟨_, rfl⟩
  have ET := Lib.hid (rrend_t g z6 f6 w V GV.out.rd)
  have okd := OKD.out
  rw [hen] at okd ET
  have MR := Lib.hid (refMay_r x V (HXW.out V GV.out.p GV.out.t))
  rw [HXR.out] at MR
  obtain ⟨mr, hmr⟩ : ∃ z, mayR gr0 = z := ⟨_, rfl⟩
  rw [hmr] at MR okd
  have OKD2 := Lib.hid okd
  clear okd OKD hen hmr
  by_cases h0 : en = 0
  · subst h0
    have GVB := Lib.hid GV.out.box
    cases mr with
    | false =>
      have OK := Lib.hid (show ok = false from OKD2.out)
      clear OKD2
      go_wp2_with fail
      refine ET.out.mono ?_
      rintro e w8 ⟨rfl, rfl⟩
      go_wp2_with ((with_reducible refine load_blk_gdO 34 24 (.tmp 5) gr 24 (rv x) _ ?_ ?_ rfl ?_ Tryd.underlying24 ?_ ?_ ?_ ?_); exact rfl; kernel_rfl; exact GVB.out; exact rfl; exact rv_size x; exact rfl)
      refine MR.out.mono ?_
      rintro e w9 ⟨rfl, b9⟩
      have G9 := Lib.hid (GV.out.below b9)
      clear b9 GV ET MR
      have FO := Lib.hid (rv_one zRv)
      have RR := Lib.hid (G9.out.res.setRow (rv zRv))
      have RB := Lib.hid (below_setRow G9.out.rd.bel (Nat.le_refl _) (rv zRv).toArray)
      have BZ := built_rz
      go_wp2_with ((with_reducible refine store_blk 24 (.tmp 2) (.tmp 38) w.heap.size 24 (rv zRv) (rv zRv) rfl rfl ?_ ?_ ?_ ?_ ?_ ?_ ?_); exact G9.out.res; exact rfl; exact rv_size zRv; exact FO.out; exact rfl; exact rfl)
      exact ret_blkO (p := 2) (u := 3) (ty := 24) rfl rfl w.heap.size 24 _ _ rfl RR.out Tryd.underlying24 rfl (rv_size zRv) _ rfl ⟨RB.out, .inl ⟨OK.out, rfl⟩⟩
    | true =>
      have OK := Lib.hid (show ok = true from OKD2.out)
      clear OKD2
      go_wp2_with fail
      refine ET.out.mono ?_
      rintro e w8 ⟨rfl, rfl⟩
      go_wp2_with ((with_reducible refine load_blk_gdO 34 24 (.tmp 5) gr 24 (rv x) _ ?_ ?_ rfl ?_ Tryd.underlying24 ?_ ?_ ?_ ?_); exact rfl; kernel_rfl; exact GVB.out; exact rfl; exact rv_size x; exact rfl)
      refine MR.out.mono ?_
      rintro e w9 ⟨rfl, b9⟩
      have G9 := Lib.hid (GV.out.below b9)
      clear b9 GV ET MR
      have G9B := Lib.hid G9.out.box
      have FO := Lib.hid (rv_one x)
      have KR := Lib.hid (show RvW (w9.setRow w.heap.size (rv x).toArray) x from by
        have hk : Kept (fun k => k = w.heap.size) w9 (w9.setRow w.heap.size (rv x).toArray) := Kept.setRowK (F := fun k => k = w.heap.size) (Kept.refl _ _) (.inl rfl) _
        exact HXW.out _ (G9.out.p.keptN G9.out.res (rv_nos _) hk) (G9.out.t.keptN G9.out.res (rv_nos _) hk))
      have RR := Lib.hid (G9.out.res.setRow (rv x))
      have RB := Lib.hid (below_setRow G9.out.rd.bel (Nat.le_refl _) (rv x).toArray)
      go_wp2_with (first
        | ((with_reducible refine load_blk_gdO 39 24 (.tmp 5) gr 24 (rv x) _ ?_ ?_ rfl ?_ Tryd.underlying24 ?_ ?_ ?_ ?_); exact rfl; kernel_rfl; exact G9B.out; exact rfl; exact rv_size x; exact rfl)
        | ((with_reducible refine store_blk 24 (.tmp 2) (.tmp 39) w.heap.size 24 (rv zRv) (rv x) rfl rfl ?_ ?_ ?_ ?_ ?_ ?_ ?_); exact G9.out.res; exact rfl; exact rv_size x; exact FO.out; exact rfl; exact rfl))
      exact ret_blkO (p := 2) (u := 3) (ty := 24) rfl rfl w.heap.size 24 _ _ rfl RR.out Tryd.underlying24 rfl (rv_size x) _ rfl ⟨RB.out, .inr ⟨OK.out, x, HXR.out.trans (GE.out OK.out), rfl, KR.out⟩⟩
  · have e1 : ((en : Int) != 0) = true := by rw [bne_iff_ne]; omega
    have OK := Lib.hid (show ok = false from by have := OKD2.out; rw [decide_eq_false h0] at this; exact this)
    clear OKD2 MR
    go_wp2_with fail
    refine ET.out.mono ?_
    rintro e w8 ⟨rfl, rfl⟩
    have FO := Lib.hid (rv_one zRv)
    have RR := Lib.hid (GV.out.res.setRow (rv zRv))
    have RB := Lib.hid (below_setRow GV.out.rd.bel (Nat.le_refl _) (rv zRv).toArray)
    have BZ := built_rz
    go_wp2_with ((with_reducible refine store_blk 24 (.tmp 2) (.tmp 38) w.heap.size 24 (rv zRv) (rv zRv) rfl rfl ?_ ?_ ?_ ?_ ?_ ?_ ?_); exact GV.out.res; exact rfl; exact rv_size zRv; exact FO.out; exact rfl; exact rfl)
    exact ret_blkO (p := 2) (u := 3) (ty := 24) rfl rfl w.heap.size 24 _ _ rfl RR.out Tryd.underlying24 rfl (rv_size zRv) _ rfl ⟨RB.out, .inl ⟨OK.out, rfl⟩⟩
end Go.Proofs.YtigbnjgmdgkgjaaDoor
