/-
  LAYER 10's laws
-/
import Derived.Test.YtidklgicmhdapaaGreatDoorAv30
namespace Go.Proofs.YtidklgicmhdapaaGreatDoor
open Go Go.RowKit Sh

def fakeX (i : Nat) : List Nat := (((List.replicate 56 0).set 3 5).set 7 (1 + i % 4)).set 20 i
theorem fakeX_len (i : Nat) : (fakeX i).length = 56 := by simp [fakeX]
theorem fakeX_form (i : Nat) (h : i < 10) : formN (fakeX i) = true := by
  have hc : i = 0 ∨ i = 1 ∨ i = 2 ∨ i = 3 ∨ i = 4 ∨ i = 5 ∨ i = 6 ∨ i = 7 ∨ i = 8 ∨ i = 9 := by omega
  rcases hc with rfl | rfl | rfl | rfl | rfl | rfl | rfl | rfl | rfl | rfl <;> rfl
theorem fakeX_bytes (i : Nat) (h : i < 10) : Bytes (fakeX i) := by
  have hc : i = 0 ∨ i = 1 ∨ i = 2 ∨ i = 3 ∨ i = 4 ∨ i = 5 ∨ i = 6 ∨ i = 7 ∨ i = 8 ∨ i = 9 := by omega
  rcases hc with rfl | rfl | rfl | rfl | rfl | rfl | rfl | rfl | rfl | rfl <;> exact sl_bytes (by decide)
theorem make_b56 (w : World) : (Instr.makeSlice 24 (.int .i64 56) (.int .i64 56)).run Tryz.prog w = .ok (.slice (some ⟨w.heap.size, 0, none⟩) 56 56) (w.alloc (.cells (u8s (List.replicate 56 0)).toArray 5)) := by
  have hinfo : (Tryz.prog.info? 5).map (fun i => (i.zero, i.size, i.bytes)) = some (some (.int .u8 0), 1, 1) := by kernel_rfl
  obtain ⟨i, hi, hzz⟩ := Option.map_eq_some_iff.1 hinfo
  simp only [Prod.mk.injEq] at hzz
  obtain ⟨hz, hs, hb⟩ := hzz
  have hr := run_make (P := Tryz.prog) w 24 5 i (.int .u8 0) Tryz.underlying24 hi hz .i64 .i64 56 56 (by omega) (Int.le_refl _) (by rw [hb]; decide) (by decide)
  rw [show (56 : Int).toNat = 56 from rfl, hs, show madeCells (Value.int .u8 0).cells (56 * 1) = (u8s (List.replicate 56 0)).toArray from by kernel_rfl] at hr
  exact hr
theorem and3G (i : Nat) (h : i < 10) : bits .and .i64 (i : Int) 3 = ((i % 4 : Nat) : Int) := by
  have hc : i = 0 ∨ i = 1 ∨ i = 2 ∨ i = 3 ∨ i = 4 ∨ i = 5 ∨ i = 6 ∨ i = 7 ∨ i = 8 ∨ i = 9 := by omega
  rcases hc with rfl | rfl | rfl | rfl | rfl | rfl | rfl | rfl | rfl | rfl <;> rfl
def NK (W : World) (B : Nat) (y : Ky) : Prop := ∃ b, y.A = some ⟨b, 0, none⟩ ∧ B ≤ b ∧ Blk W b 5 (u8s y.X)
structure FK9 (w0 W : World) (x : Gv) : Prop where
  res : Blk W w0.heap.size 41 (gv zGv)
  bx : Blk W (w0.heap.size + 1) 41 (gv x)
  ow : W.ownsRow w0.heap.size 24 1 (.slice x.kp x.ks.length x.kc) x.ks.length (x.ks.flatMap kyv)
  nk : ∀ y ∈ x.ks, NK W w0.heap.size y
  bel : Below w0.heap.size w0 W
theorem NK.below {W W' : World} {B : Nat} {y : Ky} (h : NK W B y) (hb : Below W.heap.size W W') : NK W' B y := by
  obtain ⟨b, h1, h2, h3⟩ := h
  exact ⟨b, h1, h2, h3.below hb h3.lt⟩
theorem NK.sr {W : World} {B : Nat} {y : Ky} (h : NK W B y) : Sr W y.A y.X := by
  obtain ⟨b, h1, h2, h3⟩ := h
  rw [h1]
  exact fun _ => ⟨b, 0, rfl, h3.lt, fun j hj => by rw [Nat.zero_add, h3.cell]; exact u8s_get _ _ hj⟩
theorem FK9.below {w0 W W' : World} {x : Gv} (h : FK9 w0 W x) (hb : Below W.heap.size W W') : FK9 w0 W' x :=
  ⟨h.res.below hb h.res.lt, h.bx.below hb h.bx.lt, own_below h.ow hb, fun y hy => (h.nk y hy).below hb, h.bel.trans (hb.mono h.bel.size)⟩
theorem FK9.write {w0 W W' : World} {x : Gv} {kb : Nat} {cs : List Value} (h : FK9 w0 W x) (hk : Kept (fun k => k = kb) W W') (hb : w0.heap.size + 1 < kb) (hu : Blk W kb 5 cs) (hn : ∀ y ∈ x.ks, ∀ a : Addr, y.A = some a → a.block ≠ kb) : FK9 w0 W' x := by
  refine ⟨h.res.kept hk (by omega), h.bx.kept hk (by omega), own_kept h.ow hk (fun k hk' e => own_apart h.ow hu (by decide) (by rw [hk', e])), fun y hy => ?_, kept_below h.bel hk (by omega)⟩
  obtain ⟨b, h1, h2, h3⟩ := h.nk y hy
  exact ⟨b, h1, h2, h3.kept hk (hn y hy _ h1)⟩
theorem infoKs : (Tryz.prog.info? 24).map (fun i => (i.zero, i.size, i.bytes)) = some (some (.slice none 0 0), 1, 24) := by kernel_rfl
theorem FK9.grow {w0 W W' : World} {x : Gv} {y : Ky} {kp' : Option Addr} {kc' : Nat} (h : FK9 w0 W x) (hy : NK W w0.heap.size y) (ho : W'.ownsRow w0.heap.size 24 1 (.slice kp' (x.ks.length + 1) kc') (x.ks.length + 1) (x.ks.flatMap kyv ++ [y].flatMap kyv)) (hr : W.grownBy W' (Value.slice x.kp x.ks.length x.kc).ownBlock) :
    Blk W' (w0.heap.size + 1) 41 (gv x) ∧ FK9 w0 (W'.setCell ⟨w0.heap.size + 1, 3, none⟩ (.slice kp' (x.ks.length + 1) kc')) { x with ks := x.ks ++ [y], kp := kp', kc := kc' } := by
  have k : Kept (fun k => (Value.slice x.kp x.ks.length x.kc).ownBlock = some k) W W' := (Kept.refl _ W).grown hr (fun k e => .inl e)
  have hge : ∀ i, (Value.slice x.kp x.ks.length x.kc).ownBlock = some i → w0.heap.size ≤ i := fun i hi => (h.ow.lt i hi).1
  have b1 := h.res.kept k (fun e => own_apart h.ow h.res (by decide) e)
  have b2 := h.bx.kept k (fun e => own_apart h.ow h.bx (by decide) e)
  have nk : ∀ z, NK W w0.heap.size z → NK W' w0.heap.size z := fun z hz => by
    obtain ⟨b, h1, h2, h3⟩ := hz
    exact ⟨b, h1, h2, h3.kept k (fun e => own_apart h.ow h3 (by decide) e)⟩
  have bel' : Below w0.heap.size w0 W' := h.bel.trans ((k.mono hge).to_below h.bel.size)
  refine ⟨b2, ?_⟩
  have hk : Kept (fun k => k = w0.heap.size + 1) W' (W'.setCell ⟨w0.heap.size + 1, 3, none⟩ (.slice kp' (x.ks.length + 1) kc')) := Kept.setCell (F := fun k => k = w0.heap.size + 1) (Kept.refl _ _) (p := ⟨w0.heap.size + 1, 3, none⟩) (.inl rfl) _
  refine ⟨b1.kept hk (by omega), ?_, ?_, fun z hz => ?_, kept_below bel' hk (by omega)⟩
  · have := b2.store 3 (.slice kp' (x.ks.length + 1) kc')
    rw [show gv { x with ks := x.ks ++ [y], kp := kp', kc := kc' } = (gv x).set 3 (.slice kp' (x.ks.length + 1) kc') by simp [gv]]
    exact this
  · refine own_kept ?_ hk (fun k hk' e => own_apart ho b2 (by decide) (by rw [show (x.ks ++ [y]).length = x.ks.length + 1 by simp] at hk'; rw [hk', e]))
    rw [show (x.ks ++ [y]).length = x.ks.length + 1 by simp, List.flatMap_append]
    exact ho
  · have hz' : NK W w0.heap.size z := by
      rcases List.mem_append.1 hz with h1 | h1
      · exact h.nk z h1
      · rw [List.mem_singleton.1 h1]; exact hy
    obtain ⟨b, h1, h2, h3⟩ := nk z hz'
    exact ⟨b, h1, h2, h3.kept hk (h3.apart b2 (by decide))⟩
set_option maxRecDepth 100000 in
set_option maxHeartbeats 2000000 in
theorem fakeO_t (f : Nat) (rd wr : Int) (hf : f ≤ 3) (w : World) :
    Calls Tryz.prog 16 #[.int .i64 (f : Int), .int .i64 rd, .int .i64 wr] w fun e w' => ∃ y : Gv, y.ge = ⟨(f : Int), rd, wr, (List.range (3 * f + 1)).map fakeX, []⟩ ∧ e = .returned (.agg (gv y).toArray) ∧ GvW w' y ∧ w'.ownsRow w.heap.size 24 1 (.slice y.kp y.ks.length y.kc) y.ks.length (y.ks.flatMap kyv) ∧ (∀ z ∈ y.ks, NK w' w.heap.size z) ∧ Below w.heap.size w w' := by
  have BG := built_g9 (f : Int) rd wr
  have F0 := Lib.hid (show FK9 w ((w.alloc (.cells (gv zGv).toArray 41)).alloc (.cells (gv ⟨(f : Int), rd, wr, none, 0, [], none, 0, []⟩).toArray 41)) ⟨(f : Int), rd, wr, none, 0, [], none, 0, []⟩ from
    ⟨(Blk.new w 41 (gv zGv)).alloc _, Blk.new2 w _ 41 _, World.ownsRow_nil _ _ _ _, (fun y hy => by cases hy), ((Below.refl _ _).alloc (Nat.le_refl _) _).alloc (by simp) _⟩)
  obtain ⟨n, hn⟩ : ∃ n, 3 * f + 1 = n := ⟨_, rfl⟩
  have n10 : n ≤ 10 := by omega
  have hn3 : (3 * (f : Int) + 1) = (n : Int) := by omega
  rw [hn]
  go_enter Tryz.func16, Tryz.ntmps16
  go_upto_region 2 with (fail)
  refine world_at (fun Y => FK9 w Y ⟨(f : Int), rd, wr, none, 0, [], none, 0, []⟩) F0.out ?_
  rintro V f1
  have F1 := Lib.hid f1
  clear f1 F0 BG
  go_wp2_with fail
  go_loopw [8] (fun t wq => ∃ (j : Nat) (x : Gv), j ≤ n ∧ t = .int .i64 (j : Int) ∧ FK9 w wq x ∧ x.ge = ⟨(f : Int), rd, wr, (List.range j).map fakeX, []⟩ ∧ x.sp = none ∧ x.sc = 0) (fun t _ => n - (intOf t).toNat)
  case atStart => exact ⟨0, _, by omega, rfl, F1.out, rfl, rfl, rfl⟩
  case round =>
    clear F1
    obtain ⟨j, x, hj, rfl, fk, hge, hsp, hsc⟩ := hrel
    have FK := Lib.hid fk; have HGE := Lib.hid hge; have HSP := Lib.hid (And.intro hsp hsc)
    have HLN := Lib.hid (show x.ks.length = j from by
      have h := congrArg (fun e => e.ks.length) hge
      simpa [Gv.ge] using h)
    clear fk hge hsp hsc
    by_cases hlt : j < n
    · have j1 : (j : Int) < (n : Int) := by omega
      have j1b : (j : Int) < 3 * (f : Int) + 1 := by omega
      have j2 : (j : Int) < 10 := by omega
      have j10 : j < 10 := by omega
      have ea := and3G j j10
      have mb := make_b56 wr
      have FKa := Lib.hid (FK.out.below (show Below wr.heap.size wr (wr.alloc (.cells (u8s (List.replicate 56 0)).toArray 5)) from (Below.refl _ _).alloc (Nat.le_refl _) _))
      have KB0 := Lib.hid (Blk.new wr 5 (u8s (List.replicate 56 0)))
      have HLB := Lib.hid FK.out.bel.size
      go_upto_region 6 with (fail)
      clear mb
      refine world_at (fun Z => FK9 w Z x ∧ Blk Z wr.heap.size 5 (u8s (List.replicate 56 0))) ⟨FKa.out, KB0.out⟩ ?_
      rintro Z ⟨z1, z2⟩
      have HNE := Lib.hid (show ∀ y ∈ x.ks, ∀ a : Addr, y.A = some a → a.block ≠ wr.heap.size from fun y hy a ha e => by
        obtain ⟨b, h1, h2, h3⟩ := FK.out.nk y hy
        rw [h1] at ha
        injection ha with ha
        subst ha
        have := h3.lt
        have e' : b = wr.heap.size := e
        omega)
      have HKB := Lib.hid (show w.heap.size + 1 < wr.heap.size from FK.out.bx.lt)
      obtain ⟨kb, hkb⟩ : ∃ b, wr.heap.size = b := ⟨_, rfl⟩
      rw [hkb] at z2 HNE HKB ⊢
      have f3 := z2.frozen 3; have f7 := z2.frozen 7; have f20 := z2.frozen 20
      have c3 : Z.cell? ⟨kb, 3, none⟩ = some (.int .u8 0) := z2.cell 3
      have c7 : Z.cell? ⟨kb, 7, none⟩ = some (.int .u8 0) := z2.cell 7
      have c20 : Z.cell? ⟨kb, 20, none⟩ = some (.int .u8 0) := z2.cell 20
      have Z1 := Lib.hid z1; have Z2 := Lib.hid z2
      have w1 : IntKind.u8.wrap (1 + ((j % 4 : Nat) : Int)) = ((1 + j % 4 : Nat) : Int) := by
        have hc : j % 4 = 0 ∨ j % 4 = 1 ∨ j % 4 = 2 ∨ j % 4 = 3 := by omega
        rcases hc with h | h | h | h <;> rw [h] <;> rfl
      have w2 : IntKind.u8.wrap (j : Int) = (j : Int) := by
        have hc : j = 0 ∨ j = 1 ∨ j = 2 ∨ j = 3 ∨ j = 4 ∨ j = 5 ∨ j = 6 ∨ j = 7 ∨ j = 8 ∨ j = 9 := by omega
        rcases hc with rfl | rfl | rfl | rfl | rfl | rfl | rfl | rfl | rfl | rfl <;> rfl
      clear z1 z2 FKa KB0 FK HLB hkb
      have kz : Kept (fun k => k = kb) Z (((Z.setCell ⟨kb, 3, none⟩ (.int .u8 5)).setCell ⟨kb, 7, none⟩ (.int .u8 (1 + (j : Int) % 4))).setCell ⟨kb, 20, none⟩ (.int .u8 (j : Int))) := Kept.setCell (F := fun k => k = kb) (Kept.setCell (F := fun k => k = kb) (Kept.setCell (F := fun k => k = kb) (Kept.refl _ _) (p := ⟨kb, 3, none⟩) (.inl rfl) _) (p := ⟨kb, 7, none⟩) (.inl rfl) _) (p := ⟨kb, 20, none⟩) (.inl rfl) _
      have BK := Lib.hid (show Blk (((Z.setCell ⟨kb, 3, none⟩ (.int .u8 5)).setCell ⟨kb, 7, none⟩ (.int .u8 (1 + (j : Int) % 4))).setCell ⟨kb, 20, none⟩ (.int .u8 (j : Int))) kb 5 (u8s (fakeX j)) from by
        have h := ((Z2.out.store 3 (.int .u8 ((5 : Nat) : Int))).store 7 (.int .u8 ((1 + j % 4 : Nat) : Int))).store 20 (.int .u8 ((j : Nat) : Int))
        rw [u8s_set, u8s_set, u8s_set, show ((1 + j % 4 : Nat) : Int) = 1 + (j : Int) % 4 by omega] at h
        exact h)
      have FK5 := Lib.hid (Z1.out.write kz HKB.out Z2.out HNE.out)
      clear kz
      go_upto_region 7 with (fail)
      clear f3 f7 f20 c3 c7 c20 w1 w2 ea Z1 Z2 HNE
      obtain ⟨Z5, hZ5⟩ : ∃ V, (((Z.setCell ⟨kb, 3, none⟩ (.int .u8 5)).setCell ⟨kb, 7, none⟩ (.int .u8 (1 + (j : Int) % 4))).setCell ⟨kb, 20, none⟩ (.int .u8 (j : Int))) = V := ⟨_, rfl⟩
      rw [hZ5] at BK FK5 ⊢
      clear hZ5
      obtain ⟨y, hy⟩ : ∃ y : Ky, (⟨some ⟨kb, 0, none⟩, 56, fakeX j⟩ : Ky) = y := ⟨_, rfl⟩
      have HY := Lib.hid hy
      have KV := Lib.hid (show kyv y = [.slice (some ⟨kb, 0, none⟩) 56 56] from by rw [← hy]; unfold kyv; rw [fakeX_len])
      have NY := Lib.hid (show NK Z5 w.heap.size y from by rw [← hy]; exact ⟨kb, rfl, by have := HKB.out; omega, BK.out⟩)
      clear hy BK
      have cg : Z5.cell? ⟨w.heap.size + 1, 3, none⟩ = some (.slice x.kp x.ks.length x.kc) := (gv_cells FK5.out.bx).2.2.2.1
      have BA := Lib.hid ((Below.refl Z5.heap.size Z5).alloc (Nat.le_refl _) (.cells #[.slice (some ⟨kb, 0, none⟩) 56 56] 24))
      have R3 := Lib.hid (FK5.out.below BA.out)
      have NY3 := Lib.hid (NY.out.below BA.out)
      have Q1 := Lib.hid (show RowL (Z5.alloc (.cells #[.slice (some ⟨kb, 0, none⟩) 56 56] 24)) (some ⟨Z5.heap.size, 0, none⟩) 1 kyv [y] from by
        have h := row_one kyv 1 y Z5 24
        rw [KV.out] at h
        exact h)
      have O1 := Lib.hid R3.out.ow
      have HBS := Lib.hid (show w.heap.size ≤ (Z5.alloc (.cells #[.slice (some ⟨kb, 0, none⟩) 56 56] 24)).heap.size from R3.out.bel.size)
      have LL := Lib.hid (show x.ks.length + 1 ≤ 1000000 from by have := HLN.out; omega)
      go_wp2_with ((with_reducible refine at_op (.call { callee := .builtin .append, args := #[.tmp 39, .tmp 41], argTypes := #[39, 39] }) rfl ?_); go_must (refine append_rows (.tmp 39) (.tmp 41) 39 rfl rfl 24 Tryz.underlying39 infoKs rfl (by decide) (by decide) kyv_len kyv_one w.heap.size (.slice x.kp x.ks.length x.kc) x.ks.length (x.ks.flatMap kyv) rfl O1.out (some ⟨Z5.heap.size, 0, none⟩) 1 1 rfl [y] rfl Q1.out LL.out HBS.out ?_); intro v1 w9 h2 h3 h5 h6; obtain ⟨ip9, ic9, hv9, _⟩ := own_form h2.out; subst hv9; have r9 := R3.out.grow NY3.out h2.out h3.out; have fz := r9.1.frozen 3; have ct : w9.cell? ⟨w.heap.size + 1, 3, none⟩ = some (.slice x.kp x.ks.length x.kc) := (gv_cells r9.1).2.2.2.1; have R9 := Lib.hid r9.2; clear r9 h2 h3 h5 h6)
      go_roundw
      case rel =>
        refine ⟨j + 1, { x with ks := x.ks ++ [y], kp := ip9, kc := ic9 }, by omega, by go_num, R9.out, ?_, HSP.out.1, HSP.out.2⟩
        have h := HGE.out
        unfold Gv.ge at h ⊢
        simp only [Ge.mk.injEq] at h ⊢
        obtain ⟨h1, h2, h3, h4, h5⟩ := h
        refine ⟨h1, h2, h3, ?_, h5⟩
        rw [List.map_append, h4, List.range_succ, List.map_append, ← HY.out]
        rfl
      case measure => simp [intOf]; omega
    · obtain rfl : j = n := by omega
      have j1 : decide ((j : Int) < 3 * (f : Int) + 1) = false := decide_eq_false (by omega)
      have RES := Lib.hid FK.out.res
      have GBX := Lib.hid FK.out.bx
      have FY := Lib.hid (gv_size x); have FYO := Lib.hid (gv_one x)
      have RZ := Lib.hid (FK.out.res.setRow (gv x))
      have BF := Lib.hid (below_setRow FK.out.bel (Nat.le_refl _) (gv x).toArray)
      have hks : x.ks.map (·.X) = (List.range j).map fakeX := by have h := congrArg (fun e => e.ks) HGE.out; exact h
      have hst : x.st = [] := by have h := congrArg (fun e => e.st) HGE.out; exact h
      have KW := Lib.hid (show GvW (wr.setRow w.heap.size (gv x).toArray) x from by
        have hk : Kept (fun k => k = w.heap.size) wr (wr.setRow w.heap.size (gv x).toArray) := Kept.setRowK (F := fun k => k = w.heap.size) (Kept.refl _ _) (.inl rfl) _
        have hX : ∀ y ∈ x.ks, ∃ i, i < 10 ∧ y.X = fakeX i := fun y hy => by
          have h : y.X ∈ x.ks.map (·.X) := List.mem_map_of_mem hy
          rw [hks] at h
          obtain ⟨i, hi, e⟩ := List.mem_map.1 h
          exact ⟨i, by have := List.mem_range.1 hi; omega, e.symm⟩
        refine ⟨RowL.of_own kyv_len rfl (own_kept FK.out.ow hk (fun k hk' e => own_apart FK.out.ow FK.out.res (by decide) (by rw [hk', e]))), fun y hy => ?_, fun y hy => ?_, fun y hy => ?_, by rw [HLN.out]; omega, by rw [hst]; exact Sr.nil, by rw [hst]; exact nil_bytes, by rw [hst]; exact Nat.zero_le _, by rw [hst]; exact Nat.zero_le _⟩
        · obtain ⟨b, h1, h2, h3⟩ := FK.out.nk y hy
          exact NK.sr (B := w.heap.size) ⟨b, h1, h2, h3.kept hk (h3.apart FK.out.res (by decide))⟩
        · obtain ⟨i, hi, e⟩ := hX y hy
          rw [e]; exact fakeX_bytes i hi
        · obtain ⟨i, hi, e⟩ := hX y hy
          rw [e, fakeX_len]; decide)
      have OW := Lib.hid (show (wr.setRow w.heap.size (gv x).toArray).ownsRow w.heap.size 24 1 (.slice x.kp x.ks.length x.kc) x.ks.length (x.ks.flatMap kyv) from
        own_kept FK.out.ow (Kept.setRowK (F := fun k => k = w.heap.size) (Kept.refl _ _) (.inl rfl) _) (fun k hk' e => own_apart FK.out.ow FK.out.res (by decide) (by rw [hk', e])))
      have NKS := Lib.hid (show ∀ z ∈ x.ks, NK (wr.setRow w.heap.size (gv x).toArray) w.heap.size z from fun z hz => by
        obtain ⟨b, h1, h2, h3⟩ := FK.out.nk z hz
        exact ⟨b, h1, h2, h3.kept (Kept.setRowK (F := fun k => k = w.heap.size) (Kept.refl _ _) (.inl rfl) _) (h3.apart FK.out.res (by decide))⟩)
      clear hlt hks hst FK
      go_wp2_with (first
        | ((with_reducible refine load_blk 41 (.tmp 7) (w.heap.size + 1) 41 (gv x) _ rfl rfl ?_ Tryz.underlying41 ?_ ?_ ?_ ?_); exact GBX.out; exact rfl; exact FY.out; exact rfl)
        | ((with_reducible refine at_op (.store 41 (.tmp 6) (.tmp 44)) rfl ?_); go_must (refine store_blk 41 (.tmp 6) (.tmp 44) w.heap.size 41 _ (gv x) rfl rfl RES.out rfl FY.out FYO.out rfl rfl ?_)))
      exact ret_blk (p := 6) (ty := 41) rfl rfl w.heap.size 41 _ _ rfl RZ.out Tryz.underlying41 rfl FY.out ⟨x, HGE.out, rfl, KW.out, OW.out, NKS.out, BF.out⟩
theorem fake_t (f : Nat) (rd wr : Int) (hf : f ≤ 3) (w : World) :
    Calls Tryz.prog 16 #[.int .i64 (f : Int), .int .i64 rd, .int .i64 wr] w fun e w' => ∃ y : Gv, y.ge = ⟨(f : Int), rd, wr, (List.range (3 * f + 1)).map fakeX, []⟩ ∧ e = .returned (.agg (gv y).toArray) ∧ GvW w' y ∧ Below w.heap.size w w' :=
  (fakeO_t f rd wr hf w).mono fun _ _ ⟨y, h1, h2, h3, _, _, h5⟩ => ⟨y, h1, h2, h3, h5⟩
end Go.Proofs.YtidklgicmhdapaaGreatDoor
