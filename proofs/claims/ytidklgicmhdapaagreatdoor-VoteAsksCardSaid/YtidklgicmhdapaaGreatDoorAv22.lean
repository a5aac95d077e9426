/-
  PACKAGE state
-/
import Derived.Test.YtidklgicmhdapaaGreatDoorAv21
namespace Go.Proofs.YtidklgicmhdapaaGreatDoor
open Go Go.RowKit Sh

theorem gRow_lenx {α : Type} {g : Src → α × Src} (hg : ∀ s, (g s).2.xs.length ≤ s.xs.length) (s : Src) : ∀ j, (gRow g s j).2.xs.length ≤ s.xs.length
  | 0 => Nat.le_refl _
  | j + 1 => Nat.le_trans (hg _) (gRow_lenx hg s j)
structure ROI (B : Nat) (w0 W : World) (gb gs g : Nat) (s0 : Src) (j : Nat) (L : List Itv) (lv : Value) : Prop where
  lo : W.ownsRow w0.heap.size 108 3 lv L.length (L.flatMap iv)
  le : L.map (·.i) = (gRow gIt s0 j).1
  sr : SR B W gs g (gRow gIt s0 j).2
  tr : ∀ y ∈ L, TR W y.p y.i.t
  nw : ∀ y ∈ L, NF W w0.heap.size y.p
  cb : CB W gb gs g
  kp : Kept (fun k => k = g ∨ k = gs) w0 W
  gl : g < w0.heap.size
  sl : gs < w0.heap.size
  bl : gb < w0.heap.size
structure RPI (B : Nat) (w0 W : World) (gb gs g : Nat) (s0 : Src) (j : Nat) (L : List Itv) (lv : Value) (y : Itv) : Prop where
  lo : W.ownsRow w0.heap.size 108 3 lv L.length (L.flatMap iv)
  le : (L ++ [y]).map (·.i) = (gRow gIt s0 (j + 1)).1
  sr : SR B W gs g (gRow gIt s0 (j + 1)).2
  tr : ∀ z ∈ L ++ [y], TR W z.p z.i.t
  nw : ∀ z ∈ L ++ [y], NF W w0.heap.size z.p
  cb : CB W gb gs g
  kp : Kept (fun k => k = g ∨ k = gs) w0 W
  gl : g < w0.heap.size
  sl : gs < w0.heap.size
  bl : gb < w0.heap.size
section
variable {B : Nat} {w0 W W' : World} {gb gs g : Nat} {s0 : Src} {j : Nat} {L : List Itv} {lv lv' : Value} {y : Itv}
theorem RPI.below (h : RPI B w0 W gb gs g s0 j L lv y) (hb : Below W.heap.size W W') : RPI B w0 W' gb gs g s0 j L lv y :=
  ⟨own_below h.lo hb, h.le, h.sr.below hb, fun y hy => (h.tr y hy).below hb, fun y hy => (h.nw y hy).below hb, h.cb.below hb, h.kp.trans (Kept.of_below hb), h.gl, h.sl, h.bl⟩
theorem ROI.read (h : ROI B w0 W gb gs g s0 j L lv) (e : y.i = (gIt (gRow gIt s0 j).2).1) (t : TR W' y.p y.i.t) (x : SR B W' gs g (gIt (gRow gIt s0 j).2).2) (k : Kept (fun k => k = g ∨ k = gs) W W') (n : NF W' W.heap.size y.p) : RPI B w0 W' gb gs g s0 j L lv y := by
  have hs := h.kp.size; have h1 := h.gl; have h2 := h.sl
  refine ⟨own_kept h.lo k (fun i hi e => by have := (h.lo.lt i hi).1; omega), ?_, x, fun z hz => ?_, fun z hz => ?_, h.cb.kept k, h.kp.trans k, h1, h2, h.bl⟩
  · rw [List.map_append, h.le]
    show _ = (gRow gIt s0 j).1 ++ [_]
    rw [← e]; rfl
  · rcases List.mem_append.1 hz with hz | hz
    · exact (h.tr z hz).keptS k (fun a ha e => by have := (h.nw z hz).ge a ha; omega)
    · rw [List.mem_singleton.1 hz]; exact t
  · rcases List.mem_append.1 hz with hz | hz
    · exact (h.nw z hz).kept k (fun a ha e => by have := (h.nw z hz).ge a ha; omega)
    · rw [List.mem_singleton.1 hz]; exact n.low hs
theorem RPI.more (h : RPI B w0 W gb gs g s0 j L lv y) (ho : W'.ownsRow w0.heap.size 108 3 lv' (L.length + 1) (L.flatMap iv ++ [y].flatMap iv)) (hr : W.grownBy W' lv.ownBlock) (hB : B ≤ w0.heap.size) : ROI B w0 W' gb gs g s0 (j + 1) (L ++ [y]) lv' := by
  have h1 := h.gl; have h2 := h.sl; have h4 := h.bl
  have k : Kept (fun k => lv.ownBlock = some k) W W' := (Kept.refl _ W).grown hr (fun k e => .inl e)
  have hge : ∀ i, lv.ownBlock = some i → w0.heap.size ≤ i := fun i hi => (h.lo.lt i hi).1
  have hap : ∀ z ∈ L ++ [y], ∀ a : Addr, z.p = some a → ¬ lv.ownBlock = some a.block := fun z hz a ha e => by
    obtain ⟨cs, hcs⟩ := (h.nw z hz).ty a ha
    exact own_apart h.lo hcs (by decide) e
  refine ⟨by rw [List.length_append, List.flatMap_append]; exact ho, h.le, ⟨h.sr.bx.kept k (fun e => by have := hge _ e; omega), h.sr.rd.stays k (fun e => by have := hge _ e; omega) (fun i hi e => by have := hge _ e; omega), h.sr.ne, h.sr.by_, h.sr.lb⟩, fun z hz => (h.tr z hz).keptS k (hap z hz), fun z hz => (h.nw z hz).kept k (hap z hz), ⟨(k.cell (p := ⟨gb, 0, none⟩) h.cb.lt (fun e => by have h9 : w0.heap.size ≤ gb := hge _ e; omega)).trans h.cb.c, Nat.lt_of_lt_of_le h.cb.lt k.size, h.cb.ns, h.cb.ng⟩, ⟨k.os.trans h.kp.os, k.tape.trans h.kp.tape, k.output.trans h.kp.output, Nat.le_trans h.kp.size k.size, fun i hi hf => (k.block i (Nat.lt_of_lt_of_le hi h.kp.size) (fun e => by have := hge _ e; omega)).trans (h.kp.block i hi hf)⟩, h1, h2, h4⟩
end
set_option maxRecDepth 100000 in
set_option maxHeartbeats 1000000 in
theorem rowsI_t (B gb gs g : Nat) (s : Src) (W : World) (x : SR B W gs g s) (hc : CB W gb gs g) (hl : s.xs.length ≤ 1000000) :
    Calls Tryz.prog 66 #[.pointer (some ⟨gs, 0, none⟩), .func (.func 67) #[] #[.pointer (some ⟨gb, 0, none⟩)]] W fun e W' => ∃ (l : List Itv) (A : Option Addr) (c : Nat), e = .returned (.slice A l.length c) ∧ l.map (·.i) = (gRow gIt (gNum s 1).2 (gNum s 1).1).1 ∧ W'.ownsRow W.heap.size 108 3 (.slice A l.length c) l.length (l.flatMap iv) ∧ (∀ y ∈ l, TR W' y.p y.i.t) ∧ (∀ y ∈ l, NF W' W.heap.size y.p) ∧ SR B W' gs g (gRow gIt (gNum s 1).2 (gNum s 1).1).2 ∧ Kept (fun k => k = g ∨ k = gs) W W' := by
  have NM := Lib.hid (snum_t B gs g 1 s W x (by decide) (by decide))
  have HV := gNum_lt (n := 1) x.by_
  have L1 := gNum_len s 1
  have X := Lib.hid x; have HC := Lib.hid hc
  obtain ⟨⟨n, s1⟩, E1⟩ : ∃ r, gNum s 1 = r := ⟨_, rfl⟩
  rw [E1] at NM HV L1 ⊢
  dsimp only at NM HV L1 ⊢
  have e1 : i64N n = (n : Int) := i64N_small (by have : n < 256 := HV; omega)
  rw [e1] at NM
  have n9 : n < 256 := HV
  have hcf := enters_of Tryz.func67 (by kernel_rfl) rfl
  have M1 := Lib.hid (show s1.xs.length ≤ 1000000 from by omega)
  have GL := Lib.hid (fun j => show (gRow gIt s1 j).2.xs.length ≤ 1000000 from by
    have h := gRow_lenx gIt_len s1 j
    have := M1.out
    omega)
  clear E1 e1 HV L1 x hc
  go_enter Tryz.func66, Tryz.ntmps66
  go_wp2_with fail
  refine NM.out.mono ?_
  rintro e w1 ⟨rfl, x1, k1⟩
  have R0 := Lib.hid (show ROI B W w1 gb gs g s1 0 [] (.slice none 0 0) from
    ⟨World.ownsRow_nil _ _ _ _, rfl, x1, (fun y hy => by cases hy), (fun y hy => by cases hy), HC.out.kept (k1.mono fun k e => .inl e), k1.mono fun k e => .inl e, X.out.rd.rd.lt, X.out.bx.lt, HC.out.lt⟩)
  have HBW := Lib.hid (show B ≤ W.heap.size from by have := X.out.lb; have := X.out.bx.lt; omega)
  clear x1 k1 NM HC X
  go_upto_region 3 with (fail)
  go_loopw [5, 8] (fun lv t wr => ∃ (j : Nat) (L : List Itv), j ≤ n ∧ t = .int .i64 (j : Int) ∧ ROI B W wr gb gs g s1 j L lv) (fun _ t _ => n - (intOf t).toNat)
  case atStart => exact ⟨0, [], by omega, rfl, R0.out⟩
  case round =>
    clear R0
    obtain ⟨j, L, hj, rfl, ro⟩ := hrel
    have R1 := Lib.hid ro
    clear ro
    by_cases hlt : j < n
    · have j1 : (j : Int) < (n : Int) := by omega
      have HLT := Lib.hid hlt
      have HLL := Lib.hid (show L.length = j from by have h := congrArg List.length R1.out.le; rw [List.length_map, gRow_len] at h; exact h)
      clear hlt
      go_wp2_with fail
      refine (itc_t B gb gs g _ wr R1.out.sr R1.out.cb (GL.out j)).mono ?_
      rintro e w2 ⟨y, rfl, hy, ty, xy, ky, ny⟩
      have R2 := Lib.hid (R1.out.read hy ty xy ky ny)
      clear hy ty xy ky ny R1
      have BA := Lib.hid ((Below.refl w2.heap.size w2).alloc (Nat.le_refl _) (.cells (iv y).toArray 108))
      have R3 := Lib.hid (R2.out.below BA.out)
      have Q1 := Lib.hid (row_one iv 3 y w2 108)
      have HB := Lib.hid (show W.heap.size ≤ (w2.alloc (.cells (iv y).toArray 108)).heap.size from R3.out.kp.size)
      have LL := Lib.hid (show L.length + 1 ≤ 1000000 from by have := HLL.out; have := HLT.out; omega)
      go_wp2_with (first
        | ((with_reducible refine at_op (.buildSlice 75 1 #[(0, .tmp 12)]) rfl ?_); go_must (refine build1 75 108 (.tmp 12) rfl rfl (iv y) rfl (build_iv y _) ?_))
        | ((with_reducible refine at_op (.call { callee := .builtin .append, args := #[.tmp 10, .tmp 13], argTypes := #[75, 75] }) rfl ?_); go_must (refine append_rows (.tmp 10) (.tmp 13) 75 rfl rfl 108 Tryz.underlying75 infoI rfl (by decide) (by decide) iv_len iv_one W.heap.size u5 L.length (L.flatMap iv) rfl R3.out.lo (some ⟨w2.heap.size, 0, none⟩) 1 1 rfl [y] rfl Q1.out LL.out HB.out ?_); intro v1 w5 h2 h3 h5 h6))
      have R4 := Lib.hid (R3.out.more h2.out h3.out HBW.out)
      clear h2 h3 h5 h6 R2 R3 Q1 BA
      go_roundw
      case rel => exact ⟨j + 1, L ++ [y], HLT.out, by go_num, R4.out⟩
      case measure => have := HLT.out; simp [intOf]; omega
    · obtain rfl : j = n := by omega
      clear hlt
      obtain ⟨lq, lc, hv, _⟩ := own_form R1.out.lo
      subst hv
      go_wp2_with fail
      go_ret
      exact ⟨L, lq, lc, rfl, R1.out.le, R1.out.lo, R1.out.tr, R1.out.nw, R1.out.sr, R1.out.kp⟩
structure ROW (B : Nat) (w0 W : World) (gb gs g : Nat) (s0 : Src) (j : Nat) (L : List Wtv) (lv : Value) : Prop where
  lo : W.ownsRow w0.heap.size 113 4 lv L.length (L.flatMap wv)
  le : L.map (·.x) = (gRow gWt s0 j).1
  sr : SR B W gs g (gRow gWt s0 j).2
  tr : ∀ y ∈ L, TR W y.p y.x.p
  nw : ∀ y ∈ L, NF W w0.heap.size y.p
  cb : CB W gb gs g
  kp : Kept (fun k => k = g ∨ k = gs) w0 W
  gl : g < w0.heap.size
  sl : gs < w0.heap.size
  bl : gb < w0.heap.size
structure RPW (B : Nat) (w0 W : World) (gb gs g : Nat) (s0 : Src) (j : Nat) (L : List Wtv) (lv : Value) (y : Wtv) : Prop where
  lo : W.ownsRow w0.heap.size 113 4 lv L.length (L.flatMap wv)
  le : (L ++ [y]).map (·.x) = (gRow gWt s0 (j + 1)).1
  sr : SR B W gs g (gRow gWt s0 (j + 1)).2
  tr : ∀ z ∈ L ++ [y], TR W z.p z.x.p
  nw : ∀ z ∈ L ++ [y], NF W w0.heap.size z.p
  cb : CB W gb gs g
  kp : Kept (fun k => k = g ∨ k = gs) w0 W
  gl : g < w0.heap.size
  sl : gs < w0.heap.size
  bl : gb < w0.heap.size
section
variable {B : Nat} {w0 W W' : World} {gb gs g : Nat} {s0 : Src} {j : Nat} {L : List Wtv} {lv lv' : Value} {y : Wtv}
theorem RPW.below (h : RPW B w0 W gb gs g s0 j L lv y) (hb : Below W.heap.size W W') : RPW B w0 W' gb gs g s0 j L lv y :=
  ⟨own_below h.lo hb, h.le, h.sr.below hb, fun y hy => (h.tr y hy).below hb, fun y hy => (h.nw y hy).below hb, h.cb.below hb, h.kp.trans (Kept.of_below hb), h.gl, h.sl, h.bl⟩
theorem ROW.read (h : ROW B w0 W gb gs g s0 j L lv) (e : y.x = (gWt (gRow gWt s0 j).2).1) (t : TR W' y.p y.x.p) (x : SR B W' gs g (gWt (gRow gWt s0 j).2).2) (k : Kept (fun k => k = g ∨ k = gs) W W') (n : NF W' W.heap.size y.p) : RPW B w0 W' gb gs g s0 j L lv y := by
  have hs := h.kp.size; have h1 := h.gl; have h2 := h.sl
  refine ⟨own_kept h.lo k (fun i hi e => by have := (h.lo.lt i hi).1; omega), ?_, x, fun z hz => ?_, fun z hz => ?_, h.cb.kept k, h.kp.trans k, h1, h2, h.bl⟩
  · rw [List.map_append, h.le]
    show _ = (gRow gWt s0 j).1 ++ [_]
    rw [← e]; rfl
  · rcases List.mem_append.1 hz with hz | hz
    · exact (h.tr z hz).keptS k (fun a ha e => by have := (h.nw z hz).ge a ha; omega)
    · rw [List.mem_singleton.1 hz]; exact t
  · rcases List.mem_append.1 hz with hz | hz
    · exact (h.nw z hz).kept k (fun a ha e => by have := (h.nw z hz).ge a ha; omega)
    · rw [List.mem_singleton.1 hz]; exact n.low hs
theorem RPW.more (h : RPW B w0 W gb gs g s0 j L lv y) (ho : W'.ownsRow w0.heap.size 113 4 lv' (L.length + 1) (L.flatMap wv ++ [y].flatMap wv)) (hr : W.grownBy W' lv.ownBlock) (hB : B ≤ w0.heap.size) : ROW B w0 W' gb gs g s0 (j + 1) (L ++ [y]) lv' := by
  have h1 := h.gl; have h2 := h.sl; have h4 := h.bl
  have k : Kept (fun k => lv.ownBlock = some k) W W' := (Kept.refl _ W).grown hr (fun k e => .inl e)
  have hge : ∀ i, lv.ownBlock = some i → w0.heap.size ≤ i := fun i hi => (h.lo.lt i hi).1
  have hap : ∀ z ∈ L ++ [y], ∀ a : Addr, z.p = some a → ¬ lv.ownBlock = some a.block := fun z hz a ha e => by
    obtain ⟨cs, hcs⟩ := (h.nw z hz).ty a ha
    exact own_apart h.lo hcs (by decide) e
  refine ⟨by rw [List.length_append, List.flatMap_append]; exact ho, h.le, ⟨h.sr.bx.kept k (fun e => by have := hge _ e; omega), h.sr.rd.stays k (fun e => by have := hge _ e; omega) (fun i hi e => by have := hge _ e; omega), h.sr.ne, h.sr.by_, h.sr.lb⟩, fun z hz => (h.tr z hz).keptS k (hap z hz), fun z hz => (h.nw z hz).kept k (hap z hz), ⟨(k.cell (p := ⟨gb, 0, none⟩) h.cb.lt (fun e => by have h9 : w0.heap.size ≤ gb := hge _ e; omega)).trans h.cb.c, Nat.lt_of_lt_of_le h.cb.lt k.size, h.cb.ns, h.cb.ng⟩, ⟨k.os.trans h.kp.os, k.tape.trans h.kp.tape, k.output.trans h.kp.output, Nat.le_trans h.kp.size k.size, fun i hi hf => (k.block i (Nat.lt_of_lt_of_le hi h.kp.size) (fun e => by have := hge _ e; omega)).trans (h.kp.block i hi hf)⟩, h1, h2, h4⟩
end
set_option maxRecDepth 100000 in
set_option maxHeartbeats 1000000 in
theorem rowsW_t (B gb gs g : Nat) (s : Src) (W : World) (x : SR B W gs g s) (hc : CB W gb gs g) (hl : s.xs.length ≤ 1000000) :
    Calls Tryz.prog 69 #[.pointer (some ⟨gs, 0, none⟩), .func (.func 70) #[] #[.pointer (some ⟨gb, 0, none⟩)]] W fun e W' => ∃ (l : List Wtv) (A : Option Addr) (c : Nat), e = .returned (.slice A l.length c) ∧ l.map (·.x) = (gRow gWt (gNum s 1).2 (gNum s 1).1).1 ∧ W'.ownsRow W.heap.size 113 4 (.slice A l.length c) l.length (l.flatMap wv) ∧ (∀ y ∈ l, TR W' y.p y.x.p) ∧ (∀ y ∈ l, NF W' W.heap.size y.p) ∧ SR B W' gs g (gRow gWt (gNum s 1).2 (gNum s 1).1).2 ∧ Kept (fun k => k = g ∨ k = gs) W W' := by
  have NM := Lib.hid (snum_t B gs g 1 s W x (by decide) (by decide))
  have HV := gNum_lt (n := 1) x.by_
  have L1 := gNum_len s 1
  have X := Lib.hid x; have HC := Lib.hid hc
  obtain ⟨⟨n, s1⟩, E1⟩ : ∃ r, gNum s 1 = r := ⟨_, rfl⟩
  rw [E1] at NM HV L1 ⊢
  dsimp only at NM HV L1 ⊢
  have e1 : i64N n = (n : Int) := i64N_small (by have : n < 256 := HV; omega)
  rw [e1] at NM
  have n9 : n < 256 := HV
  have hcf := enters_of Tryz.func70 (by kernel_rfl) rfl
  have M1 := Lib.hid (show s1.xs.length ≤ 1000000 from by omega)
  have GL := Lib.hid (fun j => show (gRow gWt s1 j).2.xs.length ≤ 1000000 from by
    have h := gRow_lenx gWt_len s1 j
    have := M1.out
    omega)
  clear E1 e1 HV L1 x hc
  go_enter Tryz.func69, Tryz.ntmps69
  go_wp2_with fail
  refine NM.out.mono ?_
  rintro e w1 ⟨rfl, x1, k1⟩
  have R0 := Lib.hid (show ROW B W w1 gb gs g s1 0 [] (.slice none 0 0) from
    ⟨World.ownsRow_nil _ _ _ _, rfl, x1, (fun y hy => by cases hy), (fun y hy => by cases hy), HC.out.kept (k1.mono fun k e => .inl e), k1.mono fun k e => .inl e, X.out.rd.rd.lt, X.out.bx.lt, HC.out.lt⟩)
  have HBW := Lib.hid (show B ≤ W.heap.size from by have := X.out.lb; have := X.out.bx.lt; omega)
  clear x1 k1 NM HC X
  go_upto_region 3 with (fail)
  go_loopw [5, 8] (fun lv t wr => ∃ (j : Nat) (L : List Wtv), j ≤ n ∧ t = .int .i64 (j : Int) ∧ ROW B W wr gb gs g s1 j L lv) (fun _ t _ => n - (intOf t).toNat)
  case atStart => exact ⟨0, [], by omega, rfl, R0.out⟩
  case round =>
    clear R0
    obtain ⟨j, L, hj, rfl, ro⟩ := hrel
    have R1 := Lib.hid ro
    clear ro
    by_cases hlt : j < n
    · have j1 : (j : Int) < (n : Int) := by omega
      have HLT := Lib.hid hlt
      have HLL := Lib.hid (show L.length = j from by have h := congrArg List.length R1.out.le; rw [List.length_map, gRow_len] at h; exact h)
      clear hlt
      go_wp2_with fail
      refine (wtc_t B gb gs g _ wr R1.out.sr R1.out.cb (GL.out j)).mono ?_
      rintro e w2 ⟨y, rfl, hy, ty, xy, ky, ny⟩
      have R2 := Lib.hid (R1.out.read hy ty xy ky ny)
      clear hy ty xy ky ny R1
      have BA := Lib.hid ((Below.refl w2.heap.size w2).alloc (Nat.le_refl _) (.cells (wv y).toArray 113))
      have R3 := Lib.hid (R2.out.below BA.out)
      have Q1 := Lib.hid (row_one wv 4 y w2 113)
      have HB := Lib.hid (show W.heap.size ≤ (w2.alloc (.cells (wv y).toArray 113)).heap.size from R3.out.kp.size)
      have LL := Lib.hid (show L.length + 1 ≤ 1000000 from by have := HLL.out; have := HLT.out; omega)
      go_wp2_with (first
        | ((with_reducible refine at_op (.buildSlice 76 1 #[(0, .tmp 12)]) rfl ?_); go_must (refine build1 76 113 (.tmp 12) rfl rfl (wv y) rfl (build_wv y _) ?_))
        | ((with_reducible refine at_op (.call { callee := .builtin .append, args := #[.tmp 10, .tmp 13], argTypes := #[76, 76] }) rfl ?_); go_must (refine append_rows (.tmp 10) (.tmp 13) 76 rfl rfl 113 Tryz.underlying76 infoW rfl (by decide) (by decide) wv_len wv_one W.heap.size u5 L.length (L.flatMap wv) rfl R3.out.lo (some ⟨w2.heap.size, 0, none⟩) 1 1 rfl [y] rfl Q1.out LL.out HB.out ?_); intro v1 w5 h2 h3 h5 h6))
      have R4 := Lib.hid (R3.out.more h2.out h3.out HBW.out)
      clear h2 h3 h5 h6 R2 R3 Q1 BA
      go_roundw
      case rel => exact ⟨j + 1, L ++ [y], HLT.out, by go_num, R4.out⟩
      case measure => have := HLT.out; simp [intOf]; omega
    · obtain rfl : j = n := by omega
      clear hlt
      obtain ⟨lq, lc, hv, _⟩ := own_form R1.out.lo
      subst hv
      go_wp2_with fail
      go_ret
      exact ⟨L, lq, lc, rfl, R1.out.le, R1.out.lo, R1.out.tr, R1.out.nw, R1.out.sr, R1.out.kp⟩
end Go.Proofs.YtidklgicmhdapaaGreatDoor
