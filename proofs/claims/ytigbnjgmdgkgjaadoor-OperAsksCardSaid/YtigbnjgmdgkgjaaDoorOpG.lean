/-
  PACKAGE oper: readFields, Get.
-/
import Derived.Test.YtigbnjgmdgkgjaaDoorOpA
import Derived.Laws.ResultCell
namespace Go.Proofs.YtigbnjgmdgkgjaaDoor
open Go Go.RowKit Sh

theorem Rw.nil {w : World} {p : Option Addr} {G : Nat → Fld} : Rw w p 0 G := fun j hj => absurd hj (by omega)
theorem Rw.kept {F : Nat → Prop} {w w' : World} {p : Option Addr} {n : Nat} {G : Nat → Fld} (h : Rw w p n G) (hk : Kept F w w') (hf : ∀ a : Addr, p = some a → ¬ F a.block) : Rw w' p n G := fun j hj => by
  obtain ⟨b, o, rfl, hl, r⟩ := h j hj
  exact ⟨b, o, rfl, Nat.lt_of_lt_of_le hl hk.size, fun i v hv => (hk.cell (p := ⟨b, o + j * 3 + i, none⟩) hl (fun e => hf ⟨b, o, none⟩ rfl e)).trans (r i v hv)⟩
theorem isEmpty_len (l : List Nat) : l.isEmpty = decide (l.length = 0) := by cases l <;> rfl
set_option maxRecDepth 100000 in
theorem readFields_t (g : Nat) (xs : List Nat) (bad : Bool) (w : World) (x : Rd w g xs bad) (hb : Bytes xs) (hl : xs.length ≤ 1000000) :
    Calls Tryd.prog 37 #[.pointer (some ⟨g, 0, none⟩)] w fun e w' => (∃ A c, e = .returned (.tuple #[.slice A (fN (rTxt xs bad xs.length).1) c, .bool (fOK (rTxt xs bad xs.length).1)]) ∧ Rw w' A (fN (rTxt xs bad xs.length).1) (gotN (rTxt xs bad xs.length).1) ∧ (∀ a : Addr, A = some a → w.heap.size ≤ a.block)) ∧
      Rd w' g (rTxt xs bad xs.length).2.1 (rTxt xs bad xs.length).2.2 ∧ Kept (fun k => k = g) w w' := by
  have LF := Lib.hid (left_t g xs bad w x)
  have TX := Lib.hid (rtxt_t g xs bad xs.length w x hb hl (by omega))
  have hb2 : Bytes (rTxt xs bad xs.length).1 := by
    unfold rTxt
    split
    · exact bytes_take (bytes_drop hb 4) _
    · exact nil_bytes
  have hl2 := (rTxt_bytes xs bad xs.length hb).2.2
  have hgl := x.lt
  obtain ⟨⟨l, ys, b2⟩, hR⟩ : ∃ r, rTxt xs bad xs.length = r := ⟨_, rfl⟩
  simp only [hR] at TX hb2 hl2 ⊢
  have HB := Lib.hid hb2
  obtain ⟨fn, hfn⟩ : ∃ z, fN l = z := ⟨_, rfl⟩
  obtain ⟨fk, hfk⟩ : ∃ z, fOK l = z := ⟨_, rfl⟩
  rw [hfn, hfk]
  have FN := Lib.hid hfn; have FK := Lib.hid hfk
  clear x hb hR hb2 hfn hfk
  go_enter Tryd.func37, Tryd.ntmps37
  go_wp2_with fail
  refine LF.out.mono ?_
  rintro e w1 ⟨rfl, rfl⟩
  go_wp2_with fail
  refine TX.out.mono ?_
  rintro e w2 ⟨u, rfl, o2, x2, k2⟩
  obtain ⟨A, c, rfl, _⟩ := own_form o2
  have S2 := Lib.hid (Sr.of_own o2); have X2 := Lib.hid x2; have K2 := Lib.hid k2
  clear o2 x2 k2 TX LF
  by_cases h0 : l.length = 0
  · obtain rfl := List.eq_nil_of_length_eq_zero h0
    obtain rfl : 0 = fn := by rw [← FN.out]; unfold fN; rw [getOK_nil]; rfl
    obtain rfl : true = fk := FK.out
    clear FN FK
    go_wp2_with fail
    go_ret2
    exact ⟨⟨none, 0, rfl, Rw.nil, fun a ha => by cases ha⟩, X2.out, K2.out⟩
  · have e1 : ((l.length : Int) == 0) = false := by rw [beq_eq_false_iff_ne]; omega
    have hi : l.isEmpty = false := by rw [isEmpty_len]; exact decide_eq_false h0
    go_wp2_with fail
    refine (Get_t l A l.length c w2 rfl S2.out HB.out (by omega)).mono ?_
    rintro e w3 ⟨b3, hh⟩
    have X3 := Lib.hid (X2.out.below b3); have K3 := Lib.hid (K2.out.trans (Kept.of_below b3))
    have hs := K2.out.size
    clear b3 X2 K2 S2
    rcases hh with ⟨hbad, rfl⟩ | ⟨hgood, gl, c', rfl, hlo, hrow⟩
    · obtain rfl : 0 = fn := by rw [← FN.out]; unfold fN; rw [hbad]; rfl
      obtain rfl : false = fk := by rw [← FK.out]; unfold fOK; rw [hbad, hi]; rfl
      clear FN FK hbad
      go_wp2_with fail
      go_ret2
      exact ⟨⟨none, 0, rfl, Rw.nil, fun a ha => by cases ha⟩, X3.out, K3.out⟩
    · obtain rfl : cntN l = fn := by rw [← FN.out]; unfold fN; rw [hgood]; rfl
      obtain rfl : true = fk := by rw [← FK.out]; unfold fOK; rw [hgood, hi]; rfl
      have R3 := Lib.hid (rw_of_blk (rest := []) (gotN l) (by rw [List.append_nil]; exact hrow))
      clear FN FK hgood hrow
      go_wp2_with fail
      go_ret2
      exact ⟨⟨_, c', rfl, R3.out, fun a ha => by cases ha; exact Nat.le_trans hs hlo⟩, X3.out, K3.out⟩
theorem rv_one (x : Rv) : (rv x).toArray.all (·.oneCell') = true := by simp [rv, Value.oneCell']
theorem rv_nob (x : Rv) : ∀ v ∈ rv x, ∀ z, v ≠ .int .u8 z := by
  intro v hv z
  simp only [rv, List.mem_cons, List.not_mem_nil, or_false] at hv
  rcases hv with rfl | rfl | rfl | rfl | rfl | rfl <;> intro h <;> cases h
def zG : Nat → Fld := fun _ => zF
/-- The request that has nothing. -/
def zRv : Rv := ⟨⟨0, 0, 0, 0, 0, zG, 0, zG⟩, none, 0, none, 0⟩
theorem zRv_w (w : World) : RvW w zRv := ⟨Rw.nil, Rw.nil, by decide, by decide⟩
/-- The request with its numbers alone. -/
def nRv (a b c d : Int) : Rv := ⟨⟨a, b, c, d, 0, zG, 0, zG⟩, none, 0, none, 0⟩
theorem built_rv (a b c d : Int) : Tryd.prog.built 24 [(0, .int .i64 a), (1, .int .i64 b), (2, .int .i64 c), (5, .int .i64 d)] = some (rv (nRv a b c d)).toArray := by kernel_rfl
theorem built_rz : Tryd.prog.built 24 [] = some (rv zRv).toArray := by kernel_rfl
/-- The end of a function whose results are a whole block and a slot. -/
theorem ret_blkO {P : Program} {fn : Func} {R : Ending → World → Prop} {a : Act} {w : World} {p u : Tmp} {ty : TypeId} (hr : fn.results = #[.cell p ty, .tmp u]) (hd : a.defers = []) (g : Nat) (t : TypeId) (cs : List Value) (d : TypeDesc)
    (hp : a.tmps.getD p undef = .pointer (some ⟨g, 0, none⟩)) (hg : Blk w g t cs) (hu : P.underlying ty = some d)
    (hdd : (match d with | .struct _ | .array _ _ => true | _ => false) = true) (hi : (P.info? ty).map (·.size) = some cs.length) (v : Value) (hv : a.tmps.getD u undef = v)
    (hR : R (.returned (.tuple #[.agg cs.toArray, v])) w) : bodyPost P fn R .ret a w := by
  have hp' : a.tmps[p]?.getD undef = .pointer (some ⟨g, 0, none⟩) := by simpa using hp
  have hv' : a.tmps[u]?.getD undef = v := by simpa using hv
  refine bodyPost_ret (v := .tuple #[.agg cs.toArray, v]) ?_ hd hR
  simp [results, hr, hp', hv', asAddr, run_loadVar_row w g t ty cs.toArray (0, 0) d hg hu hdd (by simpa using hi)]
/-- Where Get stands. -/
structure GQ (w0 W : World) (g gr : Nat) (zs : List Nat) (bad : Bool) (x : Rv) : Prop where
  rd : Rd W g zs bad
  res : Blk W w0.heap.size 24 (rv zRv)
  box : Blk W gr 24 (rv x)
  p : Rw W x.p x.r.n x.r.G
  t : Rw W x.t x.r.m x.r.H
  fp : ∀ a : Addr, x.p = some a → gr < a.block
  ft : ∀ a : Addr, x.t = some a → gr < a.block
  ord : w0.heap.size < g ∧ g < gr
  bel : Below w0.heap.size w0 W
theorem GQ.read {w0 W W' : World} {g gr : Nat} {zs zs' : List Nat} {bad bad' : Bool} {x : Rv} (h : GQ w0 W g gr zs bad x) (hk : Kept (fun k => k = g) W W') (hr : Rd W' g zs' bad') : GQ w0 W' g gr zs' bad' x :=
  ⟨hr, h.res.kept hk (by have := h.ord; omega), h.box.kept hk (by have := h.ord; omega), h.p.kept hk (fun a ha e => by have := h.fp a ha; have := h.ord; omega), h.t.kept hk (fun a ha e => by have := h.ft a ha; have := h.ord; omega), h.fp, h.ft, h.ord,
    kept_below h.bel hk (by have := h.ord; omega)⟩
theorem GQ.below {w0 W W' : World} {g gr : Nat} {zs : List Nat} {bad : Bool} {x : Rv} (h : GQ w0 W g gr zs bad x) (hb : Below W.heap.size W W') : GQ w0 W' g gr zs bad x :=
  ⟨h.rd.below hb, h.res.below hb h.res.lt, h.box.below hb h.box.lt, h.p.below hb, h.t.below hb, h.fp, h.ft, h.ord, h.bel.trans (hb.mono h.bel.size)⟩
theorem GQ.setP {w0 W : World} {g gr : Nat} {zs : List Nat} {bad : Bool} {a b k d : Int} (h : GQ w0 W g gr zs bad (nRv a b k d)) {n c : Nat} {A : Option Addr} {G : Nat → Fld} (hr : Rw W A n G) (hf : ∀ a : Addr, A = some a → gr < a.block) :
    GQ w0 (W.setCell ⟨gr, 3, none⟩ (.slice A n c)) g gr zs bad ⟨⟨a, b, k, d, n, G, 0, zG⟩, A, c, none, 0⟩ := by
  have hk : Kept (fun k => k = gr) W (W.setCell ⟨gr, 3, none⟩ (.slice A n c)) := Kept.setCell (F := fun k => k = gr) (Kept.refl _ _) (p := ⟨gr, 3, none⟩) (.inl rfl) _
  have ho := h.ord
  exact ⟨h.rd.far h.box (rv_nob _) (by omega) hk, h.res.kept hk (by omega), h.box.store 3 _, hr.kept hk (fun a ha e => by have := hf a ha; omega), Rw.nil, hf, (fun a ha => by cases ha), h.ord, kept_below h.bel hk (by omega)⟩
theorem GQ.setT {w0 W : World} {g gr : Nat} {zs : List Nat} {bad : Bool} {a b k d : Int} {n c : Nat} {A : Option Addr} {G : Nat → Fld} (h : GQ w0 W g gr zs bad ⟨⟨a, b, k, d, n, G, 0, zG⟩, A, c, none, 0⟩) {m e : Nat} {B : Option Addr} {H : Nat → Fld} (hr : Rw W B m H) (hf : ∀ a : Addr, B = some a → gr < a.block) :
    GQ w0 (W.setCell ⟨gr, 4, none⟩ (.slice B m e)) g gr zs bad ⟨⟨a, b, k, d, n, G, m, H⟩, A, c, B, e⟩ := by
  have hk : Kept (fun k => k = gr) W (W.setCell ⟨gr, 4, none⟩ (.slice B m e)) := Kept.setCell (F := fun k => k = gr) (Kept.refl _ _) (p := ⟨gr, 4, none⟩) (.inl rfl) _
  have ho := h.ord
  exact ⟨h.rd.far h.box (rv_nob _) (by omega) hk, h.res.kept hk (by omega), h.box.store 4 _, h.p.kept hk (fun a ha e => by have := h.fp a ha; omega), hr.kept hk (fun a ha e => by have := hf a ha; omega), h.fp, hf, h.ord, kept_below h.bel hk (by omega)⟩
theorem fN_le (l : List Nat) (hb : Bytes l) : fN l ≤ 9223372036854775807 := by
  have h1 : cntN l < 256 ^ 1 := (rNum_bytes l false 1 hb).2.2
  unfold fN
  split
  · omega
  · omega
end Go.Proofs.YtigbnjgmdgkgjaaDoor
