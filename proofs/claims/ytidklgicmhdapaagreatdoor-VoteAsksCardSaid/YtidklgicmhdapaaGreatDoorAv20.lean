/-
  PACKAGE state
-/
import Derived.Test.YtidklgicmhdapaaGreatDoorAv19
namespace Go.Proofs.YtidklgicmhdapaaGreatDoor
open Go Go.RowKit Sh

theorem rTxt_textS (xs : List Nat) (bad : Bool) (n : Nat) (h : Bytes xs) : Bytes (rTxt xs bad n).1 := by
  unfold rTxt
  split
  · exact bytes_take (bytes_drop h 4) _
  · exact nil_bytes
theorem fNr_le (l : List Nat) (hb : Bytes l) : fNr l ≤ 9223372036854775807 := by
  have h1 : cntN l < 256 ^ 1 := (rNum_bytes l false 1 hb).2.2
  unfold fNr
  split
  · omega
  · omega
theorem tr_flS {w : World} {p : Option Addr} {n : Nat} {G : Nat → Fld} (h : Rw w p n G) (hn : n ≤ 9223372036854775807) : TR w p (fl n G) := by
  refine ⟨?_, by rw [fl_length]; exact hn⟩
  rw [fl_length]
  exact h.congr fun j hj => (gl_fl hj).symm
theorem Rw.keptS {F : Nat → Prop} {w w' : World} {p : Option Addr} {n : Nat} {G : Nat → Fld} (h : Rw w p n G) (hk : Kept F w w') (hf : ∀ a : Addr, p = some a → ¬ F a.block) : Rw w' p n G := fun j hj => by
  obtain ⟨b, o, rfl, hl, r⟩ := h j hj
  exact ⟨b, o, rfl, Nat.lt_of_lt_of_le hl hk.size, fun i v hv => (hk.cell (p := ⟨b, o + j * 3 + i, none⟩) hl (fun e => hf ⟨b, o, none⟩ rfl e)).trans (r i v hv)⟩
theorem Rw.nilS {w : World} {p : Option Addr} {G : Nat → Fld} : Rw w p 0 G := fun j hj => absurd hj (by omega)
theorem isEmpty_lenS (l : List Nat) : l.isEmpty = decide (l.length = 0) := by cases l <;> rfl
theorem TR.keptS {F : Nat → Prop} {w w' : World} {p : Option Addr} {t : List Fld} (h : TR w p t) (hk : Kept F w w') (hf : ∀ a : Addr, p = some a → ¬ F a.block) : TR w' p t := ⟨h.t.keptS hk hf, h.n⟩
structure NF (W : World) (b : Nat) (p : Option Addr) : Prop where
  ge : ∀ a : Addr, p = some a → b ≤ a.block
  ty : ∀ a : Addr, p = some a → ∃ cs, Blk W a.block 158 cs
theorem NF.no (W : World) (b : Nat) : NF W b none := ⟨(fun a ha => by cases ha), (fun a ha => by cases ha)⟩
theorem NF.kept {F : Nat → Prop} {W W' : World} {b : Nat} {p : Option Addr} (h : NF W b p) (hk : Kept F W W') (hf : ∀ a : Addr, p = some a → ¬ F a.block) : NF W' b p :=
  ⟨h.ge, fun a ha => by obtain ⟨cs, hcs⟩ := h.ty a ha; exact ⟨cs, hcs.kept hk (hf a ha)⟩⟩
theorem NF.below {W W' : World} {b : Nat} {p : Option Addr} (h : NF W b p) (hb : Below W.heap.size W W') : NF W' b p := h.kept (F := fun _ => False) (Kept.of_below hb) (fun _ _ => id)
theorem NF.low {W : World} {b b' : Nat} {p : Option Addr} (h : NF W b p) (hb : b' ≤ b) : NF W b' p := ⟨fun a ha => Nat.le_trans hb (h.ge a ha), h.ty⟩
set_option maxRecDepth 100000 in
set_option maxHeartbeats 1000000 in
theorem sflds_t (B gs g : Nat) (s : Src) (W : World) (x : SR B W gs g s) (hl : s.xs.length ≤ 1000000) :
    Calls Tryz.prog 68 #[.pointer (some ⟨gs, 0, none⟩)] W fun e W' => (∃ A c, e = .returned (.slice A (gFl s).1.length c) ∧ TR W' A (gFl s).1 ∧ NF W' W.heap.size A) ∧ SR B W' gs g (gFl s).2 ∧ Kept (fun k => k = g ∨ k = gs) W W' := by
  obtain ⟨U, hU⟩ : ∃ U, W.drew = U := ⟨_, rfl⟩
  have BU := Lib.hid (show Below W.heap.size W U from by rw [← hU]; exact (Below.refl _ _).drew)
  have XU := Lib.hid (x.below BU.out)
  have LF := Lib.hid (left_t g s.xs s.bad U XU.out.rd.rd)
  have TX := Lib.hid (rtxt_F _ g s.xs s.bad s.xs.length U XU.out.rd x.by_ hl (by omega))
  have HB := Lib.hid (rTxt_textS s.xs s.bad s.xs.length x.by_)
  have HB2 := Lib.hid (rTxt_bytes s.xs s.bad s.xs.length x.by_)
  obtain ⟨⟨l, ys, b2⟩, hR⟩ : ∃ r, rTxt s.xs s.bad s.xs.length = r := ⟨_, rfl⟩
  have E1 := Lib.hid (show (gFl s).1 = fl (fNr l) (gotN l) from by unfold gFl sTxt; rw [hR])
  have E2 := Lib.hid (show (gFl s).2 = ⟨ys, b2, s.wr || !fOK l⟩ from by unfold gFl sTxt; rw [hR])
  simp only [hR] at TX HB HB2
  have FL := Lib.hid (fNr_le l HB.out)
  obtain ⟨fn, hfn⟩ : ∃ z, fNr l = z := ⟨_, rfl⟩
  obtain ⟨fk, hfk⟩ : ∃ z, fOK l = z := ⟨_, rfl⟩
  obtain ⟨sw, hsw⟩ : ∃ z, s.wr = z := ⟨_, rfl⟩
  rw [E1.out, E2.out, hfn, hfk, hsw, fl_length]
  rw [hfn] at FL
  have FN := Lib.hid hfn; have FK := Lib.hid hfk; have HSW := Lib.hid hsw
  have XL := Lib.hid (show l.length ≤ 1000000 from by have := HB2.out.2.2; omega)
  clear x hR E1 E2 hfn hfk hsw
  go_enter Tryz.func68, Tryz.ntmps68
  go_upto_region 1 with (fail)
  have s0 : U.cell? ⟨gs, 0, none⟩ = some (.pointer (some ⟨g, 0, none⟩)) := XU.out.bx.cell 0
  refine wp_region_held (S := fun Y => Y.cell? ⟨gs, 0, none⟩ = some (.pointer (some ⟨g, 0, none⟩))) (by kernel_rfl) ?_
  change wpAnyH _ _ _ _ _ _ _ _ W.drew
  rw [hU]
  clear hU
  refine wpAnyH_take (i := 0) (v := ?_) rfl (by kernel_rfl) (by kernel_rfl) (by kernel_rfl) (fun _ _ _ h => h) (Or.inl ⟨by kernel_rfl, ?_⟩) s0 ?_
  rotate_left 1
  · (intro w hS; clear hS; go_simp; try (with_reducible rfl))
  refine wpAnyH_take (i := 1) (v := ?_) rfl (by kernel_rfl) (by kernel_rfl) (by kernel_rfl) (fun _ _ _ h => h) (Or.inl ⟨by kernel_rfl, ?_⟩) s0 ?_
  rotate_left 1
  · (intro w hS; clear hS; go_simp; try (with_reducible rfl))
  refine wpAnyH_take (i := 2) (v := ?_) rfl (by kernel_rfl) (by kernel_rfl) (by kernel_rfl) (fun _ _ _ h => h) (Or.inl ⟨by kernel_rfl, ?_⟩) s0 ?_
  rotate_left 1
  · (intro w hS; clear hS; go_simp; try (with_reducible rfl))
  refine wpAnyH_take (i := 3) (v := ?_) rfl (by kernel_rfl) (by kernel_rfl) (by kernel_rfl) (fun _ _ _ h => h) (Or.inl ⟨by kernel_rfl, ?_⟩) s0 ?_
  rotate_left 1
  · (intro w hS; have hs := hS; clear hS; go_simp; try (with_reducible rfl))
  refine wpAnyH_take (i := 4) (v := ?_) rfl (by kernel_rfl) (by kernel_rfl) (by kernel_rfl) (fun _ _ _ h => h) (Or.inl ⟨by kernel_rfl, ?_⟩) s0 ?_
  rotate_left 1
  · (intro w hS; clear hS; go_simp; try (with_reducible rfl))
  refine wpAnyH_take (i := 5) (v := ?_) rfl (by kernel_rfl) (by kernel_rfl) (by kernel_rfl) (fun _ _ _ h => h) (Or.inl ⟨by kernel_rfl, ?_⟩) s0 ?_
  rotate_left 1
  · (intro w hS; clear hS; go_simp; try (with_reducible rfl))
  refine wpAnyH_take (i := 6) (v := ?_) rfl (by kernel_rfl) (by kernel_rfl) (by kernel_rfl) (fun _ _ _ h => h) (Or.inl ⟨by kernel_rfl, ?_⟩) s0 ?_
  rotate_left 1
  · (intro w hS; clear hS; go_simp; try (with_reducible rfl))
  refine wpAnyH_take (i := 7) (v := ?_) rfl (by kernel_rfl) (by kernel_rfl) (by kernel_rfl) (fun _ _ _ h => h) (Or.inl ⟨by kernel_rfl, ?_⟩) s0 ?_
  rotate_left 1
  · (intro w hS; have hs := hS; clear hS; go_simp; try (with_reducible rfl))
  refine wpAnyH_ready (rs := [8]) (by kernel_rfl) (by simp) ?_
  refine AllReadyH.cons rfl (fun K hK => ?_) AllReadyH.nil
  rw [if_pos (by kernel_rfl)]
  go_simp
  refine LF.out.mono ?_
  rintro e w1 ⟨rfl, rfl⟩
  refine hK.out _ _ s0 (fun _ => ?_)
  clear hK K LF
  refine wpAnyH_ready (rs := [9]) (by kernel_rfl) (by simp) ?_
  refine AllReadyH.cons rfl (fun K hK => ?_) AllReadyH.nil
  rw [if_pos (by kernel_rfl)]
  go_simp
  refine TX.out.mono ?_
  rintro e w2 ⟨u, rfl, o2, x2, k2⟩
  obtain ⟨A, c, rfl, _⟩ := own_form o2
  have S2 := Lib.hid (Sr.of_own o2); have K2 := Lib.hid ((Kept.of_below (F := fun k => k = g) BU.out).trans k2)
  have X2 := Lib.hid (show SR B w2 gs g ⟨ys, b2, sw⟩ from ⟨by have h := XU.out.bx.kept k2 XU.out.ne; rw [HSW.out] at h; exact h, x2, XU.out.ne, HB2.out.1, XU.out.lb⟩)
  have HU := Lib.hid BU.out.size
  have s2 : w2.cell? ⟨gs, 0, none⟩ = some (.pointer (some ⟨g, 0, none⟩)) := X2.out.bx.cell 0
  refine hK.out _ _ s2 (fun _ => ?_)
  clear hK K o2 x2 k2 TX s0
  refine wpAnyH_take (i := 10) (v := ?_) rfl (by kernel_rfl) (by kernel_rfl) (by kernel_rfl) (fun _ _ _ h => h) (Or.inl ⟨by kernel_rfl, ?_⟩) s2 ?_
  rotate_left 1
  · (intro w hS; clear hS; go_simp; try (with_reducible rfl))
  refine wpAnyH_done (by kernel_rfl) ?_ _
  go_simp
  clear s2
  by_cases h0 : l.length = 0
  · obtain rfl := List.eq_nil_of_length_eq_zero h0
    obtain rfl : 0 = fn := by rw [← FN.out]; unfold fNr; rw [getOK_nil]; rfl
    obtain rfl : true = fk := FK.out
    clear FN FK
    go_wp2_with fail
    go_ret
    exact ⟨⟨none, 0, rfl, tr_flS Rw.nilS (by decide), NF.no _ _⟩, by rw [show (sw || !true) = sw from by cases sw <;> rfl]; exact X2.out, K2.out.mono fun k e => .inl e⟩
  · have e1 : ((l.length : Int) == 0) = false := by rw [beq_eq_false_iff_ne]; omega
    have hi : l.isEmpty = false := by rw [isEmpty_lenS]; exact decide_eq_false h0
    go_wp2_with fail
    refine (Get_t l A l.length c w2 rfl S2.out HB.out (by have := XL.out; omega)).mono ?_
    rintro e w3 ⟨b3, hh⟩
    have X3 := Lib.hid (X2.out.below b3); have K3 := Lib.hid (K2.out.trans (Kept.of_below b3))
    have hs := K2.out.size
    clear b3 X2 K2 S2
    have c1 : w3.cell? ⟨gs, 1, none⟩ = some (.bool sw) := X3.out.bx.cell 1
    have fz := X3.out.bx.frozen 1
    rcases hh with ⟨hbad, rfl⟩ | ⟨hgood, gl, c', rfl, hlo, hrow⟩
    · obtain rfl : 0 = fn := by rw [← FN.out]; unfold fNr; rw [hbad]; rfl
      obtain rfl : false = fk := by rw [← FK.out]; unfold fOK; rw [hbad, hi]; rfl
      have Y3 := Lib.hid (X3.out.set true)
      clear FN FK hbad
      cases sw with
      | true =>
        go_wp2_with fail
        go_ret
        exact ⟨⟨none, 0, rfl, tr_flS Rw.nilS (by decide), NF.no _ _⟩, Y3.out.1, (K3.out.mono fun k e => .inl e).trans (Y3.out.2.mono fun k e => .inr e)⟩
      | false =>
        go_wp2_with fail
        go_ret
        exact ⟨⟨none, 0, rfl, tr_flS Rw.nilS (by decide), NF.no _ _⟩, Y3.out.1, (K3.out.mono fun k e => .inl e).trans (Y3.out.2.mono fun k e => .inr e)⟩
    · obtain rfl : cntN l = fn := by rw [← FN.out]; unfold fNr; rw [hgood]; rfl
      obtain rfl : true = fk := by rw [← FK.out]; unfold fOK; rw [hgood, hi]; rfl
      have R3 := Lib.hid (rw_of_blk (rest := []) (gotN l) (by rw [List.append_nil]; exact hrow))
      have HGL := Lib.hid (show gl ≠ gs from fun e => by have h1 := X3.out.bx; have h2 := hrow; rw [e] at h2; have h3 := h1.symm.trans h2; simp at h3)
      have Y3 := Lib.hid (X3.out.set sw)
      have R4 := Lib.hid (tr_flS (R3.out.keptS Y3.out.2 (fun a ha e => by cases ha; exact HGL.out e)) FL.out)
      have NF4 := Lib.hid (show NF (w3.setCell ⟨gs, 1, none⟩ (.bool sw)) W.heap.size (some ⟨gl, 0, none⟩) from
        ⟨fun a ha => by cases ha; exact Nat.le_trans hs hlo, fun a ha => by cases ha; exact ⟨_, hrow.kept Y3.out.2 HGL.out⟩⟩)
      clear FN FK hgood hrow
      cases sw with
      | true =>
        go_wp2_with fail
        go_ret
        exact ⟨⟨_, c', rfl, R4.out, NF4.out⟩, Y3.out.1, (K3.out.mono fun k e => .inl e).trans (Y3.out.2.mono fun k e => .inr e)⟩
      | false =>
        go_wp2_with fail
        go_ret
        exact ⟨⟨_, c', rfl, R4.out, NF4.out⟩, Y3.out.1, (K3.out.mono fun k e => .inl e).trans (Y3.out.2.mono fun k e => .inr e)⟩
end Go.Proofs.YtidklgicmhdapaaGreatDoor
