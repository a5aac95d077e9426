/-
  THE REFERENCE: New, without.
-/
import Derived.Test.YtojianpbjckipaaDoorSrD
import Derived.Test.YtojianpbjckipaaDoorSpG
namespace Go.Proofs.YtojianpbjckipaaDoor
open Go Go.RowKit Sh

set_option maxRecDepth 100000 in
set_option maxHeartbeats 1000000 in
theorem refNew_t (rd wx : Int) (w : World) : Calls Tryd.prog 7 #[.int .i64 rd, .int .i64 wx] w fun e w' => e = .returned (.agg (sv (nsp rd wx 0 1 2 3)).toArray) ∧ Below w.heap.size w w' := by
  have Y0 := Lib.hid (Blk.new2 w (.cells #[.int .i64 0, .slice none 0 0, .slice none 0 0, .int .i64 0, .int .i64 0, .int .i64 0, .int .i64 0, .int .i64 0, .slice none 0 0, .bool false, .int .i64 0, .int .i64 0, .int .i64 0, .slice none 0 0, .bool false, .int .i64 0, .int .i64 0, .int .i64 0, .slice none 0 0, .bool false, .int .i64 0, .int .i64 0, .int .i64 0, .slice none 0 0, .bool false] 31) 31 [.int .i64 0, .slice none 0 0, .slice none 0 0, .int .i64 0, .int .i64 0, .int .i64 0, .int .i64 0, .int .i64 0, .slice none 0 0, .bool false, .int .i64 0, .int .i64 0, .int .i64 0, .slice none 0 0, .bool false, .int .i64 0, .int .i64 0, .int .i64 0, .slice none 0 0, .bool false, .int .i64 0, .int .i64 0, .int .i64 0, .slice none 0 0, .bool false])
  have S0 := Lib.hid (show NW w (((w.alloc (.cells #[.int .i64 0, .slice none 0 0, .slice none 0 0, .int .i64 0, .int .i64 0, .int .i64 0, .int .i64 0, .int .i64 0, .slice none 0 0, .bool false, .int .i64 0, .int .i64 0, .int .i64 0, .slice none 0 0, .bool false, .int .i64 0, .int .i64 0, .int .i64 0, .slice none 0 0, .bool false, .int .i64 0, .int .i64 0, .int .i64 0, .slice none 0 0, .bool false] 31)).alloc (.cells #[.int .i64 0, .slice none 0 0, .slice none 0 0, .int .i64 0, .int .i64 0, .int .i64 0, .int .i64 0, .int .i64 0, .slice none 0 0, .bool false, .int .i64 0, .int .i64 0, .int .i64 0, .slice none 0 0, .bool false, .int .i64 0, .int .i64 0, .int .i64 0, .slice none 0 0, .bool false, .int .i64 0, .int .i64 0, .int .i64 0, .slice none 0 0, .bool false] 31)).setRow (w.heap.size + 1) (sv (nK rd wx 0)).toArray) rd wx 0 from by
    have b1 := (Below.refl w.heap.size w).alloc (Nat.le_refl _) (.cells #[.int .i64 0, .slice none 0 0, .slice none 0 0, .int .i64 0, .int .i64 0, .int .i64 0, .int .i64 0, .int .i64 0, .slice none 0 0, .bool false, .int .i64 0, .int .i64 0, .int .i64 0, .slice none 0 0, .bool false, .int .i64 0, .int .i64 0, .int .i64 0, .slice none 0 0, .bool false, .int .i64 0, .int .i64 0, .int .i64 0, .slice none 0 0, .bool false] 31)
    exact ⟨(Blk.new2 w _ _ _).setRow _, ((Blk.new w 31 [.int .i64 0, .slice none 0 0, .slice none 0 0, .int .i64 0, .int .i64 0, .int .i64 0, .int .i64 0, .int .i64 0, .slice none 0 0, .bool false, .int .i64 0, .int .i64 0, .int .i64 0, .slice none 0 0, .bool false, .int .i64 0, .int .i64 0, .int .i64 0, .slice none 0 0, .bool false, .int .i64 0, .int .i64 0, .int .i64 0, .slice none 0 0, .bool false]).alloc _).setRow_far (by omega) _, below_setRow (b1.alloc (by simp) _) (Nat.le_succ _) _⟩)
  have F0 := Lib.hid (sv_size (nK rd wx 0) rfl); have F10 := Lib.hid (sv_one (nK rd wx 0))
  have hl : sv (nK rd wx 0) = [.int .i64 0, .slice none 0 0, .slice none 0 0, .int .i64 (bits .and .i64 rd 15), .int .i64 (bits .and .i64 wx 15), .int .i64 0, .int .i64 0, .int .i64 0, .slice none 0 0, .bool false, .int .i64 0, .int .i64 0, .int .i64 0, .slice none 0 0, .bool false, .int .i64 0, .int .i64 0, .int .i64 0, .slice none 0 0, .bool false, .int .i64 0, .int .i64 0, .int .i64 0, .slice none 0 0, .bool false] := rfl
  rw [hl] at S0 F0 F10
  clear hl
  go_enter Tryd.func7, Tryd.ntmps7
  go_upto_region 3 with (((with_reducible refine store_blk 31 (.tmp 5) (.tmp 11) (w.heap.size + 1) 31 [.int .i64 0, .slice none 0 0, .slice none 0 0, .int .i64 0, .int .i64 0, .int .i64 0, .int .i64 0, .int .i64 0, .slice none 0 0, .bool false, .int .i64 0, .int .i64 0, .int .i64 0, .slice none 0 0, .bool false, .int .i64 0, .int .i64 0, .int .i64 0, .slice none 0 0, .bool false, .int .i64 0, .int .i64 0, .int .i64 0, .slice none 0 0, .bool false] [.int .i64 0, .slice none 0 0, .slice none 0 0, .int .i64 (bits .and .i64 rd 15), .int .i64 (bits .and .i64 wx 15), .int .i64 0, .int .i64 0, .int .i64 0, .slice none 0 0, .bool false, .int .i64 0, .int .i64 0, .int .i64 0, .slice none 0 0, .bool false, .int .i64 0, .int .i64 0, .int .i64 0, .slice none 0 0, .bool false, .int .i64 0, .int .i64 0, .int .i64 0, .slice none 0 0, .bool false] rfl rfl ?_ ?_ ?_ ?_ ?_ ?_ ?_); exact Y0.out; exact rfl; exact F0.out; exact F10.out; exact rfl; exact rfl))
  clear Y0 F0 F10
  go_loopw [6] (fun x wr => ∃ j : Nat, j ≤ 4 ∧ x = .int .i64 (j : Int) ∧ NW w wr rd wx j) (fun x _ => 4 - (intOf x).toNat)
  case atStart => exact ⟨0, by omega, rfl, S0.out⟩
  case round =>
    obtain ⟨j, hj, rfl, hS⟩ := hrel
    have S1 := Lib.hid hS
    clear hS S0
    by_cases hlt : j < 4
    · have j1 : (j : Int) < 4 := by omega
      have ct : ∃ v, wr.cell? ⟨w.heap.size + 1, 5 + j * 5, none⟩ = some v := by
        rw [S1.out.a.cell]
        exact ⟨_, List.getElem?_eq_getElem (by rw [sv_len _ rfl]; omega)⟩
      obtain ⟨v, ct⟩ := ct
      have fz := S1.out.a.frozen (5 + j * 5)
      have S2 := Lib.hid (show NW w (wr.setCell ⟨w.heap.size + 1, 5 + j * 5, none⟩ (.int .i64 (j : Int))) rd wx (j + 1) from by
        refine ⟨?_, S1.out.z.far (p := ⟨w.heap.size + 1, 5 + j * 5, none⟩) (by show w.heap.size ≠ w.heap.size + 1; omega) _, S1.out.bel.setCell (p := ⟨w.heap.size + 1, 5 + j * 5, none⟩) (Nat.le_succ _) _⟩
        rw [← nK_set rd wx j hlt]
        exact S1.out.a.store _ _)
      go_wp2_with fail
      go_roundw
      case rel => exact ⟨j + 1, hlt, by go_num, S2.out⟩
      case measure => simp [intOf]; omega
    · obtain rfl : j = 4 := by omega
      clear hlt
      have FS := Lib.hid (sv_size (nK rd wx 4) rfl); have F1 := Lib.hid (sv_one (nK rd wx 4))
      have A1 := Lib.hid S1.out.a; have Z1 := Lib.hid S1.out.z
      have Z2 := Lib.hid (S1.out.z.setRow (sv (nK rd wx 4)))
      have B2 := Lib.hid (below_setRow S1.out.bel (Nat.le_refl _) (sv (nK rd wx 4)).toArray)
      go_wp2_with (first
        | ((with_reducible refine load_blk 31 (.tmp 5) (w.heap.size + 1) 31 (sv (nK rd wx 4)) _ rfl rfl ?_ Tryd.underlying31 ?_ ?_ ?_ ?_); exact A1.out; exact rfl; exact FS.out; exact rfl)
        | ((with_reducible refine store_blk 31 (.tmp 4) (.tmp 21) w.heap.size 31 [.int .i64 0, .slice none 0 0, .slice none 0 0, .int .i64 0, .int .i64 0, .int .i64 0, .int .i64 0, .int .i64 0, .slice none 0 0, .bool false, .int .i64 0, .int .i64 0, .int .i64 0, .slice none 0 0, .bool false, .int .i64 0, .int .i64 0, .int .i64 0, .slice none 0 0, .bool false, .int .i64 0, .int .i64 0, .int .i64 0, .slice none 0 0, .bool false] (sv (nK rd wx 4)) rfl rfl ?_ ?_ ?_ ?_ ?_ ?_ ?_); exact Z1.out; exact rfl; exact FS.out; exact F1.out; exact rfl; exact rfl))
      exact ret_blk (p := 4) (ty := 31) rfl rfl w.heap.size 31 _ _ rfl Z2.out Tryd.underlying31 rfl FS.out ⟨rfl, B2.out⟩
theorem rowl_take {α : Type} {w : World} {p : Option Addr} {sz : Nat} {f : α → List Value} {l : List α} (h : RowL w p sz f l) (k : Nat) : RowL w p sz f (l.take k) := fun j x hx => h j x (by
  rw [List.getElem?_take] at hx
  split at hx
  · exact hx
  · cases hx)
theorem rowl_drop {α : Type} {w : World} {p p2 : Option Addr} {sz n k : Nat} {f : α → List Value} {l : List α} (h : RowL w p sz f l) (hl : l.length = n) (hp : k < n → ∀ g off, p = some ⟨g, off, none⟩ → p2 = some ⟨g, off + k * sz, none⟩) : RowL w p2 sz f (l.drop k) := fun j x hx => by
  rw [List.getElem?_drop] at hx
  obtain ⟨b, o, e, hb, r⟩ := h (k + j) x hx
  have hlt := (List.getElem?_eq_some_iff.1 hx).1
  refine ⟨b, o + k * sz, hp (by omega) b o e, hb, ?_⟩
  rw [show o + k * sz + j * sz = o + (k + j) * sz by rw [Nat.add_mul, Nat.add_assoc]]
  exact r
theorem sizeI3 : (Tryd.prog.info? 65).map (·.size) = some 3 := by kernel_rfl
set_option maxRecDepth 100000 in
set_option maxHeartbeats 1000000 in
theorem refwithout_t (l : List Itv) (p : Option Addr) (n c k : Nat) (w : World) (hl : l.length = n) (hnc : n ≤ c) (hn : n ≤ 1000) (hk : k < n) (hp : RowL w p 3 iv l) :
    Calls Tryd.prog 77 #[.slice p n c, .int .i64 (k : Int)] w fun e w' => ∃ q d, e = .returned (.slice q (n - 1) d) ∧ n - 1 ≤ d ∧ w'.ownsRow w.heap.size 65 3 (.slice q (n - 1) d) (n - 1) ((l.eraseIdx k).flatMap iv) ∧ Below w.heap.size w w' := by
  have hs1 := slice_highS (P := Tryd.prog) (t := 24) (e := 65) Tryd.underlying24 sizeI3 p n c .i64 k (by omega)
  obtain ⟨p2, hp2, hs2⟩ := slice_lowS (P := Tryd.prog) (t := 24) (e := 65) Tryd.underlying24 sizeI3 p n c .i64 (k + 1) (by omega) hnc
  rw [show ((k + 1 : Nat) : Int) = IntKind.i64.wrap ((k : Int) + 1) by rw [IntWalk.i64_in _ (by omega)]; omega] at hs2
  have kB : (k : Int) ≤ 1000 := by omega
  obtain ⟨m, hm⟩ : ∃ m, n - (k + 1) = m := ⟨_, rfl⟩
  obtain ⟨c2, hc2⟩ : ∃ m, c - (k + 1) = m := ⟨_, rfl⟩
  rw [hm, hc2] at hs2
  have R1 := Lib.hid (rowl_take hp k); have R2 := Lib.hid (rowl_drop (p2 := p2) hp hl hp2)
  have L1 := Lib.hid (show (l.take k).length = k by rw [List.length_take, hl]; omega)
  have L2 := Lib.hid (show (l.drop (k + 1)).length = m by rw [List.length_drop, hl]; exact hm)
  have HE := Lib.hid (show (l.take k).flatMap iv ++ (l.drop (k + 1)).flatMap iv = (l.eraseIdx k).flatMap iv by rw [List.eraseIdx_eq_take_drop_succ, List.flatMap_append])
  have HM := Lib.hid (show k + m = n - 1 by omega)
  have HN := Lib.hid hn
  clear hp hl hp2 hm hc2 hnc hk hn
  go_enter Tryd.func77, Tryd.ntmps77
  go_upto_region 1 with (fail)
  obtain ⟨U, hU⟩ : ∃ U, w.drew = U := ⟨_, rfl⟩
  have BU := Lib.hid (show Below w.heap.size w U from by rw [← hU]; exact (Below.refl _ _).drew)
  refine wp_region_E (fun _ => True) (fun _ => false) (by kernel_rfl) ?_
  change wpAnyE _ _ _ _ _ _ _ _ _ w.drew
  rw [hU]
  clear hU
  have tt := True.intro
  refine wpAnyE_take (i := 1) (v := ?_) rfl (by kernel_rfl) (by kernel_rfl) (by kernel_rfl) (by kernel_rfl) (fun _ _ _ h => h) (Or.inl ⟨by kernel_rfl, ?_⟩) tt ?_
  rotate_left 1
  · (intro w hS; clear hS; go_simp; try (with_reducible rfl))
  refine wpAnyE_take (i := 2) (v := ?_) rfl (by kernel_rfl) (by kernel_rfl) (by kernel_rfl) (by kernel_rfl) (fun _ _ _ h => h) (Or.inl ⟨by kernel_rfl, ?_⟩) tt ?_
  rotate_left 1
  · (intro w hS; clear hS; go_simp; try (with_reducible rfl))
  refine wpAnyE_take (i := 3) (v := ?_) rfl (by kernel_rfl) (by kernel_rfl) (by kernel_rfl) (by kernel_rfl) (fun _ _ _ h => h) (Or.inl ⟨by kernel_rfl, ?_⟩) tt ?_
  rotate_left 1
  · (intro w hS; clear hS; go_simp; try (with_reducible rfl))
  refine wpAnyE_take (i := 5) (v := ?_) rfl (by kernel_rfl) (by kernel_rfl) (by kernel_rfl) (by kernel_rfl) (fun _ _ _ h => h) (Or.inl ⟨by kernel_rfl, ?_⟩) tt ?_
  rotate_left 1
  · (intro w hS; clear hS; go_simp; try (with_reducible rfl))
  refine wpAnyE_take (i := 6) (v := ?_) rfl (by kernel_rfl) (by kernel_rfl) (by kernel_rfl) (by kernel_rfl) (fun _ _ _ h => h) (Or.inl ⟨by kernel_rfl, ?_⟩) tt ?_
  rotate_left 1
  · (intro w hS; clear hS; go_simp; try (with_reducible rfl))
  refine wpAnyE_take (i := 7) (v := ?_) rfl (by kernel_rfl) (by kernel_rfl) (by kernel_rfl) (by kernel_rfl) (fun _ _ _ h => h) (Or.inl ⟨by kernel_rfl, ?_⟩) tt ?_
  rotate_left 1
  · (intro w hS; clear hS; go_simp; try (with_reducible rfl))
  refine wpAnyE_take (i := 8) (v := ?_) rfl (by kernel_rfl) (by kernel_rfl) (by kernel_rfl) (by kernel_rfl) (fun _ _ _ h => h) (Or.inl ⟨by kernel_rfl, ?_⟩) tt ?_
  rotate_left 1
  · (intro w hS; clear hS; go_simp; try (with_reducible rfl))
  refine wpAnyE_one (i := 0) (by kernel_rfl) rfl (by kernel_rfl) (fun K hK => ?_)
  go_simp
  have BA := Lib.hid ((Below.refl U.heap.size U).alloc (Nat.le_refl _) (.cells #[] 65))
  have EM := Lib.hid (own_empty0 U 65 3 U.heap.size (Nat.le_refl _))
  refine hK.out _ _ (.inr trivial) ?_
  clear hK K
  have R1a := Lib.hid ((R1.out.below BU.out).below BA.out); have R2a := Lib.hid ((R2.out.below BU.out).below BA.out)
  have HB := Lib.hid BA.out.size
  refine wpAnyE_one (i := 4) (by kernel_rfl) rfl (by kernel_rfl) (fun K hK => ?_)
  refine wp_append_rows (.tmp 5) (.tmp 8) 24 ?_ 65 Tryd.underlying24 infoI rfl (by decide) (by decide) iv_len iv_one U.heap.size (.slice (some ⟨U.heap.size, 0, none⟩) 0 0) 0 [] ?_ EM.out p k c ?_ (l.take k) L1.out R1a.out (by have := HM.out; have := HN.out; omega) HB.out ?_
  · rfl
  · go_simp
  · go_simp
  intro v1 w5 h2 h3 h5 h6
  have O1 := Lib.hid (show w5.ownsRow U.heap.size 65 3 v1 k ((l.take k).flatMap iv) from by have := h2.out; rwa [Nat.zero_add, List.nil_append] at this)
  have B5 := Lib.hid (BA.out.grown h3.out BA.out.size (fun k e => (EM.out.lt k e).1))
  have R2b := Lib.hid ((R2.out.below BU.out).below B5.out)
  have HB5 := Lib.hid B5.out.size
  refine hK.out _ _ (.inr trivial) ?_
  clear hK K h2 h3 h5 h6 R1a R2a HB EM BA R1 R2
  refine wpAnyE_one (i := 9) (by kernel_rfl) rfl (by kernel_rfl) (fun K hK => ?_)
  refine wp_append_rows (.tmp 9) (.tmp 13) 24 ?_ 65 Tryd.underlying24 infoI rfl (by decide) (by decide) iv_len iv_one U.heap.size v1 k ((l.take k).flatMap iv) ?_ O1.out p2 m c2 ?_ (l.drop (k + 1)) L2.out R2b.out (by have := HM.out; have := HN.out; omega) HB5.out ?_
  · rfl
  · go_simp
  · go_simp
  intro v2 w6 h2 h3 h5 h6
  have O2 := Lib.hid (show w6.ownsRow U.heap.size 65 3 v2 (n - 1) ((l.eraseIdx k).flatMap iv) from by have := h2.out; rwa [HE.out, HM.out] at this)
  have B6 := Lib.hid (B5.out.grown h3.out B5.out.size (fun k e => (O1.out.lt k e).1))
  obtain ⟨q9, c9, hv, hc9⟩ := own_form O2.out
  subst hv
  have HC9 := Lib.hid hc9
  refine hK.out _ _ (.inr trivial) ?_
  clear hK K h2 h3 h5 h6 O1 B5 R2b HB5 hc9
  refine wpAnyE_one (i := 10) (by kernel_rfl) rfl (by kernel_rfl) (fun K hK => ?_)
  go_simp
  refine hK.out _ _ (.inr trivial) ?_
  clear hK K
  refine wpAnyE_done (by kernel_rfl) ?_ _
  go_simp
  go_wp2_with fail
  go_ret
  exact ⟨q9, c9, rfl, HC9.out, own_base O2.out (fun b hb => Nat.le_trans BU.out.size (O2.out.lt b hb).1), BU.out.trans (B6.out.mono BU.out.size)⟩
end Go.Proofs.YtojianpbjckipaaDoor
