/-
  PACKAGE ots: the closure of Candidate.
-/
import Derived.Test.YtigbnjgmdgkgjaaGreatDoorOtY
namespace Go.Proofs.YtigbnjgmdgkgjaaGreatDoor
open Go Go.RowKit Sh

/-- The end of chain j that a signature leads to. -/
def candE (I : List Nat) (q i : Nat) (D xs : List Nat) (j : Nat) : List Nat := walkN I q j (gt D j) (2 ^ (kd i).w - 1 - gt D j) (piece xs (1 + j))
theorem candE_ok (I : List Nat) (q i : Nat) (D xs : List Nat) (j : Nat) (hi : i < 4) (hI : Bytes I) (hx : Bytes xs) (hl : 36 + 32 * (1 + j) ≤ xs.length) (hD : gt D j ≤ 2 ^ (kd i).w - 1) : (candE I q i D xs j).length = 32 ∧ Bytes (candE I q i D xs j) :=
  ⟨walkN_length _ _ _ _ _ _ (piece_length xs _ hl), walkN_bytes _ _ _ _ _ _ hI (piece_bytes xs _ hx) (by have := top_lt i hi; omega)⟩
/-- What Candidate's closure has captured. -/
structure CCap (w : World) (c1 c2 c3 c4 gB : Nat) (I : List Nat) (q i : Nat) (D xs : List Nat) (P : Option Addr) (m c : Nat) : Prop where
  walk : w.cell? ⟨c1, 0, none⟩ = some (.func (.func 99) #[] #[.pointer (some ⟨gB, 0, none⟩)])
  dig : Blk w c2 130 (ints D)
  kind : Blk w c3 124 (kv (kd i))
  sig : Blk w c4 27 [.slice P m c]
  beg : Blk w gB 155 (u8s (begN I q))
  text : Sr w P xs
  lt : c1 < w.heap.size
theorem CCap.below {w w' : World} {c1 c2 c3 c4 gB : Nat} {I : List Nat} {q i : Nat} {D xs : List Nat} {P : Option Addr} {m c : Nat} (h : CCap w c1 c2 c3 c4 gB I q i D xs P m c) (hb : Below w.heap.size w w') : CCap w' c1 c2 c3 c4 gB I q i D xs P m c :=
  ⟨(hb.cell (p := ⟨c1, 0, none⟩) h.lt).trans h.walk, h.dig.below hb h.dig.lt, h.kind.below hb h.kind.lt, h.sig.below hb h.sig.lt, h.beg.below hb h.beg.lt, h.text.below hb, Nat.lt_of_lt_of_le h.lt hb.size⟩
set_option maxRecDepth 100000 in
set_option maxHeartbeats 2000000 in
theorem candEnd_t (c1 c2 c3 c4 gB : Nat) (I : List Nat) (q i j : Nat) (D xs : List Nat) (P : Option Addr) (m c : Nat) (w : World) (h : CCap w c1 c2 c3 c4 gB I q i D xs P m c) (hI : I.length = 16) (hIb : Bytes I) (hi : i < 4) (hj : j < (kd i).p) (hx : xs.length = m) (hxb : Bytes xs) (hc : m ≤ c) (hm : m = 36 + 32 * (kd i).p) (hD : D.length = 265) (hDj : gt D j ≤ 2 ^ (kd i).w - 1) (hk : KAt w) :
    Calls Tryz.prog 108 #[.int .i64 (j : Int), .pointer (some ⟨c1, 0, none⟩), .pointer (some ⟨c2, 0, none⟩), .pointer (some ⟨c3, 0, none⟩), .pointer (some ⟨c4, 0, none⟩)] w fun e w' => e = .returned (.agg (u8s (candE I q i D xs j)).toArray) ∧ Below w.heap.size w w' := by
  have H := Lib.hid h; have HI := Lib.hid hI; have HIB := Lib.hid hIb; have HX := Lib.hid hx; have HXB := Lib.hid hxb; have HC := Lib.hid hc; have HD := Lib.hid hD; have HK := Lib.hid hk; have HG := Lib.hid hk.lt
  have hp265 := kd_p i hi
  have E1 := Lib.hid (candE_ok I q i D xs j hi hIb hxb (by omega) hDj)
  have hm2 : 36 + 32 * (1 + j) ≤ m := by omega
  have hj2 : j < 265 := by omega
  have htop := top_lt i hi
  have ej : IntKind.i64.wrap (1 + (j : Int)) = ((1 + j : Nat) : Int) := by rw [show (1 : Int) + (j : Int) = ((1 + j : Nat) : Int) from by omega]; exact IntWalk.i64_in _ (by omega)
  obtain ⟨j1, hj1⟩ : ∃ x, 1 + j = x := ⟨_, rfl⟩
  rw [hj1] at ej
  have HJ1 := Lib.hid hj1
  clear h hI hIb hx hxb hc hm hD hk hj hj1
  go_enter Tryz.func108, Tryz.ntmps108
  go_wp2_with fail
  refine world_is (fun W => Blk W w.heap.size 24 (u8s z32) ∧ Below w.heap.size w W) ⟨Blk.new _ _ (u8s z32), (Below.refl _ _).alloc (Nat.le_refl _) _⟩ ?_
  rintro W ⟨z0', bw'⟩
  have Z0 := Lib.hid z0'.drew; have BW := Lib.hid bw'.drew; have H0 := Lib.hid (H.out.below bw'.drew)
  have n1 : w.heap.size ≠ c1 := by have := H.out.lt; omega
  have n2 : w.heap.size ≠ c2 := by have := H.out.dig.lt; omega
  have n3 : w.heap.size ≠ c3 := by have := H.out.kind.lt; omega
  have n4 : w.heap.size ≠ c4 := by have := H.out.sig.lt; omega
  clear z0' bw' H
  obtain ⟨dj, hdj⟩ : ∃ d, gt D j = d := ⟨_, rfl⟩
  have rs : ∀ V, CCap V c1 c2 c3 c4 gB I q i D xs P m c → (V.cell? ⟨c1, 0, none⟩ = some (.func (.func 99) #[] #[.pointer (some ⟨gB, 0, none⟩)]) ∧ V.cell? ⟨c2, j, none⟩ = some (.int .i64 (dj : Int)) ∧ V.rangeAt c3 0 (kv (kd i)) ∧ V.cell? ⟨c4, 0, none⟩ = some (.slice P m c)) := fun V h => ⟨h.walk, by rw [h.dig.cell, ints_get _ _ (by rw [HD.out]; omega), hdj], range_of_blk h.kind, h.sig.cell 0⟩
  have RS := Lib.hid rs
  have r1 := rs _ H0.out
  have HDJ := Lib.hid hdj
  have i1 : (j : Int) < 265 := by omega
  rw [hdj] at hDj
  clear rs hdj
  refine wp_region_held (S := fun V => V.cell? ⟨c1, 0, none⟩ = some (.func (.func 99) #[] #[.pointer (some ⟨gB, 0, none⟩)]) ∧ V.cell? ⟨c2, j, none⟩ = some (.int .i64 (dj : Int)) ∧ V.rangeAt c3 0 (kv (kd i)) ∧ V.cell? ⟨c4, 0, none⟩ = some (.slice P m c)) (by kernel_rfl) ?_
  change wpAnyH _ _ _ _ _ _ _ _ W.drew
  refine wpAnyH_take (i := 0) (v := ?_) rfl (by kernel_rfl) (by kernel_rfl) (by kernel_rfl) (fun _ _ _ h => h) (Or.inl ⟨by kernel_rfl, ?_⟩) r1 ?_
  rotate_left 1
  · (intro w hS; have hs := hS.1; clear hS; go_simp; try (with_reducible rfl))
  refine wpAnyH_take (i := 1) (v := ?_) rfl (by kernel_rfl) (by kernel_rfl) (by kernel_rfl) (fun _ _ _ h => h) (Or.inl ⟨by kernel_rfl, ?_⟩) r1 ?_
  rotate_left 1
  · (intro w hS; clear hS; go_simp; try (with_reducible rfl))
  refine wpAnyH_take (i := 2) (v := ?_) rfl (by kernel_rfl) (by kernel_rfl) (by kernel_rfl) (fun _ _ _ h => h) (Or.inl ⟨by kernel_rfl, ?_⟩) r1 ?_
  rotate_left 1
  · (intro w hS; clear hS; go_simp; try (with_reducible rfl))
  refine wpAnyH_take (i := 3) (v := ?_) rfl (by kernel_rfl) (by kernel_rfl) (by kernel_rfl) (fun _ _ _ h => h) (Or.inl ⟨by kernel_rfl, ?_⟩) r1 ?_
  rotate_left 1
  · (intro w hS; clear hS; go_simp; try (with_reducible rfl))
  refine wpAnyH_take (i := 4) (v := ?_) rfl (by kernel_rfl) (by kernel_rfl) (by kernel_rfl) (fun _ _ _ h => h) (Or.inl ⟨by kernel_rfl, ?_⟩) r1 ?_
  rotate_left 1
  · (intro w hS; have hs := hS.2.1; clear hS; go_simp; try (with_reducible rfl))
  refine wpAnyH_take (i := 5) (v := .agg (kv (kd i)).toArray) rfl (by kernel_rfl) (by kernel_rfl) (by kernel_rfl) (fun _ _ _ h => h) (yieldsIf_load_mid (by kernel_rfl) 124 (.tmp 3) rfl c3 0 (by go_simp) (kv (kd i)) _ (fun _ h => h.2.2.1) Tryz.underlying124 rfl (kv_size _)) r1 ?_
  refine wpAnyH_take (i := 7) (v := ?_) rfl (by kernel_rfl) (by kernel_rfl) (by kernel_rfl) (fun _ _ _ h => h) (Or.inl ⟨by kernel_rfl, ?_⟩) r1 ?_
  rotate_left 1
  · (intro w hS; have hs := hS.2.2.2; clear hS; go_simp; try (with_reducible rfl))
  refine wpAnyH_take (i := 8) (v := ?_) rfl (by kernel_rfl) (by kernel_rfl) (by kernel_rfl) (fun _ _ _ h => h) (Or.inl ⟨by kernel_rfl, ?_⟩) r1 ?_
  rotate_left 1
  · (intro w hS; clear hS; go_simp; try (with_reducible rfl))
  refine wpAnyH_take (i := 9) (v := ?_) rfl (by kernel_rfl) (by kernel_rfl) (by kernel_rfl) (fun _ _ _ h => h) (Or.inl ⟨by kernel_rfl, ?_⟩) r1 ?_
  rotate_left 1
  · (intro w hS; clear hS; go_simp; try (with_reducible rfl))
  refine wpAnyH_ready (rs := [6]) (by kernel_rfl) (by simp) ?_
  refine AllReadyH.cons rfl (fun K hK => ?_) AllReadyH.nil
  go_simp
  refine (top_t i hi W.drew).mono ?_
  rintro e w2 ⟨rfl, b2⟩
  have Z2 := Lib.hid (Z0.out.below b2 Z0.out.lt); have B2 := Lib.hid (BW.out.trans (b2.mono BW.out.size)); have H2 := Lib.hid (H0.out.below b2)
  have r2 := RS.out _ H2.out
  clear b2 r1 Z0 BW H0
  refine hK.out _ _ r2 (fun _ => ?_)
  clear hK K
  refine wpAnyH_ready (rs := [10]) (by kernel_rfl) (by simp) ?_
  refine AllReadyH.cons rfl (fun K hK => ?_) AllReadyH.nil
  go_simp
  refine (hashAt_t xs P m c j1 w2 HX.out H2.out.text HC.out (by have := HJ1.out; omega) (by have := HJ1.out; omega)).mono ?_
  rintro e w3 ⟨rfl, b3⟩
  have Z3 := Lib.hid (Z2.out.below b3 Z2.out.lt); have B3 := Lib.hid (B2.out.trans (b3.mono B2.out.size)); have H3 := Lib.hid (H2.out.below b3)
  have r3 := RS.out _ H3.out
  clear b3 r2 Z2 B2 H2
  refine hK.out _ _ r3 (fun _ => ?_)
  clear hK K
  refine wpAnyH_ready (rs := [11]) (by kernel_rfl) (by simp) ?_
  refine AllReadyH.cons rfl (fun K hK => ?_) AllReadyH.nil
  go_simp
  refine (walk_t I (piece xs j1) q j dj (2 ^ (kd i).w - 1) gB w3 HI.out HIB.out (piece_length xs _ (by have := HJ1.out; have := HX.out; omega)) (piece_bytes xs _ HXB.out) hj2 hDj htop H3.out.beg (HK.out.below B3.out HG.out)).mono ?_
  rintro e w4 ⟨rfl, b4⟩
  have Z4 := Lib.hid (Z3.out.below b4 Z3.out.lt); have B4 := Lib.hid (B3.out.trans (b4.mono B3.out.size)); have H4 := Lib.hid (H3.out.below b4)
  have r4 := RS.out _ H4.out
  clear b4 r3 Z3 B3 H3
  rw [show walkN I q j dj (2 ^ (kd i).w - 1 - dj) (piece xs j1) = candE I q i D xs j from by unfold candE; rw [HDJ.out, HJ1.out]]
  obtain ⟨E, hE⟩ : ∃ E, candE I q i D xs j = E := ⟨_, rfl⟩
  rw [hE] at E1 ⊢
  have HE := Lib.hid hE
  clear hE
  refine hK.out _ _ r4 (fun _ => ?_)
  clear hK K
  refine wpAnyH_ready (rs := [12]) (by kernel_rfl) (by simp) ?_
  refine AllReadyH.cons rfl (fun K hK => ?_) AllReadyH.nil
  rw [if_pos (by kernel_rfl)]
  have HZE := Lib.hid (show (u8s z32).length = (u8s E).length by rw [u8s_length, u8s_length, E1.out.1]; rfl)
  refine wstore_part 24 (.tmp 6) (.tmp 18) w.heap.size 0 24 [] (u8s z32) [] (u8s E) rfl (by rw [List.nil_append, List.append_nil]; exact Z4.out) rfl HZE.out (size32 _ E1.out.1) (u8s_one _) rfl rfl ?_
  intro w5 a1 a2 a3
  have Z5 := Lib.hid (show Blk w5 w.heap.size 24 (u8s E) by have := a1.out; rwa [List.nil_append, List.append_nil] at this)
  have B5 := Lib.hid (B4.out.trans (a2.out.below (B' := w.heap.size) (Nat.le_refl _) B4.out.size))
  have r5 : w5.cell? ⟨c1, 0, none⟩ = some (.func (.func 99) #[] #[.pointer (some ⟨gB, 0, none⟩)]) ∧ w5.cell? ⟨c2, j, none⟩ = some (.int .i64 (dj : Int)) ∧ w5.rangeAt c3 0 (kv (kd i)) ∧ w5.cell? ⟨c4, 0, none⟩ = some (.slice P m c) :=
    ⟨(a2.out.cell (p := ⟨c1, 0, none⟩) H4.out.lt n1.symm).trans r4.1, (a2.out.cell (p := ⟨c2, j, none⟩) H4.out.dig.lt n2.symm).trans r4.2.1, rg_but r4.2.2.1 a2.out H4.out.kind.lt n3.symm, (a2.out.cell (p := ⟨c4, 0, none⟩) H4.out.sig.lt n4.symm).trans r4.2.2.2⟩
  clear a1 a2 a3 Z4 B4 H4 r4
  refine hK.out _ _ r5 (fun _ => ?_)
  clear hK K
  refine wpAnyH_done (by kernel_rfl) ?_ _
  go_simp
  go_wp2_with fail
  exact ret_blk (p := 6) (ty := 24) rfl rfl w.heap.size 24 _ _ rfl Z5.out Tryz.underlying24 rfl (size32 _ E1.out.1) ⟨by rw [HE.out], B5.out⟩
end Go.Proofs.YtigbnjgmdgkgjaaGreatDoor
