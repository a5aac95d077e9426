/-
  PACKAGE ots: Public.
-/
import Derived.Test.YtigbnjgmdgkgjaaGreatDoorOtP
import Derived.Test.YtigbnjgmdgkgjaaGreatDoorOtArgs
import Derived.Shelf.Abstract
namespace Go.Proofs.YtigbnjgmdgkgjaaGreatDoor
open Go Go.RowKit Sh

theorem rg_below {w w' : World} {B b o : Nat} {cs : List Value} (h : w.rangeAt b o cs) (hb : Below B w w') (hB : b < B) : w'.rangeAt b o cs := fun j v hv => (hb.cell (p := ⟨b, o + j, none⟩) hB).trans (h j v hv)
theorem rg_but {w w' : World} {B g b o : Nat} {cs : List Value} (h : w.rangeAt b o cs) (hb : But B g w w') (hB : b < B) (hne : b ≠ g) : w'.rangeAt b o cs := fun j v hv => (hb.cell (p := ⟨b, o + j, none⟩) hB hne).trans (h j v hv)
theorem rg_part {w : World} {g : Nat} {t : TypeId} {A M C : List Value} (h : Blk w g t (A ++ (M ++ C))) {o : Nat} (ho : o = A.length) : w.rangeAt g o M := by
  subst ho
  exact range_of h
/-- The end of chain j of a public key. -/
def tipN (I seed : List Nat) (q i j : Nat) : List Nat := walkN I q j 0 (2 ^ (kd i).w - 1) (secN I seed q j)
theorem top_lt (i : Nat) (hi : i < 4) : 2 ^ (kd i).w - 1 < 256 := by
  have : i = 0 ∨ i = 1 ∨ i = 2 ∨ i = 3 := by omega
  rcases this with rfl | rfl | rfl | rfl <;> decide
theorem secN_length (I seed : List Nat) (q j : Nat) : (secN I seed q j).length = 32 := rfl
theorem secN_bytes (I seed : List Nat) (q j : Nat) (hI : Bytes I) (hs : Bytes seed) : Bytes (secN I seed q j) := sum_bytes _ (app_bytes (app_bytes (headN_bytes _ _ _ hI) (sl_bytes (by decide))) hs)
theorem tipN_ok (I seed : List Nat) (q i j : Nat) (hi : i < 4) (hI : Bytes I) (hs : Bytes seed) : (tipN I seed q i j).length = 32 ∧ Bytes (tipN I seed q i j) :=
  ⟨walkN_length _ _ _ _ _ _ rfl, walkN_bytes _ _ _ _ _ _ hI (secN_bytes _ _ _ _ hI hs) (by have := top_lt i hi; omega)⟩
/-- What Public's closure has captured. -/
structure PCap (w : World) (c1 c2 c3 c4 gB : Nat) (I seed : List Nat) (q i : Nat) : Prop where
  walk : w.cell? ⟨c1, 0, none⟩ = some (.func (.func 99) #[] #[.pointer (some ⟨gB, 0, none⟩)])
  kind : Blk w c2 124 (kv (kd i))
  leaf : Blk w c3 128 (lf I q)
  sec : Blk w c4 26 (u8s I ++ (u8s seed ++ []))
  beg : Blk w gB 155 (u8s (begN I q))
  lt : c1 < w.heap.size
theorem PCap.below {w w' : World} {c1 c2 c3 c4 gB : Nat} {I seed : List Nat} {q i : Nat} (h : PCap w c1 c2 c3 c4 gB I seed q i) (hb : Below w.heap.size w w') : PCap w' c1 c2 c3 c4 gB I seed q i :=
  ⟨(hb.cell (p := ⟨c1, 0, none⟩) h.lt).trans h.walk, h.kind.below hb h.kind.lt, h.leaf.below hb h.leaf.lt, h.sec.below hb h.sec.lt, h.beg.below hb h.beg.lt, Nat.lt_of_lt_of_le h.lt hb.size⟩
set_option maxRecDepth 100000 in
set_option maxHeartbeats 2000000 in
theorem pubEnd_t (c1 c2 c3 c4 gB : Nat) (I seed : List Nat) (q i j : Nat) (w : World) (h : PCap w c1 c2 c3 c4 gB I seed q i) (hI : I.length = 16) (hIb : Bytes I) (hs : seed.length = 32) (hsb : Bytes seed) (hq : q < 32) (hi : i < 4) (hj : j < 265) (hk : KAt w) :
    Calls Tryz.prog 127 #[.int .i64 (j : Int), .pointer (some ⟨c1, 0, none⟩), .pointer (some ⟨c2, 0, none⟩), .pointer (some ⟨c3, 0, none⟩), .pointer (some ⟨c4, 0, none⟩)] w fun e w' => e = .returned (.agg (u8s (tipN I seed q i j)).toArray) ∧ Below w.heap.size w w' := by
  have H := Lib.hid h; have HI := Lib.hid hI; have HIB := Lib.hid hIb; have HS := Lib.hid hs; have HSB := Lib.hid hsb; have HK := Lib.hid hk; have HG := Lib.hid hk.lt
  clear h hI hIb hs hsb hk
  go_enter Tryz.func127, Tryz.ntmps127
  go_wp2_with fail
  refine world_is (fun W => Blk W w.heap.size 24 (u8s z32) ∧ Below w.heap.size w W) ⟨Blk.new _ _ (u8s z32), (Below.refl _ _).alloc (Nat.le_refl _) _⟩ ?_
  rintro W ⟨z0', bw'⟩
  have Z0 := Lib.hid z0'.drew; have BW := Lib.hid bw'.drew; have H0 := Lib.hid (H.out.below bw'.drew)
  have n1 : w.heap.size ≠ c1 := by have := H.out.lt; omega
  have n2 : w.heap.size ≠ c2 := by have := H.out.kind.lt; omega
  have n3 : w.heap.size ≠ c3 := by have := H.out.leaf.lt; omega
  have n4 : w.heap.size ≠ c4 := by have := H.out.sec.lt; omega
  clear z0' bw' H
  have rs : ∀ V, PCap V c1 c2 c3 c4 gB I seed q i → (V.cell? ⟨c1, 0, none⟩ = some (.func (.func 99) #[] #[.pointer (some ⟨gB, 0, none⟩)]) ∧ V.rangeAt c2 0 (kv (kd i)) ∧ V.rangeAt c3 0 (lf I q) ∧ V.rangeAt c4 16 (u8s seed)) := fun V h => ⟨h.walk, range_of_blk h.kind, range_of_blk h.leaf, rg_part h.sec (by rw [u8s_length, HI.out])⟩
  have RS := Lib.hid rs
  have r1 := rs _ H0.out
  clear rs
  refine wp_region_held (S := fun V => V.cell? ⟨c1, 0, none⟩ = some (.func (.func 99) #[] #[.pointer (some ⟨gB, 0, none⟩)]) ∧ V.rangeAt c2 0 (kv (kd i)) ∧ V.rangeAt c3 0 (lf I q) ∧ V.rangeAt c4 16 (u8s seed)) (by kernel_rfl) ?_
  change wpAnyH _ _ _ _ _ _ _ _ W.drew
  refine wpAnyH_take (i := 0) (v := ?_) rfl (by kernel_rfl) (by kernel_rfl) (by kernel_rfl) (fun _ _ _ h => h) (Or.inl ⟨by kernel_rfl, ?_⟩) r1 ?_
  rotate_left 1
  · (intro w hS; have hs := hS.1; clear hS; go_simp; try (with_reducible rfl))
  refine wpAnyH_take (i := 1) (v := ?_) rfl (by kernel_rfl) (by kernel_rfl) (by kernel_rfl) (fun _ _ _ h => h) (Or.inl ⟨by kernel_rfl, ?_⟩) r1 ?_
  rotate_left 1
  · (intro w hS; clear hS; go_simp; try (with_reducible rfl))
  refine wpAnyH_take (i := 2) (v := .agg (kv (kd i)).toArray) rfl (by kernel_rfl) (by kernel_rfl) (by kernel_rfl) (fun _ _ _ h => h) (yieldsIf_load_mid (by kernel_rfl) 124 (.tmp 2) rfl c2 0 (by go_simp) (kv (kd i)) _ (fun _ h => h.2.1) Tryz.underlying124 rfl (kv_size _)) r1 ?_
  refine wpAnyH_take (i := 4) (v := .agg (lf I q).toArray) rfl (by kernel_rfl) (by kernel_rfl) (by kernel_rfl) (fun _ _ _ h => h) (yieldsIf_load_mid (by kernel_rfl) 128 (.tmp 3) rfl c3 0 (by go_simp) (lf I q) _ (fun _ h => h.2.2.1) Tryz.underlying128 rfl (lf_size _ _ HI.out)) r1 ?_
  refine wpAnyH_take (i := 5) (v := ?_) rfl (by kernel_rfl) (by kernel_rfl) (by kernel_rfl) (fun _ _ _ h => h) (Or.inl ⟨by kernel_rfl, ?_⟩) r1 ?_
  rotate_left 1
  · (intro w hS; clear hS; go_simp; try (with_reducible rfl))
  refine wpAnyH_take (i := 6) (v := ?_) rfl (by kernel_rfl) (by kernel_rfl) (by kernel_rfl) (fun _ _ _ h => h) (Or.inl ⟨by kernel_rfl, ?_⟩) r1 ?_
  rotate_left 1
  · (intro w hS; clear hS; go_simp; try (with_reducible rfl))
  refine wpAnyH_take (i := 7) (v := .agg (u8s seed).toArray) rfl (by kernel_rfl) (by kernel_rfl) (by kernel_rfl) (fun _ _ _ h => h) (yieldsIf_load_mid (by kernel_rfl) 24 (.tmp 13) rfl c4 16 (by go_simp) (u8s seed) _ (fun _ h => h.2.2.2) Tryz.underlying24 rfl (size32 _ HS.out)) r1 ?_
  refine wpAnyH_ready (rs := [3]) (by kernel_rfl) (by simp) ?_
  refine AllReadyH.cons rfl (fun K hK => ?_) AllReadyH.nil
  go_simp
  refine (top_t i hi W.drew).mono ?_
  rintro e w2 ⟨rfl, b2⟩
  have Z2 := Lib.hid (Z0.out.below b2 Z0.out.lt); have B2 := Lib.hid (BW.out.trans (b2.mono BW.out.size)); have H2 := Lib.hid (H0.out.below b2)
  have r2 := RS.out _ H2.out
  clear b2 r1 Z0 BW H0
  refine hK.out _ _ r2 (fun _ => ?_)
  clear hK K
  refine wpAnyH_ready (rs := [8]) (by kernel_rfl) (by simp) ?_
  refine AllReadyH.cons rfl (fun K hK => ?_) AllReadyH.nil
  go_simp
  refine (secret_t I seed q j w2 HI.out HIB.out HS.out HSB.out hq (by omega) (HK.out.below B2.out HG.out)).mono ?_
  rintro e w3 ⟨rfl, b3⟩
  have Z3 := Lib.hid (Z2.out.below b3 Z2.out.lt); have B3 := Lib.hid (B2.out.trans (b3.mono B2.out.size)); have H3 := Lib.hid (H2.out.below b3)
  have r3 := RS.out _ H3.out
  clear b3 r2 Z2 B2 H2
  refine hK.out _ _ r3 (fun _ => ?_)
  clear hK K
  refine wpAnyH_ready (rs := [9]) (by kernel_rfl) (by simp) ?_
  refine AllReadyH.cons rfl (fun K hK => ?_) AllReadyH.nil
  go_simp
  refine (walk_t I (secN I seed q j) q j 0 (2 ^ (kd i).w - 1) gB w3 HI.out HIB.out rfl (secN_bytes _ _ _ _ HIB.out HSB.out) hj (Nat.zero_le _) (top_lt i hi) H3.out.beg (HK.out.below B3.out HG.out)).mono ?_
  rintro e w4 ⟨rfl, b4⟩
  have Z4 := Lib.hid (Z3.out.below b4 Z3.out.lt); have B4 := Lib.hid (B3.out.trans (b4.mono B3.out.size)); have H4 := Lib.hid (H3.out.below b4)
  have r4 := RS.out _ H4.out
  clear b4 r3 Z3 B3 H3
  rw [Nat.sub_zero, show walkN I q j 0 (2 ^ (kd i).w - 1) (secN I seed q j) = tipN I seed q i j from rfl]
  have E1 := Lib.hid (tipN_ok I seed q i j hi HIB.out HSB.out)
  obtain ⟨E, hE⟩ : ∃ E, tipN I seed q i j = E := ⟨_, rfl⟩
  rw [hE] at E1 ⊢
  have HE := Lib.hid hE
  clear hE
  refine hK.out _ _ r4 (fun _ => ?_)
  clear hK K
  refine wpAnyH_ready (rs := [10]) (by kernel_rfl) (by simp) ?_
  refine AllReadyH.cons rfl (fun K hK => ?_) AllReadyH.nil
  rw [if_pos (by kernel_rfl)]
  have HZE := Lib.hid (show (u8s z32).length = (u8s E).length by rw [u8s_length, u8s_length, E1.out.1]; rfl)
  refine wstore_part 24 (.tmp 6) (.tmp 16) w.heap.size 0 24 [] (u8s z32) [] (u8s E) rfl (by rw [List.nil_append, List.append_nil]; exact Z4.out) rfl HZE.out (size32 _ E1.out.1) (u8s_one _) rfl rfl ?_
  intro w5 a1 a2 a3
  have Z5 := Lib.hid (show Blk w5 w.heap.size 24 (u8s E) by have := a1.out; rwa [List.nil_append, List.append_nil] at this)
  have B5 := Lib.hid (B4.out.trans (a2.out.below (B' := w.heap.size) (Nat.le_refl _) B4.out.size))
  have r5 : w5.cell? ⟨c1, 0, none⟩ = some (.func (.func 99) #[] #[.pointer (some ⟨gB, 0, none⟩)]) ∧ w5.rangeAt c2 0 (kv (kd i)) ∧ w5.rangeAt c3 0 (lf I q) ∧ w5.rangeAt c4 16 (u8s seed) :=
    ⟨(a2.out.cell (p := ⟨c1, 0, none⟩) H4.out.lt n1.symm).trans r4.1, rg_but r4.2.1 a2.out H4.out.kind.lt n2.symm, rg_but r4.2.2.1 a2.out H4.out.leaf.lt n3.symm, rg_but r4.2.2.2 a2.out H4.out.sec.lt n4.symm⟩
  clear a1 a2 a3 Z4 B4 H4 r4
  refine hK.out _ _ r5 (fun _ => ?_)
  clear hK K
  refine wpAnyH_done (by kernel_rfl) ?_ _
  go_simp
  go_wp2_with fail
  exact ret_blk (p := 6) (ty := 24) rfl rfl w.heap.size 24 _ _ rfl Z5.out Tryz.underlying24 rfl (size32 _ E1.out.1) ⟨by rw [HE.out], B5.out⟩
end Go.Proofs.YtigbnjgmdgkgjaaGreatDoor
