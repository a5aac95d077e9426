/-
  PACKAGE ots: what reads a signature: hashAt, fits.
-/
import Derived.Test.YtigbnjgmdgkgjaaGreatDoorOtX
namespace Go.Proofs.YtigbnjgmdgkgjaaGreatDoor
open Go Go.RowKit Sh

/-- 's[l:h]' of a slice of one-cell elements. -/
theorem slice_mid {P : Program} {t e : TypeId} (hu : P.underlying t = some (.slice e)) (hs : (P.info? e).map (·.size) = some 1) (p : Option Addr) (n c l h : Nat) (h1 : l ≤ h) (hc : h ≤ c) :
    ∃ p2, (l < c → ∀ g off, p = some ⟨g, off, none⟩ → p2 = some ⟨g, off + l, none⟩) ∧ ∀ W, (Instr.slice t (.slice p n c) (some (.int .i64 (l : Int))) (some (.int .i64 (h : Int))) none).run P W = .ok (.slice p2 (h - l) (c - l)) W := by
  have hz : ∀ W, (sizeOf e).run P W = .ok 1 W := by
    cases hq : P.info? e with
    | none => simp [hq] at hs
    | some i => simp [hq] at hs; intro W; simp [sizeOf, typeInfo, hq, hs]
  have e1 : ∀ W, (Instr.sliceBound (.int .i64 (l : Int)) h .sliceB).run P W = .ok l W := fun W => by
    simp [Instr.sliceBound, asIntOf, h1]
  have e2 : ∀ W, (Instr.sliceBound (.int .i64 (h : Int)) c .sliceAcap).run P W = .ok h W := fun W => by
    simp [Instr.sliceBound, asIntOf, hc]
  refine ⟨if c = l then p else p.map (·.add l), fun hl g off hp => ?_, fun W => ?_⟩
  · rw [if_neg (by omega), hp]; simp [Addr.add_mid]
  · simp [Instr.slice, run_underlying hu, Instr.sliceBounds, e1, e2, hz, Result.andThen]
/-- The n-th text of 32 bytes behind the typecode. -/
def piece (xs : List Nat) (n : Nat) : List Nat := (xs.drop (4 + 32 * n)).take 32
theorem piece_length (xs : List Nat) (n : Nat) (h : 36 + 32 * n ≤ xs.length) : (piece xs n).length = 32 := by
  unfold piece
  rw [List.length_take, List.length_drop]
  omega
theorem piece_bytes (xs : List Nat) (n : Nat) (h : Bytes xs) : Bytes (piece xs n) := bytes_take (bytes_drop h _) _
theorem piece_range {w : World} {b o : Nat} {xs : List Nat} (h : BytesAt w b o xs) (n : Nat) (hn : 36 + 32 * n ≤ xs.length) : w.rangeAt b (o + (4 + 32 * n)) (u8s (piece xs n)) := fun j v hv => by
  have hj : j < 32 := by
    have := (List.getElem?_eq_some_iff.1 hv).1
    rwa [u8s_length, piece_length xs n hn] at this
  rw [Nat.add_assoc, h _ (by omega), ← hv, u8s_get _ _ (by rw [piece_length xs n hn]; exact hj)]
  congr 3
  unfold piece
  simp [gt, List.getD_eq_getElem?_getD, hj]
set_option maxRecDepth 100000 in
set_option maxHeartbeats 1000000 in
theorem hashAt_t (xs : List Nat) (P : Option Addr) (m c n : Nat) (w : World) (hx : xs.length = m) (hp : Sr w P xs) (hc : m ≤ c) (hn : n ≤ 265) (hm : 36 + 32 * n ≤ m) :
    Calls Tryz.prog 106 #[.slice P m c, .int .i64 (n : Int)] w fun e w' => e = .returned (.agg (u8s (piece xs n)).toArray) ∧ Below w.heap.size w w' := by
  have HX := Lib.hid hx
  obtain ⟨b, o, rfl, hb, hbytes⟩ := hp (by omega)
  have RG := Lib.hid (piece_range hbytes n (by omega))
  have PL := Lib.hid (piece_length xs n (by omega))
  obtain ⟨at_, hat⟩ : ∃ a, 4 + 32 * n = a := ⟨_, rfl⟩
  rw [hat] at RG
  obtain ⟨p2, hp2, hs2⟩ := slice_mid (P := Tryz.prog) (t := 27) (e := 5) Tryz.underlying27 byte_size (some ⟨b, o, none⟩) m c at_ (at_ + 32) (by omega) (by omega)
  obtain rfl := hp2 (by omega) b o rfl
  rw [show ((at_ + 32 : Nat) : Int) = (at_ : Int) + 32 from rfl, show at_ + 32 - at_ = 32 from by omega] at hs2
  have hs3 : ∀ W, (Instr.arrayAt 24 (.slice (some ⟨b, o + at_, none⟩) 32 (c - at_))).run Tryz.prog W = .ok (.pointer (some ⟨b, o + at_, none⟩)) W := fun W => by
    simp [Instr.arrayAt, run_underlying Tryz.underlying24, Result.andThen]
  have HS2 := Lib.hid hs2; have HS3 := Lib.hid hs3
  have i1 : (n : Int) ≤ 265 := by omega
  have HAT := Lib.hid (show (4 : Int) + (n : Int) * 32 = (at_ : Int) by omega)
  have a1 : (at_ : Int) ≤ 10000 := by omega
  have BL := Lib.hid hb
  clear hbytes hat hp hp2 hs2 hs3 hx hb
  go_enter Tryz.func106, Tryz.ntmps106
  go_upto_region 2 with (fail)
  rw [HAT.out]
  have hs2 := HS2.out
  have hs3 := HS3.out
  refine world_is (fun W => W.rangeAt b (o + at_) (u8s (piece xs n)) ∧ Blk W w.heap.size 24 (u8s z32) ∧ Below w.heap.size w W) ⟨rg_below RG.out ((Below.refl w.heap.size w).alloc (Nat.le_refl _) _) BL.out, Blk.new _ _ (u8s z32), (Below.refl _ _).alloc (Nat.le_refl _) _⟩ ?_
  rintro W ⟨rg, z, bw⟩
  have RG2 := Lib.hid rg; have Z0 := Lib.hid z; have BW := Lib.hid bw
  have HZL := Lib.hid (show (u8s z32).length = (u8s (piece xs n)).length by rw [u8s_length, u8s_length, PL.out]; rfl)
  clear rg z bw RG
  go_wp2_with (first
    | ((with_reducible refine wpList_load_mid rfl 24 (.tmp 14) rfl b (o + at_) ?_ (u8s (piece xs n)) _ ?_ Tryz.underlying24 ?_ ?_ ?_); exact rfl; exact RG2.out; exact rfl; exact size32 _ PL.out)
    | ((with_reducible refine store_blk 24 (.tmp 4) (.tmp 15) w.heap.size 24 (u8s z32) (u8s (piece xs n)) rfl rfl ?_ ?_ ?_ ?_ ?_ ?_ ?_); exact Z0.out; exact HZL.out; exact size32 _ PL.out; exact u8s_one _; exact rfl; exact rfl))
  exact ret_blk (p := 4) (ty := 24) rfl rfl w.heap.size 24 _ _ rfl (Z0.out.setRow _) Tryz.underlying24 rfl (size32 _ PL.out) ⟨rfl, below_setRow BW.out (Nat.le_refl _) _⟩
set_option maxRecDepth 100000 in
set_option maxHeartbeats 1000000 in
theorem fits_len (P : Option Addr) (i m c : Nat) (w : World) (hi : i < 4) (hm : m ≠ 36 + 32 * (kd i).p) (_ : m ≤ 9223372036854775807) :
    Calls Tryz.prog 105 #[.agg (kv (kd i)).toArray, .slice P m c] w fun e w' => e = .returned (.bool false) ∧ Below w.heap.size w w' := by
  have hp265 := kd_p i hi
  have K0 := Lib.hid (Blk.new w 124 (kv (kd i)))
  obtain ⟨p, hpp⟩ : ∃ p, (kd i).p = p := ⟨_, rfl⟩
  rw [hpp] at hm hp265
  have c2 : (w.alloc (.cells (kv (kd i)).toArray 124)).cell? ⟨w.heap.size, 2, none⟩ = some (.int .i64 (p : Int)) := by rw [← hpp]; exact K0.out.cell 2
  have e1 : IntKind.i64.wrap (1 + (p : Int)) = 1 + (p : Int) := IntWalk.i64_in _ (by omega)
  have e2 : IntKind.i64.wrap (32 * (1 + (p : Int))) = 32 * (1 + (p : Int)) := IntWalk.i64_in _ (by omega)
  have e3 : IntKind.i64.wrap (4 + 32 * (1 + (p : Int))) = 4 + 32 * (1 + (p : Int)) := IntWalk.i64_in _ (by omega)
  have t0 : ((m : Int) == 4 + 32 * (1 + (p : Int))) = false := by rw [beq_eq_false_iff_ne]; omega
  clear hpp hm
  go_enter Tryz.func105, Tryz.ntmps105
  go_wp2_with fail
  go_quiet (fail)
  go_wp2_with fail
  go_ret
  exact ⟨rfl, below_drewN ((Below.refl _ _).alloc (Nat.le_refl _) _) _⟩
set_option maxRecDepth 100000 in
set_option maxHeartbeats 1000000 in
theorem fits_t (xs : List Nat) (P : Option Addr) (i m c : Nat) (w : World) (hi : i < 4) (hx : xs.length = m) (hp : Sr w P xs) (hb : Bytes xs) (hc : m ≤ c) (hm : m = 36 + 32 * (kd i).p) :
    Calls Tryz.prog 105 #[.agg (kv (kd i)).toArray, .slice P m c] w fun e w' => e = .returned (.bool (decide (val (xs.take 4) = (kd i).code))) ∧ Below w.heap.size w w' := by
  have HX := Lib.hid hx; have HP := Lib.hid hp; have HB := Lib.hid hb; have HC := Lib.hid hc
  have hp265 := kd_p i hi
  have K0 := Lib.hid (Blk.new w 124 (kv (kd i)))
  have B0 := Lib.hid ((Below.refl w.heap.size w).alloc (Nat.le_refl _) (.cells (kv (kd i)).toArray 124))
  have hs4 := slice_high (P := Tryz.prog) (t := 27) (e := 5) Tryz.underlying27 byte_size P m c .i64 4 (by omega)
  rw [show ((4 : Nat) : Int) = 4 from rfl] at hs4
  obtain ⟨p, hpp⟩ : ∃ p, (kd i).p = p := ⟨_, rfl⟩
  rw [hpp] at hm hp265
  have e1 : IntKind.i64.wrap (1 + (p : Int)) = 1 + (p : Int) := IntWalk.i64_in _ (by omega)
  have e2 : IntKind.i64.wrap (32 * (1 + (p : Int))) = 32 * (1 + (p : Int)) := IntWalk.i64_in _ (by omega)
  have e3 : IntKind.i64.wrap (4 + 32 * (1 + (p : Int))) = 4 + 32 * (1 + (p : Int)) := IntWalk.i64_in _ (by omega)
  have t0 : ((m : Int) == 4 + 32 * (1 + (p : Int))) = true := by rw [beq_iff_eq]; omega
  have m1 : 36 ≤ m := by omega
  have HPP := Lib.hid hpp
  clear hpp hm hx hp hb hc
  go_enter Tryz.func105, Tryz.ntmps105
  go_wp2_with fail
  refine world_is (fun W => Blk W w.heap.size 124 (kv (kd i)) ∧ Below w.heap.size w W) ⟨K0.out, B0.out⟩ ?_
  rintro W ⟨k, bw⟩
  have K1 := Lib.hid k.drew; have B1 := Lib.hid bw.drew
  have rs : ∀ X, Blk X w.heap.size 124 (kv (kd i)) → (X.cell? ⟨w.heap.size, 0, none⟩ = some (.int .u64 ((kd i).code : Int)) ∧ X.cell? ⟨w.heap.size, 2, none⟩ = some (.int .i64 (p : Int))) := fun X h => ⟨h.cell 0, by rw [← HPP.out]; exact h.cell 2⟩
  have RS := Lib.hid rs
  have r1 := rs _ K1.out
  clear k bw rs K0 B0
  refine wp_region_held (S := fun X => X.cell? ⟨w.heap.size, 0, none⟩ = some (.int .u64 ((kd i).code : Int)) ∧ X.cell? ⟨w.heap.size, 2, none⟩ = some (.int .i64 (p : Int))) (by kernel_rfl) ?_
  change wpAnyH _ _ _ _ _ _ _ _ W.drew
  refine wpAnyH_take (i := 0) (v := ?_) rfl (by kernel_rfl) (by kernel_rfl) (by kernel_rfl) (fun _ _ _ h => h) (Or.inl ⟨by kernel_rfl, ?_⟩) r1 ?_
  rotate_left 1
  · (intro w hS; clear hS; go_simp; try (with_reducible rfl))
  refine wpAnyH_take (i := 1) (v := ?_) rfl (by kernel_rfl) (by kernel_rfl) (by kernel_rfl) (fun _ _ _ h => h) (Or.inl ⟨by kernel_rfl, ?_⟩) r1 ?_
  rotate_left 1
  · (intro w hS; clear hS; go_simp; try (with_reducible rfl))
  refine wpAnyH_take (i := 2) (v := ?_) rfl (by kernel_rfl) (by kernel_rfl) (by kernel_rfl) (fun _ _ _ h => h) (Or.inl ⟨by kernel_rfl, ?_⟩) r1 ?_
  rotate_left 1
  · (intro w hS; clear hS; go_simp; try (with_reducible rfl))
  refine wpAnyH_take (i := 3) (v := ?_) rfl (by kernel_rfl) (by kernel_rfl) (by kernel_rfl) (fun _ _ _ h => h) (Or.inl ⟨by kernel_rfl, ?_⟩) r1 ?_
  rotate_left 1
  · (intro w hS; have hs := hS.2; clear hS; go_simp; try (with_reducible rfl))
  refine wpAnyH_take (i := 4) (v := ?_) rfl (by kernel_rfl) (by kernel_rfl) (by kernel_rfl) (fun _ _ _ h => h) (Or.inl ⟨by kernel_rfl, ?_⟩) r1 ?_
  rotate_left 1
  · (intro w hS; clear hS; go_simp; try (with_reducible rfl))
  refine wpAnyH_take (i := 5) (v := ?_) rfl (by kernel_rfl) (by kernel_rfl) (by kernel_rfl) (fun _ _ _ h => h) (Or.inl ⟨by kernel_rfl, ?_⟩) r1 ?_
  rotate_left 1
  · (intro w hS; clear hS; go_simp; try (with_reducible rfl))
  refine wpAnyH_take (i := 6) (v := ?_) rfl (by kernel_rfl) (by kernel_rfl) (by kernel_rfl) (fun _ _ _ h => h) (Or.inl ⟨by kernel_rfl, ?_⟩) r1 ?_
  rotate_left 1
  · (intro w hS; clear hS; go_simp; try (with_reducible rfl))
  refine wpAnyH_take (i := 7) (v := ?_) rfl (by kernel_rfl) (by kernel_rfl) (by kernel_rfl) (fun _ _ _ h => h) (Or.inl ⟨by kernel_rfl, ?_⟩) r1 ?_
  rotate_left 1
  · (intro w hS; clear hS; go_simp; try (with_reducible rfl))
  refine wpAnyH_take (i := 8) (v := ?_) rfl (by kernel_rfl) (by kernel_rfl) (by kernel_rfl) (fun _ _ _ h => h) (Or.inl ⟨by kernel_rfl, ?_⟩) r1 ?_
  rotate_left 1
  · (intro w hS; clear hS; go_simp; try (with_reducible rfl))
  refine wpAnyH_take (i := 9) (v := ?_) rfl (by kernel_rfl) (by kernel_rfl) (by kernel_rfl) (fun _ _ _ h => h) (Or.inl ⟨by kernel_rfl, ?_⟩) r1 ?_
  rotate_left 1
  · (intro w hS; clear hS; go_simp; try (with_reducible rfl))
  refine wpAnyH_take (i := 10) (v := ?_) rfl (by kernel_rfl) (by kernel_rfl) (by kernel_rfl) (fun _ _ _ h => h) (Or.inl ⟨by kernel_rfl, ?_⟩) r1 ?_
  rotate_left 1
  · (intro w hS; clear hS; go_simp; try (with_reducible rfl))
  refine wpAnyH_take (i := 13) (v := ?_) rfl (by kernel_rfl) (by kernel_rfl) (by kernel_rfl) (fun _ _ _ h => h) (Or.inl ⟨by kernel_rfl, ?_⟩) r1 ?_
  rotate_left 1
  · (intro w hS; clear hS; go_simp; try (with_reducible rfl))
  refine wpAnyH_take (i := 14) (v := ?_) rfl (by kernel_rfl) (by kernel_rfl) (by kernel_rfl) (fun _ _ _ h => h) (Or.inl ⟨by kernel_rfl, ?_⟩) r1 ?_
  rotate_left 1
  · (intro w hS; have hs := hS.1; clear hS; go_simp; try (with_reducible rfl))
  refine wpAnyH_ready (rs := [11]) (by kernel_rfl) (by simp) ?_
  refine AllReadyH.cons rfl (fun K hK => ?_) AllReadyH.nil
  go_simp
  have wl : w.heap.size < W.drew.heap.size := K1.out.lt
  refine (rnew_t (xs.take 4) P 4 c W.drew (by rw [List.length_take, HX.out]; omega) ((HP.out.below B1.out).take 4) (by decide)).mono ?_
  rintro e w2 ⟨g, rfl, hg, hr, b2⟩
  have K2 := Lib.hid (K1.out.below b2 K1.out.lt); have B2 := Lib.hid (B1.out.trans (b2.mono B1.out.size)); have R2 := Lib.hid hr
  have r2 := RS.out _ K2.out
  clear b2 hr r1 K1 B1
  refine hK.out _ _ r2 (fun _ => ?_)
  clear hK K
  refine wpAnyH_ready (rs := [12]) (by kernel_rfl) (by simp) ?_
  refine AllReadyH.cons rfl (fun K hK => ?_) AllReadyH.nil
  go_simp
  refine (rnum_ok g (xs.take 4) false 4 w2 R2.out (bytes_take HB.out 4) (by decide) (by decide) (by rw [List.length_take, HX.out]; omega) (by rw [List.length_take]; omega)).mono ?_
  rintro e w3 ⟨rfl, _, k3⟩
  rw [List.take_take, Nat.min_self]
  have K3 := Lib.hid (K2.out.kept k3 (by omega)); have B3 := Lib.hid (B2.out.trans ((k3.mono (G := fun k => w.heap.size ≤ k) (fun k (e : k = g) => by omega)).to_below B2.out.size))
  have r3 := RS.out _ K3.out
  clear k3 r2 R2 K2 B2
  refine hK.out _ _ r3 (fun _ => ?_)
  clear hK K
  refine wpAnyH_take (i := 15) (v := ?_) rfl (by kernel_rfl) (by kernel_rfl) (by kernel_rfl) (fun _ _ _ h => h) (Or.inl ⟨by kernel_rfl, ?_⟩) r3 ?_
  rotate_left 1
  · (intro w hS; clear hS; go_simp; try (with_reducible rfl))
  refine wpAnyH_take (i := 16) (v := ?_) rfl (by kernel_rfl) (by kernel_rfl) (by kernel_rfl) (fun _ _ _ h => h) (Or.inl ⟨by kernel_rfl, ?_⟩) r3 ?_
  rotate_left 1
  · (intro w hS; clear hS; go_simp; try (with_reducible rfl))
  refine wpAnyH_take (i := 17) (v := ?_) rfl (by kernel_rfl) (by kernel_rfl) (by kernel_rfl) (fun _ _ _ h => h) (Or.inl ⟨by kernel_rfl, ?_⟩) r3 ?_
  rotate_left 1
  · (intro w hS; clear hS; go_simp; try (with_reducible rfl))
  refine wpAnyH_done (by kernel_rfl) ?_ _
  go_simp
  go_wp2_with fail
  go_ret
  refine ⟨?_, B3.out⟩
  show Ending.returned (.bool (((val (xs.take 4) : Nat) : Int) == ((kd i).code : Int))) = _
  have e : (((val (xs.take 4) : Nat) : Int) == ((kd i).code : Int)) = decide (val (xs.take 4) = (kd i).code) := by
    rw [Bool.eq_iff_iff]; simp; omega
  rw [e]
end Go.Proofs.YtigbnjgmdgkgjaaGreatDoor
