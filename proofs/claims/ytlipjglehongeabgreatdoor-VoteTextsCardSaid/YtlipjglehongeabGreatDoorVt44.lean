/-
  THE LAW VoteTexts
-/
import Derived.Test.YtlipjglehongeabGreatDoorVt43
namespace Go.Proofs.YtlipjglehongeabGreatDoor
open Go Go.RowKit Sh

structure VT (w0 W : World) (a l : List Nat) : Prop where
  a : Blk W w0.heap.size 23 (u8s a)
  b : Blk W (w0.heap.size + 1) 23 (u8s l)
  bel : Below w0.heap.size w0 W
theorem VT.below {w0 W W' : World} {a l : List Nat} (h : VT w0 W a l) (hb : Below W.heap.size W W') : VT w0 W' a l := ⟨h.a.below hb h.a.lt, h.b.below hb h.b.lt, h.bel.trans (hb.mono h.bel.size)⟩
theorem mod_hugeV (m : Nat) (hm : 0 < m) (hm2 : m ≤ 2000000) (n : Int) : ∃ k : Nat, k < m ∧ wrap64 ((IntKind.u64.wrap n).tmod (m : Int)) = (k : Int) := by
  have h0 : 0 ≤ IntKind.u64.wrap n := by simp [IntKind.wrap, IntKind.bits, IntKind.signed]; omega
  rw [Int.tmod_eq_emod_of_nonneg h0]
  generalize IntKind.u64.wrap n = x at *
  have h3 : 0 ≤ x % (m : Int) := Int.emod_nonneg _ (by omega)
  have h4 : x % (m : Int) < (m : Int) := Int.emod_lt_of_pos _ (by omega)
  refine ⟨(x % (m : Int)).toNat, by omega, ?_⟩
  generalize x % (m : Int) = y at *
  unfold wrap64
  omega
theorem be4 (q : Nat) (h : q < 4294967296) : beN q 4 = [q / 16777216, q / 65536 % 256, q / 256 % 256, q % 256] := by
  show [q / 2 ^ 24 % 256, q / 2 ^ 16 % 256, q / 2 ^ 8 % 256, q / 2 ^ 0 % 256] = _
  have h1 : q / 2 ^ 24 % 256 = q / 16777216 := by omega
  have h2 : q / 2 ^ 16 % 256 = q / 65536 % 256 := rfl
  have h3 : q / 2 ^ 8 % 256 = q / 256 % 256 := rfl
  have h4 : q / 2 ^ 0 % 256 = q % 256 := by rw [show (2 : Nat) ^ 0 = 1 from rfl, Nat.div_one]
  rw [h1, h2, h3, h4]
theorem slice_midV {P : Program} {t e : TypeId} (hu : P.underlying t = some (.slice e)) (hs : (P.info? e).map (·.size) = some 1) (g n c l h : Nat) (h1 : l ≤ h) (hc : h ≤ c) (hl : l < c) :
    ∀ W, (Instr.slice t (.slice (some ⟨g, 0, none⟩) n c) (some (.int .i64 (l : Int))) (some (.int .i64 (h : Int))) none).run P W = .ok (.slice (some ⟨g, l, none⟩) (h - l) (c - l)) W := by
  have hz : ∀ W, (sizeOf e).run P W = .ok 1 W := by
    cases hq : P.info? e with
    | none => simp [hq] at hs
    | some i => simp [hq] at hs; intro W; simp [sizeOf, typeInfo, hq, hs]
  have e1 : ∀ W, (Instr.sliceBound (.int .i64 (l : Int)) h .sliceB).run P W = .ok l W := fun W => by
    simp [Instr.sliceBound, asIntOf, h1]
  have e2 : ∀ W, (Instr.sliceBound (.int .i64 (h : Int)) c .sliceAcap).run P W = .ok h W := fun W => by
    simp [Instr.sliceBound, asIntOf, hc]
  have hcl : c ≠ l := by omega
  intro W
  simp [Instr.slice, run_underlying hu, Instr.sliceBounds, e1, e2, hz, Result.andThen, hcl, Addr.add_mid]
theorem textV_take (a l : List Nat) (q : Nat) : (textV a q l).take 4 = [86, 79, 84, 69] := by
  unfold textV
  simp only [List.append_assoc]
  exact List.take_left' rfl
theorem textV_mid {a l : List Nat} {q : Nat} (ha : a.length = 32) : ((textV a q l).take 36).drop 4 = a := by
  unfold textV
  rw [show (([86, 79, 84, 69] ++ a) ++ beN q 4) ++ l = ([86, 79, 84, 69] ++ a) ++ (beN q 4 ++ l) by rw [List.append_assoc], List.take_left' (by rw [List.length_append, ha]; rfl)]
  exact List.drop_left' rfl
theorem textV_end {a l : List Nat} {q : Nat} (ha : a.length = 32) : (textV a q l).drop 40 = l := by
  unfold textV
  exact List.drop_left' (by rw [List.length_append, List.length_append, ha, beN_length]; rfl)
theorem textV_num {a l : List Nat} {q : Nat} (ha : a.length = 32) (k : Nat) (hk : k < 4) : gt (textV a q l) (36 + k) = gt (beN q 4) k := by
  unfold textV gt
  rw [List.getD_eq_getElem?_getD, List.getD_eq_getElem?_getD, List.getElem?_append_left (by rw [List.length_append, List.length_append, ha, beN_length]; show 36 + k < 4 + 32 + 4; omega), List.getElem?_append_right (by rw [List.length_append, ha]; show 4 + 32 ≤ 36 + k; omega), List.length_append, ha, show 36 + k - ([86, 79, 84, 69].length + 32) = k from by show 36 + k - (4 + 32) = k; omega]
set_option maxRecDepth 100000 in
set_option maxHeartbeats 4000000 in
theorem vtexts_t (a l : List Nat) (n1 : Int) (w : World) (ha : a.length = 32) (hl : l.length = 32) (hi : KI w) (hk : KAt w) :
    Calls Tryz.prog 4 #[.agg (u8s a).toArray, .int .i64 n1, .agg (u8s l).toArray] w fun e w' => e = .returned (.bool true) ∧ Below w.heap.size w w' := by
  have A0 := Lib.hid (show VT w ((w.alloc (.cells (u8s a).toArray 23)).alloc (.cells (u8s l).toArray 23)) a l from
    ⟨(Blk.new w 23 (u8s a)).alloc _, Blk.new2 w _ 23 (u8s l), ((Below.refl _ _).alloc (Nat.le_refl _) _).alloc (by simp) _⟩)
  have HI := Lib.hid hi; have HK := Lib.hid hk; have HG := Lib.hid hk.lt
  have ZA := Lib.hid (hash_size a ha); have ZL := Lib.hid (hash_size l hl)
  obtain ⟨q, hq, hqe⟩ := mod_hugeV 1048577 (by decide) (by decide) n1
  have hqe : wrap64 ((IntKind.u64.wrap n1).tmod 1048577) = (q : Int) := hqe
  have TX := Lib.hid (fun (W : World) => vText_t a l q W ha hl (by omega))
  have TL := Lib.hid (textV_len (a := a) (l := l) (q := q) ha hl)
  clear hi hk
  go_enter Tryz.func4, Tryz.ntmps4
  go_upto_region 1 with (fail)
  refine world_at (fun Y => VT w Y a l) A0.out ?_
  rintro V a1
  have A1 := Lib.hid a1
  clear a1 A0
  have GA := Lib.hid A1.out.a; have GB := Lib.hid A1.out.b
  go_wp2_with (first
    | ((with_reducible refine load_blk 23 (.tmp 3) w.heap.size 23 (u8s a) _ rfl rfl ?_ Tryz.underlying23 ?_ ?_ ?_ ?_); exact GA.out; exact rfl; exact ZA.out; exact rfl)
    | ((with_reducible refine load_blk 23 (.tmp 5) (w.heap.size + 1) 23 (u8s l) _ rfl rfl ?_ Tryz.underlying23 ?_ ?_ ?_ ?_); exact GB.out; exact rfl; exact ZL.out; exact rfl))
  refine (TX.out V).mono ?_
  rintro e w3 ⟨u, rfl, fr⟩
  have fr1 := fr.1
  rw [TL.out] at fr1
  obtain ⟨g, c, hu, hc⟩ := own_formTX fr1 (by decide)
  subst hu
  have A2 := Lib.hid (A1.out.below fr.2)
  have O2 := Lib.hid fr1
  have HC := Lib.hid hc
  clear fr fr1 hc A1 GA GB TX hqe
  go_upto_region 3 with (fail)
  obtain ⟨X, hX⟩ : ∃ X, textV a q l = X := ⟨_, rfl⟩
  have X4 := Lib.hid (show X.take 4 = [86, 79, 84, 69] from by rw [← hX]; exact textV_take a l q)
  have XM := Lib.hid (show (X.take 36).drop 4 = a from by rw [← hX]; exact textV_mid ha)
  have XE := Lib.hid (show X.drop 40 = l from by rw [← hX]; exact textV_end ha)
  have XN := Lib.hid (fun k (hk : k < 4) => show gt X (36 + k) = gt (beN q 4) k from by rw [← hX]; exact textV_num ha k hk)
  rw [hX] at O2 TL
  have sl1 : ∀ W, (Instr.slice 24 (.slice (some ⟨g, 0, none⟩) 72 c) none (some (.int .i64 4)) none).run Tryz.prog W = .ok (.slice (some ⟨g, 0, none⟩) 4 c) W := slice_high (P := Tryz.prog) (t := 24) (e := 5) Tryz.underlying24 byte_size (some ⟨g, 0, none⟩) 72 c .i64 4 (by have := HC.out; omega)
  have sl2 : ∀ W, (Instr.slice 24 (.slice (some ⟨g, 0, none⟩) 72 c) (some (.int .i64 4)) (some (.int .i64 36)) none).run Tryz.prog W = .ok (.slice (some ⟨g, 4, none⟩) 32 (c - 4)) W := slice_midV (P := Tryz.prog) (t := 24) (e := 5) Tryz.underlying24 byte_size g 72 c 4 36 (by decide) (by have := HC.out; omega) (by have := HC.out; omega)
  obtain ⟨p3, hp3, hs3⟩ := slice_low (P := Tryz.prog) (t := 24) (e := 5) Tryz.underlying24 byte_size (some ⟨g, 0, none⟩) 72 c .i64 40 (by decide) HC.out
  have hp3' : p3 = some ⟨g, 40, none⟩ := by have := hp3 (by decide) g 0 rfl; simpa using this
  subst hp3'
  have sl3 : ∀ W, (Instr.slice 24 (.slice (some ⟨g, 0, none⟩) 72 c) (some (.int .i64 40)) none none).run Tryz.prog W = .ok (.slice (some ⟨g, 40, none⟩) 32 (c - 40)) W := hs3
  clear hs3 hp3
  obtain ⟨U, hU⟩ : ∃ U, w3.drew = U := ⟨_, rfl⟩
  have AU := Lib.hid (A2.out.below (show Below w3.heap.size w3 U from by rw [← hU]; exact (Below.refl _ _).drew))
  have OU := Lib.hid (own_below O2.out (show Below w3.heap.size w3 U from by rw [← hU]; exact (Below.refl _ _).drew))
  obtain ⟨sa, hsa⟩ : ∃ t, str a = t := ⟨_, rfl⟩
  obtain ⟨sl, hsl⟩ : ∃ t, str l = t := ⟨_, rfl⟩
  have K1 := Lib.hid (fun (W : World) (h : Sr W (some ⟨g, 0, none⟩) X) => show (convert 24 9 (.slice (some ⟨g, 0, none⟩) 4 c)).run Tryz.prog W = .ok (.string { data := #[86, 79, 84, 69] }) W from
    Sr.conv (xs := [86, 79, 84, 69]) (by rw [← X4.out]; exact h.take 4) rfl c)
  have K2 := Lib.hid (fun (W : World) (h : Sr W (some ⟨g, 0, none⟩) X) => show (convert 24 9 (.slice (some ⟨g, 4, none⟩) 32 (c - 4))).run Tryz.prog W = .ok (.string sa) W from by
    rw [← hsa]
    exact Sr.conv (xs := a) (by rw [← XM.out]; exact (h.take 36).drop (fun _ g' o' h => by injection h with h; injection h with h1 h2; subst h1; subst h2; rfl)) ha (c - 4))
  have K3 := Lib.hid (fun (W : World) (h : Sr W (some ⟨g, 0, none⟩) X) => show (convert 24 9 (.slice (some ⟨g, 40, none⟩) 32 (c - 40))).run Tryz.prog W = .ok (.string sl) W from by
    rw [← hsl]
    exact Sr.conv (xs := l) (by rw [← XE.out]; exact h.drop (fun _ g' o' h => by injection h with h; injection h with h1 h2; subst h1; subst h2; rfl)) hl (c - 40))
  have K4 := Lib.hid (fun (W : World) (h : Blk W w.heap.size 23 (u8s a)) => show (convert 24 9 (.slice (some ⟨w.heap.size, 0, none⟩) 32 32)).run Tryz.prog W = .ok (.string sa) W from by
    rw [← hsa]
    exact (sr_blkV h).conv ha 32)
  have K5 := Lib.hid (fun (W : World) (h : Blk W (w.heap.size + 1) 23 (u8s l)) => show (convert 24 9 (.slice (some ⟨w.heap.size + 1, 0, none⟩) 32 32)).run Tryz.prog W = .ok (.string sl) W from by
    rw [← hsl]
    exact (sr_blkV h).conv hl 32)
  clear hsa hsl hX A2 O2
  have SS := Lib.hid (fun (W : World) (h1 : VT w W a l) (h2 : W.ownsRow V.heap.size 5 1 (.slice (some ⟨g, 0, none⟩) 72 c) 72 (u8s X)) => show Sr W (some ⟨g, 0, none⟩) X ∧ Blk W w.heap.size 23 (u8s a) ∧ Blk W (w.heap.size + 1) 23 (u8s l) from ⟨Sr.of_own h2, h1.a, h1.b⟩)
  refine wp_region_held (S := fun Y => Sr Y (some ⟨g, 0, none⟩) X ∧ Blk Y w.heap.size 23 (u8s a) ∧ Blk Y (w.heap.size + 1) 23 (u8s l)) (by kernel_rfl) ?_
  change wpAnyH _ _ _ _ _ _ _ _ w3.drew
  rw [hU]
  clear hU
  have s0 := SS.out U AU.out OU.out
  refine wpAnyH_take (i := 0) (v := ?_) rfl (by kernel_rfl) (by kernel_rfl) (by kernel_rfl) (fun _ _ _ h => h) (Or.inl ⟨by kernel_rfl, ?_⟩) s0 ?_
  rotate_left 1
  · (intro w hS; clear hS; go_simp; try (with_reducible rfl))
  refine wpAnyH_take (i := 1) (v := ?_) rfl (by kernel_rfl) (by kernel_rfl) (by kernel_rfl) (fun _ _ _ h => h) (Or.inl ⟨by kernel_rfl, ?_⟩) s0 ?_
  rotate_left 1
  · (intro w hS; clear hS; go_simp; try (with_reducible rfl))
  refine wpAnyH_take (i := 2) (v := ?_) rfl (by kernel_rfl) (by kernel_rfl) (by kernel_rfl) (fun _ _ _ h => h) (Or.inl ⟨by kernel_rfl, ?_⟩) s0 ?_
  rotate_left 1
  · (intro w hS; clear hS; go_simp; try (with_reducible rfl))
  refine wpAnyH_take (i := 3) (v := ?_) rfl (by kernel_rfl) (by kernel_rfl) (by kernel_rfl) (fun _ _ _ h => h) (Or.inl ⟨by kernel_rfl, ?_⟩) s0 ?_
  rotate_left 1
  · (intro w hS; clear hS; go_simp; try (with_reducible rfl))
  refine wpAnyH_take (i := 4) (v := ?_) rfl (by kernel_rfl) (by kernel_rfl) (by kernel_rfl) (fun _ _ _ h => h) (Or.inl ⟨by kernel_rfl, ?_⟩) s0 ?_
  rotate_left 1
  · (intro w hS; clear hS; go_simp; try (with_reducible rfl))
  refine wpAnyH_take (i := 5) (v := ?_) rfl (by kernel_rfl) (by kernel_rfl) (by kernel_rfl) (fun _ _ _ h => h) (Or.inl ⟨by kernel_rfl, ?_⟩) s0 ?_
  rotate_left 1
  · (intro w hS; clear hS; go_simp; try (with_reducible rfl))
  refine wpAnyH_take (i := 6) (v := ?_) rfl (by kernel_rfl) (by kernel_rfl) (by kernel_rfl) (fun _ _ _ h => h) (Or.inl ⟨by kernel_rfl, ?_⟩) s0 ?_
  rotate_left 1
  · (intro w hS; have hs := K1.out _ hS.1; clear hS; go_simp; try (with_reducible rfl))
  refine wpAnyH_take (i := 7) (v := ?_) rfl (by kernel_rfl) (by kernel_rfl) (by kernel_rfl) (fun _ _ _ h => h) (Or.inl ⟨by kernel_rfl, ?_⟩) s0 ?_
  rotate_left 1
  · (intro w hS; clear hS; go_simp; try (with_reducible rfl))
  refine wpAnyH_take (i := 8) (v := ?_) rfl (by kernel_rfl) (by kernel_rfl) (by kernel_rfl) (fun _ _ _ h => h) (Or.inl ⟨by kernel_rfl, ?_⟩) s0 ?_
  rotate_left 1
  · (intro w hS; clear hS; go_simp; try (with_reducible rfl))
  refine wpAnyH_take (i := 9) (v := ?_) rfl (by kernel_rfl) (by kernel_rfl) (by kernel_rfl) (fun _ _ _ h => h) (Or.inl ⟨by kernel_rfl, ?_⟩) s0 ?_
  rotate_left 1
  · (intro w hS; clear hS; go_simp; try (with_reducible rfl))
  refine wpAnyH_take (i := 10) (v := ?_) rfl (by kernel_rfl) (by kernel_rfl) (by kernel_rfl) (fun _ _ _ h => h) (Or.inl ⟨by kernel_rfl, ?_⟩) s0 ?_
  rotate_left 1
  · (intro w hS; clear hS; go_simp; try (with_reducible rfl))
  refine wpAnyH_take (i := 11) (v := ?_) rfl (by kernel_rfl) (by kernel_rfl) (by kernel_rfl) (fun _ _ _ h => h) (Or.inl ⟨by kernel_rfl, ?_⟩) s0 ?_
  rotate_left 1
  · (intro w hS; clear hS; go_simp; try (with_reducible rfl))
  refine wpAnyH_take (i := 12) (v := ?_) rfl (by kernel_rfl) (by kernel_rfl) (by kernel_rfl) (fun _ _ _ h => h) (Or.inl ⟨by kernel_rfl, ?_⟩) s0 ?_
  rotate_left 1
  · (intro w hS; have hs := K2.out _ hS.1; clear hS; go_simp; try (with_reducible rfl))
  refine wpAnyH_take (i := 13) (v := ?_) rfl (by kernel_rfl) (by kernel_rfl) (by kernel_rfl) (fun _ _ _ h => h) (Or.inl ⟨by kernel_rfl, ?_⟩) s0 ?_
  rotate_left 1
  · (intro w hS; clear hS; go_simp; try (with_reducible rfl))
  refine wpAnyH_take (i := 14) (v := ?_) rfl (by kernel_rfl) (by kernel_rfl) (by kernel_rfl) (fun _ _ _ h => h) (Or.inl ⟨by kernel_rfl, ?_⟩) s0 ?_
  rotate_left 1
  · (intro w hS; have hs := K4.out _ hS.2.1; clear hS; go_simp; try (with_reducible rfl))
  refine wpAnyH_take (i := 15) (v := ?_) rfl (by kernel_rfl) (by kernel_rfl) (by kernel_rfl) (fun _ _ _ h => h) (Or.inl ⟨by kernel_rfl, ?_⟩) s0 ?_
  rotate_left 1
  · (intro w hS; clear hS; go_simp; try (with_reducible rfl))
  refine wpAnyH_take (i := 16) (v := ?_) rfl (by kernel_rfl) (by kernel_rfl) (by kernel_rfl) (fun _ _ _ h => h) (Or.inl ⟨by kernel_rfl, ?_⟩) s0 ?_
  rotate_left 1
  · (intro w hS; clear hS; go_simp; try (with_reducible rfl))
  refine wpAnyH_take (i := 17) (v := ?_) rfl (by kernel_rfl) (by kernel_rfl) (by kernel_rfl) (fun _ _ _ h => h) (Or.inl ⟨by kernel_rfl, ?_⟩) s0 ?_
  rotate_left 1
  · (intro w hS; clear hS; go_simp; try (with_reducible rfl))
  refine wpAnyH_take (i := 18) (v := ?_) rfl (by kernel_rfl) (by kernel_rfl) (by kernel_rfl) (fun _ _ _ h => h) (Or.inl ⟨by kernel_rfl, ?_⟩) s0 ?_
  rotate_left 1
  · (intro w hS; clear hS; go_simp; try (with_reducible rfl))
  refine wpAnyH_take (i := 19) (v := ?_) rfl (by kernel_rfl) (by kernel_rfl) (by kernel_rfl) (fun _ _ _ h => h) (Or.inl ⟨by kernel_rfl, ?_⟩) s0 ?_
  rotate_left 1
  · (intro w hS; clear hS; go_simp; try (with_reducible rfl))
  refine wpAnyH_take (i := 20) (v := ?_) rfl (by kernel_rfl) (by kernel_rfl) (by kernel_rfl) (fun _ _ _ h => h) (Or.inl ⟨by kernel_rfl, ?_⟩) s0 ?_
  rotate_left 1
  · (intro w hS; have hs := K3.out _ hS.1; clear hS; go_simp; try (with_reducible rfl))
  refine wpAnyH_take (i := 21) (v := ?_) rfl (by kernel_rfl) (by kernel_rfl) (by kernel_rfl) (fun _ _ _ h => h) (Or.inl ⟨by kernel_rfl, ?_⟩) s0 ?_
  rotate_left 1
  · (intro w hS; clear hS; go_simp; try (with_reducible rfl))
  refine wpAnyH_take (i := 22) (v := ?_) rfl (by kernel_rfl) (by kernel_rfl) (by kernel_rfl) (fun _ _ _ h => h) (Or.inl ⟨by kernel_rfl, ?_⟩) s0 ?_
  rotate_left 1
  · (intro w hS; have hs := K5.out _ hS.2.2; clear hS; go_simp; try (with_reducible rfl))
  refine wpAnyH_take (i := 23) (v := ?_) rfl (by kernel_rfl) (by kernel_rfl) (by kernel_rfl) (fun _ _ _ h => h) (Or.inl ⟨by kernel_rfl, ?_⟩) s0 ?_
  rotate_left 1
  · (intro w hS; clear hS; go_simp; try (with_reducible rfl))
  refine wpAnyH_take (i := 24) (v := ?_) rfl (by kernel_rfl) (by kernel_rfl) (by kernel_rfl) (fun _ _ _ h => h) (Or.inl ⟨by kernel_rfl, ?_⟩) s0 ?_
  rotate_left 1
  · (intro w hS; clear hS; go_simp; try (with_reducible rfl))
  refine wpAnyH_done (by kernel_rfl) ?_ _
  go_simp
  clear s0 sl1 sl2 sl3 K1 K2 K3 K4 K5
  go_upto_region 5 with (fail)
  obtain ⟨b0, hb0⟩ : ∃ b, q / 16777216 = b := ⟨_, rfl⟩
  obtain ⟨b1, hb1⟩ : ∃ b, q / 65536 % 256 = b := ⟨_, rfl⟩
  obtain ⟨b2, hb2⟩ : ∃ b, q / 256 % 256 = b := ⟨_, rfl⟩
  obtain ⟨b3, hb3⟩ : ∃ b, q % 256 = b := ⟨_, rfl⟩
  have BE := Lib.hid (show gt X 36 = b0 ∧ gt X 37 = b1 ∧ gt X 38 = b2 ∧ gt X 39 = b3 from by
    have h := be4 q (by omega)
    rw [hb0, hb1, hb2, hb3] at h
    refine ⟨?_, ?_, ?_, ?_⟩
    · rw [XN.out 0 (by decide), h]; rfl
    · rw [XN.out 1 (by decide), h]; rfl
    · rw [XN.out 2 (by decide), h]; rfl
    · rw [XN.out 3 (by decide), h]; rfl)
  have HB := Lib.hid (show b0 ≤ 16 ∧ b1 < 256 ∧ b2 < 256 ∧ b3 < 256 ∧ (b0 : Int) * 16777216 + (b1 : Int) * 65536 + (b2 : Int) * 256 + (b3 : Int) = (q : Int) from by omega)
  obtain ⟨U2, hU⟩ : ∃ Y, U.drew = Y := ⟨_, rfl⟩
  have AU2 := Lib.hid (AU.out.below (show Below U.heap.size U U2 from by rw [← hU]; exact (Below.refl _ _).drew))
  have OU2 := Lib.hid (own_below OU.out (show Below U.heap.size U U2 from by rw [← hU]; exact (Below.refl _ _).drew))
  have CL := Lib.hid (fun (W : World) (h : W.ownsRow V.heap.size 5 1 (.slice (some ⟨g, 0, none⟩) 72 c) 72 (u8s X)) => show W.cell? ⟨g, 36, none⟩ = some (.int .u8 (b0 : Int)) ∧ W.cell? ⟨g, 37, none⟩ = some (.int .u8 (b1 : Int)) ∧ W.cell? ⟨g, 38, none⟩ = some (.int .u8 (b2 : Int)) ∧ W.cell? ⟨g, 39, none⟩ = some (.int .u8 (b3 : Int)) from by
    have k : ∀ j, j < 72 → W.cell? ⟨g, j, none⟩ = some (.int .u8 ((gt X j : Nat) : Int)) := fun j hj => by rw [h.cellAt j hj, u8s_get _ _ (by rw [TL.out]; exact hj)]
    obtain ⟨e0, e1, e2, e3⟩ := BE.out
    exact ⟨by rw [k 36 (by decide), e0], by rw [k 37 (by decide), e1], by rw [k 38 (by decide), e2], by rw [k 39 (by decide), e3]⟩)
  have TD := Lib.hid (told13_t U2 (HI.out.kept AU2.out.bel) (HK.out.below AU2.out.bel HG.out))
  clear hb0 hb1 hb2 hb3 BE XN AU OU SS
  refine wp_region_held (S := fun W => W.cell? ⟨g, 36, none⟩ = some (.int .u8 (b0 : Int)) ∧ W.cell? ⟨g, 37, none⟩ = some (.int .u8 (b1 : Int)) ∧ W.cell? ⟨g, 38, none⟩ = some (.int .u8 (b2 : Int)) ∧ W.cell? ⟨g, 39, none⟩ = some (.int .u8 (b3 : Int))) (by kernel_rfl) ?_
  change wpAnyH _ _ _ _ _ _ _ _ U.drew
  rw [hU]
  clear hU
  refine wpAnyH_ready (rs := [0]) (by kernel_rfl) (by simp) ?_
  refine AllReadyH.cons rfl (fun K hK => ?_) AllReadyH.nil
  rw [if_pos (by kernel_rfl)]
  go_simp
  refine TD.out.mono ?_
  rintro e w8 ⟨rfl, b8⟩
  have A8 := Lib.hid (AU2.out.below b8)
  have s0 := CL.out w8 (own_below OU2.out b8)
  refine hK.out _ _ s0 (fun _ => ?_)
  clear hK K b8 TD AU2 OU2
  obtain ⟨p0, p1, p2, p3, pq⟩ := HB.out
  refine wpAnyH_take (i := 1) (v := ?_) rfl (by kernel_rfl) (by kernel_rfl) (by kernel_rfl) (fun _ _ _ h => h) (Or.inl ⟨by kernel_rfl, ?_⟩) s0 ?_
  rotate_left 1
  · (intro w hS; clear hS; go_simp; try (with_reducible rfl))
  refine wpAnyH_take (i := 2) (v := ?_) rfl (by kernel_rfl) (by kernel_rfl) (by kernel_rfl) (fun _ _ _ h => h) (Or.inl ⟨by kernel_rfl, ?_⟩) s0 ?_
  rotate_left 1
  · (intro w hS; clear hS; go_simp; try (with_reducible rfl))
  refine wpAnyH_take (i := 3) (v := ?_) rfl (by kernel_rfl) (by kernel_rfl) (by kernel_rfl) (fun _ _ _ h => h) (Or.inl ⟨by kernel_rfl, ?_⟩) s0 ?_
  rotate_left 1
  · (intro w hS; clear hS; go_simp; try (with_reducible rfl))
  refine wpAnyH_take (i := 4) (v := ?_) rfl (by kernel_rfl) (by kernel_rfl) (by kernel_rfl) (fun _ _ _ h => h) (Or.inl ⟨by kernel_rfl, ?_⟩) s0 ?_
  rotate_left 1
  · (intro w hS; have hs := hS.1; clear hS; go_simp; try (with_reducible rfl))
  refine wpAnyH_take (i := 5) (v := ?_) rfl (by kernel_rfl) (by kernel_rfl) (by kernel_rfl) (fun _ _ _ h => h) (Or.inl ⟨by kernel_rfl, ?_⟩) s0 ?_
  rotate_left 1
  · (intro w hS; clear hS; go_simp; try (with_reducible rfl))
  refine wpAnyH_take (i := 6) (v := ?_) rfl (by kernel_rfl) (by kernel_rfl) (by kernel_rfl) (fun _ _ _ h => h) (Or.inl ⟨by kernel_rfl, ?_⟩) s0 ?_
  rotate_left 1
  · (intro w hS; clear hS; go_simp; try (with_reducible rfl))
  refine wpAnyH_take (i := 7) (v := ?_) rfl (by kernel_rfl) (by kernel_rfl) (by kernel_rfl) (fun _ _ _ h => h) (Or.inl ⟨by kernel_rfl, ?_⟩) s0 ?_
  rotate_left 1
  · (intro w hS; clear hS; go_simp; try (with_reducible rfl))
  refine wpAnyH_take (i := 8) (v := ?_) rfl (by kernel_rfl) (by kernel_rfl) (by kernel_rfl) (fun _ _ _ h => h) (Or.inl ⟨by kernel_rfl, ?_⟩) s0 ?_
  rotate_left 1
  · (intro w hS; clear hS; go_simp; try (with_reducible rfl))
  refine wpAnyH_take (i := 9) (v := ?_) rfl (by kernel_rfl) (by kernel_rfl) (by kernel_rfl) (fun _ _ _ h => h) (Or.inl ⟨by kernel_rfl, ?_⟩) s0 ?_
  rotate_left 1
  · (intro w hS; have hs := hS.2.1; clear hS; go_simp; try (with_reducible rfl))
  refine wpAnyH_take (i := 10) (v := ?_) rfl (by kernel_rfl) (by kernel_rfl) (by kernel_rfl) (fun _ _ _ h => h) (Or.inl ⟨by kernel_rfl, ?_⟩) s0 ?_
  rotate_left 1
  · (intro w hS; clear hS; go_simp; try (with_reducible rfl))
  refine wpAnyH_take (i := 11) (v := ?_) rfl (by kernel_rfl) (by kernel_rfl) (by kernel_rfl) (fun _ _ _ h => h) (Or.inl ⟨by kernel_rfl, ?_⟩) s0 ?_
  rotate_left 1
  · (intro w hS; clear hS; go_simp; try (with_reducible rfl))
  refine wpAnyH_take (i := 12) (v := ?_) rfl (by kernel_rfl) (by kernel_rfl) (by kernel_rfl) (fun _ _ _ h => h) (Or.inl ⟨by kernel_rfl, ?_⟩) s0 ?_
  rotate_left 1
  · (intro w hS; clear hS; go_simp; try (with_reducible rfl))
  refine wpAnyH_take (i := 13) (v := ?_) rfl (by kernel_rfl) (by kernel_rfl) (by kernel_rfl) (fun _ _ _ h => h) (Or.inl ⟨by kernel_rfl, ?_⟩) s0 ?_
  rotate_left 1
  · (intro w hS; clear hS; go_simp; try (with_reducible rfl))
  refine wpAnyH_take (i := 14) (v := ?_) rfl (by kernel_rfl) (by kernel_rfl) (by kernel_rfl) (fun _ _ _ h => h) (Or.inl ⟨by kernel_rfl, ?_⟩) s0 ?_
  rotate_left 1
  · (intro w hS; clear hS; go_simp; try (with_reducible rfl))
  refine wpAnyH_take (i := 15) (v := ?_) rfl (by kernel_rfl) (by kernel_rfl) (by kernel_rfl) (fun _ _ _ h => h) (Or.inl ⟨by kernel_rfl, ?_⟩) s0 ?_
  rotate_left 1
  · (intro w hS; have hs := hS.2.2.1; clear hS; go_simp; try (with_reducible rfl))
  refine wpAnyH_take (i := 16) (v := ?_) rfl (by kernel_rfl) (by kernel_rfl) (by kernel_rfl) (fun _ _ _ h => h) (Or.inl ⟨by kernel_rfl, ?_⟩) s0 ?_
  rotate_left 1
  · (intro w hS; clear hS; go_simp; try (with_reducible rfl))
  refine wpAnyH_take (i := 17) (v := ?_) rfl (by kernel_rfl) (by kernel_rfl) (by kernel_rfl) (fun _ _ _ h => h) (Or.inl ⟨by kernel_rfl, ?_⟩) s0 ?_
  rotate_left 1
  · (intro w hS; clear hS; go_simp; try (with_reducible rfl))
  refine wpAnyH_take (i := 18) (v := ?_) rfl (by kernel_rfl) (by kernel_rfl) (by kernel_rfl) (fun _ _ _ h => h) (Or.inl ⟨by kernel_rfl, ?_⟩) s0 ?_
  rotate_left 1
  · (intro w hS; clear hS; go_simp; try (with_reducible rfl))
  refine wpAnyH_take (i := 19) (v := ?_) rfl (by kernel_rfl) (by kernel_rfl) (by kernel_rfl) (fun _ _ _ h => h) (Or.inl ⟨by kernel_rfl, ?_⟩) s0 ?_
  rotate_left 1
  · (intro w hS; clear hS; go_simp; try (with_reducible rfl))
  refine wpAnyH_take (i := 20) (v := ?_) rfl (by kernel_rfl) (by kernel_rfl) (by kernel_rfl) (fun _ _ _ h => h) (Or.inl ⟨by kernel_rfl, ?_⟩) s0 ?_
  rotate_left 1
  · (intro w hS; clear hS; go_simp; try (with_reducible rfl))
  refine wpAnyH_take (i := 21) (v := ?_) rfl (by kernel_rfl) (by kernel_rfl) (by kernel_rfl) (fun _ _ _ h => h) (Or.inl ⟨by kernel_rfl, ?_⟩) s0 ?_
  rotate_left 1
  · (intro w hS; have hs := hS.2.2.2; clear hS; go_simp; try (with_reducible rfl))
  refine wpAnyH_take (i := 22) (v := ?_) rfl (by kernel_rfl) (by kernel_rfl) (by kernel_rfl) (fun _ _ _ h => h) (Or.inl ⟨by kernel_rfl, ?_⟩) s0 ?_
  rotate_left 1
  · (intro w hS; clear hS; go_simp; try (with_reducible rfl))
  refine wpAnyH_take (i := 23) (v := ?_) rfl (by kernel_rfl) (by kernel_rfl) (by kernel_rfl) (fun _ _ _ h => h) (Or.inl ⟨by kernel_rfl, ?_⟩) s0 ?_
  rotate_left 1
  · (intro w hS; clear hS; go_simp; try (with_reducible rfl))
  refine wpAnyH_take (i := 24) (v := ?_) rfl (by kernel_rfl) (by kernel_rfl) (by kernel_rfl) (fun _ _ _ h => h) (Or.inl ⟨by kernel_rfl, ?_⟩) s0 ?_
  rotate_left 1
  · (intro w hS; clear hS; go_simp; try (with_reducible rfl))
  refine wpAnyH_take (i := 25) (v := ?_) rfl (by kernel_rfl) (by kernel_rfl) (by kernel_rfl) (fun _ _ _ h => h) (Or.inl ⟨by kernel_rfl, ?_⟩) s0 ?_
  rotate_left 1
  · (intro w hS; clear hS; go_simp; try (with_reducible rfl))
  refine wpAnyH_take (i := 26) (v := ?_) rfl (by kernel_rfl) (by kernel_rfl) (by kernel_rfl) (fun _ _ _ h => h) (Or.inl ⟨by kernel_rfl, ?_⟩) s0 ?_
  rotate_left 1
  · (intro w hS; clear hS; go_simp; try (with_reducible rfl))
  refine wpAnyH_take (i := 27) (v := ?_) rfl (by kernel_rfl) (by kernel_rfl) (by kernel_rfl) (fun _ _ _ h => h) (Or.inl ⟨by kernel_rfl, ?_⟩) s0 ?_
  rotate_left 1
  · (intro w hS; clear hS; go_simp; try (with_reducible rfl))
  refine wpAnyH_done (by kernel_rfl) ?_ _
  go_simp
  go_wp2_with fail
  go_ret
  refine ⟨?_, A8.out.bel⟩
  have i : ∀ z : Int, -9223372036854775808 ≤ z → z ≤ 9223372036854775807 → IntKind.i64.wrap z = z := fun z h1 h2 => IntWalk.i64_in z (by omega)
  have e : (IntKind.i64.wrap (IntKind.i64.wrap (IntKind.i64.wrap (IntKind.i64.wrap (IntKind.i64.wrap (b0 : Int) * 16777216) + IntKind.i64.wrap (IntKind.i64.wrap (b1 : Int) * 65536)) + IntKind.i64.wrap (IntKind.i64.wrap (b2 : Int) * 256)) + IntKind.i64.wrap (b3 : Int)) == (q : Int)) = true := by
    rw [i (b0 : Int) (by omega) (by omega), i (b1 : Int) (by omega) (by omega), i (b2 : Int) (by omega) (by omega), i (b3 : Int) (by omega) (by omega), i ((b0 : Int) * 16777216) (by omega) (by omega), i ((b1 : Int) * 65536) (by omega) (by omega), i ((b2 : Int) * 256) (by omega) (by omega), i ((b0 : Int) * 16777216 + (b1 : Int) * 65536) (by omega) (by omega), i ((b0 : Int) * 16777216 + (b1 : Int) * 65536 + (b2 : Int) * 256) (by omega) (by omega), i _ (by omega) (by omega), pq]
    exact beq_self_eq_true _
  exact congrArg (fun z => Ending.returned (Value.bool z)) e
end Go.Proofs.YtlipjglehongeabGreatDoor
