/-
  A disk that the call made; told of layer 16.
-/
import Derived.Test.YtgaiheaibejloaaDkF
import Derived.Test.YtgaiheaibejloaaDkG
import Derived.Lib.SlBytesConst
namespace Go.Proofs.Ytgaiheaibejloaa
open Go Go.RowKit Go.Maps Go.ChangeMaps Go.MapKept Sh

/-- A disk that was made since w0. -/
structure DW (w0 w : World) (g bs bm k n : Nat) (S : Nat → List Nat) (M : Nat → Option (List Nat)) : Prop where
  dk : DK w g bs bm k n S M
  g0 : w0.heap.size ≤ g
  s0 : w0.heap.size ≤ bs
  m0 : w0.heap.size ≤ bm
  bel : Below w0.heap.size w0 w
section
variable {w0 w w' : World} {g bs bm k n : Nat} {S : Nat → List Nat} {M : Nat → Option (List Nat)}
theorem DW.below (h : DW w0 w g bs bm k n S M) (hb : Below w.heap.size w w') : DW w0 w' g bs bm k n S M :=
  ⟨h.dk.below hb, h.g0, h.s0, h.m0, h.bel.trans (hb.mono h.bel.size)⟩
theorem DW.move {n' : Nat} {S' : Nat → List Nat} {M' : Nat → Option (List Nat)} (h : DW w0 w g bs bm k n S M) (hd : DK w' g bs bm k n' S' M') (hk : Kept (fun b => b = bs ∨ b = bm) w w') : DW w0 w' g bs bm k n' S' M' :=
  ⟨hd, h.g0, h.s0, h.m0, h.bel.trans ⟨hk.os, hk.tape, hk.output, hk.size, fun i hi => hk.block i (Nat.lt_of_lt_of_le hi h.bel.size) (fun e => by have := h.s0; have := h.m0; rcases e with e | e <;> omega)⟩⟩
theorem wNew (k : Nat) (hk : k ≤ 4096) (hb : Below w0.heap.size w0 w) : Calls Try.prog 7 #[.int .i64 (k : Int)] w fun e w' => ∃ g bs bm, e = .returned (.tuple #[.pointer (some ⟨g, 0, none⟩), .int .i64 0]) ∧ DW w0 w' g bs bm k 0 (fun _ => zeroL) (fun _ => none) ∧ Below w.heap.size w w' ∧ w.heap.size ≤ g ∧ w.heap.size ≤ bs ∧ w.heap.size ≤ bm := by
  refine (dNew_t k hk w).mono ?_
  rintro e w' ⟨g, bs, bm, rfl, d, h1, h2, h3, b⟩
  have := hb.size
  exact ⟨g, bs, bm, rfl, ⟨d, by omega, by omega, by omega, hb.trans (b.mono hb.size)⟩, b, h3, h1, h2⟩
theorem wWrite (j : Nat) (A : Option Addr) (q c : Nat) (xs : List Nat) (hj : j < k) (hq : q ≤ 64) (hx : xs.length = q) (hs : Sr w A xs) (hb : Bytes xs) (hn : n < 1000) (h : DW w0 w g bs bm k n S M) : Calls Try.prog 8 #[.pointer (some ⟨g, 0, none⟩), .int .i64 (j : Int), .slice A q c] w fun e w' => e = .returned (.int .i64 0) ∧ DW w0 w' g bs bm k (n + 1) S (upd M j (some (pad xs))) ∧ Kept (fun b => b = bs ∨ b = bm) w w' := by
  refine (dWrite_ok j A q c xs hj hq hx hs hb hn h.dk).mono ?_
  rintro e w' ⟨rfl, d, k'⟩
  have k2 := k'.mono (G := fun b => b = bs ∨ b = bm) (fun _ h => .inr h)
  exact ⟨rfl, h.move d k2, k2⟩
theorem wSync (h : DW w0 w g bs bm k n S M) : Calls Try.prog 9 #[.pointer (some ⟨g, 0, none⟩)] w fun e w' => e = .returned (.tuple #[]) ∧ DW w0 w' g bs bm k 0 (isS S M) (fun _ => none) ∧ Kept (fun b => b = bs ∨ b = bm) w w' := by
  refine (dSync_t h.dk).mono ?_
  rintro e w' ⟨rfl, d, k'⟩
  exact ⟨rfl, h.move d k', k'⟩
theorem wCrash (A : Option Addr) (q c : Nat) (L : Nat → Int) (x m : Int) (hA : InN w A q L bs) (hq : q ≤ 50) (hx : InI x) (h : DW w0 w g bs bm k n S M) : Calls Try.prog 11 #[.pointer (some ⟨g, 0, none⟩), .slice A q c, .int .i64 x, .int .i64 m] w fun e w' => e = .returned (.tuple #[]) ∧ DW w0 w' g bs bm k 0 (crS S M (keepB L q) x (clampN m)) (fun _ => none) ∧ Kept (fun b => b = bs ∨ b = bm) w w' := by
  refine (dCrash_t A q c L x m hA hq hx h.dk).mono ?_
  rintro e w' ⟨rfl, d, k'⟩
  exact ⟨rfl, h.move d k', k'⟩
theorem DW.farSet {x : Nat} (h : DW w0 w g bs bm k n S M) (h1 : g ≠ x) (h2 : bs ≠ x) (h3 : bm ≠ x) (h0 : w0.heap.size ≤ x) (i : Nat) (u : Value) : DW w0 (w.setCell ⟨x, i, none⟩ u) g bs bm k n S M :=
  ⟨h.dk.kept (F := fun q => q = x) (Kept.setCell (F := fun q => q = x) (Kept.refl _ w) (p := ⟨x, i, none⟩) (.inl rfl) u) h1 h2 h3, h.g0, h.s0, h.m0, h.bel.setCell (p := ⟨x, i, none⟩) h0 u⟩
theorem dlN_one (X : List Nat) (j : Nat) : ∀ k, j < k → dlN (upd (fun _ => none) j (some X)) k = [j]
  | 0, h => absurd h (Nat.not_lt_zero _)
  | k + 1, h => by
    unfold dlN
    rw [List.range_succ, List.filter_append]
    rcases Nat.lt_or_ge j k with hj | hj
    · have h1 := dlN_one X j k hj
      unfold dlN at h1
      rw [h1]
      have : (upd (fun _ : Nat => (none : Option (List Nat))) j (some X) k).isSome = false := by rw [upd_other _ _ (by omega)]; rfl
      simp [this]
    · obtain rfl : j = k := by omega
      have h1 : (List.range j).filter (fun i => (upd (fun _ : Nat => (none : Option (List Nat))) j (some X) i).isSome) = [] := by
        rw [List.filter_eq_nil_iff]
        intro i hi
        have := List.mem_range.1 hi
        rw [upd_other _ _ (by omega)]
        simp
      rw [h1]
      simp [upd_same]
theorem pad_full {l : List Nat} (h : l.length = 64) : pad l = l := by unfold pad; rw [h, Nat.sub_self]; simp
/-- A row that is filled from the front. -/
def fillL (i a : Nat) : List Nat := List.replicate i a ++ List.replicate (64 - i) 0
theorem fillL_length {i : Nat} (a : Nat) (h : i ≤ 64) : (fillL i a).length = 64 := by simp [fillL]; omega
theorem fillL_set {i : Nat} (a : Nat) (h : i < 64) : (fillL i a).set i a = fillL (i + 1) a := by
  unfold fillL
  rw [List.set_append_right _ _ (by simp), List.length_replicate, Nat.sub_self]
  rw [show 64 - i = (64 - (i + 1)) + 1 by omega, List.replicate_succ, List.set_cons_zero, List.replicate_succ', List.append_assoc]
  rfl
theorem fillL_zero (a : Nat) : fillL 0 a = zeroL := rfl
theorem fillL_full (a : Nat) : fillL 64 a = List.replicate 64 a := by unfold fillL; simp
theorem Blk.sr {t : TypeId} {xs : List Nat} {gg : Nat} (h : Blk w gg t (u8s xs)) : Sr w (some ⟨gg, 0, none⟩) xs := fun _ =>
  ⟨gg, 0, rfl, h.lt, fun j hj => by rw [Nat.zero_add, h.cell, u8s_get _ _ hj]⟩
theorem rep_bytes {a : Nat} (ha : a < 256) (q : Nat) : Bytes (List.replicate q a) := sl_bytes (fun x hx => by rw [List.eq_of_mem_replicate hx]; exact ha)
/-- A block of another type outlives what a disk does. -/
theorem DK.far {gg : Nat} {t : TypeId} {cs : List Value} (h : DK w g bs bm k n S M) (hb : Blk w gg t cs) (ht : t ≠ 54) (hk : Kept (fun b => b = bs ∨ b = bm) w w') : Blk w' gg t cs :=
  hb.kept hk (fun e => e.elim (hb.apart h.s ht) (fun e => h.m.apart hb e.symm))
theorem DM.own_apart {v : Value} {q : Nat} {xs : List Value} {base : Nat} {e : TypeId} {size : Nat} (h : DM w bm n M) (ho : w.ownsRow base e size v q xs) : v.ownBlock ≠ some bm := by
  obtain ⟨D, ⟨es, clock, h1, _⟩, _⟩ := h
  rcases ho.2 with ⟨rfl, _⟩ | ⟨gb, cap, cur, rfl, _, hgb, _⟩
  · simp [Value.ownBlock]
  · intro e
    have : gb = bm := by simpa [Value.ownBlock] using e
    subst this
    rw [hgb] at h1
    cases h1
/-- A row of the call's own outlives what a disk does. -/
theorem DK.own {v : Value} {q : Nat} {xs : List Value} {base : Nat} {e : TypeId} {size : Nat} (h : DK w g bs bm k n S M) (ho : w.ownsRow base e size v q xs) (he : e ≠ 54) (hk : Kept (fun b => b = bs ∨ b = bm) w w') : w'.ownsRow base e size v q xs :=
  own_kept ho hk (fun b hb hf => by
    rcases hf with rfl | rfl
    · exact own_apart ho h.s he hb
    · exact h.m.own_apart ho hb)
theorem own_formD {base : Nat} {e : TypeId} {v : Value} {q : Nat} {xs : List Value} {size : Nat} (h : w.ownsRow base e size v q xs) (hn : 0 < q) : ∃ g c, v = .slice (some ⟨g, 0, none⟩) q c ∧ q ≤ c := by
  rcases h.2 with ⟨_, h0⟩ | ⟨gb, cap, cur, rfl, _, _, h1, _⟩
  · omega
  · exact ⟨gb, cap, rfl, h1⟩
theorem dlN_none (k : Nat) : dlN (fun _ => none) k = [] := by unfold dlN; simp
/-- Dirty where nothing is. -/
theorem wDirty0 (hn : n < 1000) (h : DW w0 w g bs bm k n S (fun _ => none)) : Calls Try.prog 10 #[.pointer (some ⟨g, 0, none⟩)] w fun e w' => ∃ A c, e = .returned (.slice A 0 c) ∧ DW w0 w' g bs bm k n S (fun _ => none) ∧ Below w.heap.size w w' := by
  refine (dDirty_t hn h.dk).mono ?_
  rintro e w' ⟨v, rfl, ho, hb⟩
  rw [dlN_none] at ho
  obtain ⟨A, c, rfl, _⟩ := own_form ho
  exact ⟨A, c, rfl, h.below hb, hb⟩
theorem make_bytes (q : Nat) (hq : q ≤ 1000) (w : World) : (Instr.makeSlice 26 (.int .i64 (q : Int)) (.int .i64 (q : Int))).run Try.prog w = .ok (.slice (some ⟨w.heap.size, 0, none⟩) q q) (w.alloc (.cells (u8s (List.replicate q 0)).toArray 5)) := by
  have h := run_make_row' (P := Try.prog) 26 5 (.int .u8 0) 1 Try.underlying26 byte_info rfl .i64 .i64 q (by omega) (by omega) w
  rw [h]
  have e : u8s (List.replicate q 0) = List.replicate q (Value.int .u8 0) := by simp [u8s]
  rw [e, ← made_same (.int .u8 0) 1 q (by decide)]
  rfl
set_option maxRecDepth 100000 in
set_option maxHeartbeats 4000000 in
theorem dtold_t (w : World) : Calls Try.prog 13 #[] w fun e w' => e = .returned (.bool true) ∧ Below w.heap.size w w' := by
  have NW := Lib.hid (wNew 3 (by decide) (Below.refl w.heap.size w))
  rw [show (((3 : Nat) : Int)) = 3 from rfl] at NW
  have NN := Lib.hid (fun W => dNew_no (-1) (.inl (by decide)) W)
  have kc := fun (w : World) (C : Array Value) (n c : Nat) => Lib.run_convert_bytes_const (P := Try.prog) w 26 5 C n c Try.underlying26 Try.underlying5
  have mk : ∀ W, (Instr.makeSlice 26 (.int .i64 65) (.int .i64 65)).run Try.prog W = .ok (.slice (some ⟨W.heap.size, 0, none⟩) 65 65) (W.alloc (.cells (u8s (List.replicate 65 0)).toArray 5)) := fun W => make_bytes 65 (by decide) W
  obtain ⟨Z, hZ⟩ : ∃ z, List.replicate 65 0 = z := ⟨_, rfl⟩
  simp only [hZ] at mk
  clear hZ
  go_enter Try.func13, Try.ntmps13
  go_upto_region 4 with ((go_at_call 7; refine NW.out.mono ?_; rintro e w1 ⟨g, bs, bm, rfl, d1, _, _, _, _⟩))
  have D1 := Lib.hid d1
  have WR := Lib.hid (wWrite (w := w1.alloc (.cells (u8s [97, 98]).toArray 5 (2, 3))) 1 (some ⟨w1.heap.size, 0, none⟩) 2 2 [97, 98] (by decide) (by decide) rfl (Sr.made _ _ _ _) (sl_bytes (by decide)) (by decide) (d1.below ((Below.refl _ _).alloc (Nat.le_refl _) _)))
  obtain ⟨M1, hM1⟩ : ∃ z, upd (fun _ : Nat => (none : Option (List Nat))) 1 (some (pad [97, 98])) = z := ⟨_, rfl⟩
  rw [hM1] at WR
  clear d1 D1 NW
  go_upto_region 5 with ((go_at_call 8; refine WR.out.mono ?_; rintro e w2 ⟨rfl, d2, _⟩))
  have D2 := Lib.hid d2
  have W3 := Lib.hid (dWrite_none 3 (.slice none 0 0) (by decide) d2.dk)
  clear d2 WR kc
  go_upto_region 6 with ((go_at_call 8; refine W3.out.mono ?_; rintro e w3 ⟨rfl, rfl⟩))
  have D3 := Lib.hid (D2.out.below (w' := w3.alloc (.cells (u8s Z).toArray 5)) ((Below.refl _ _).alloc (Nat.le_refl _) _))
  have W4 := Lib.hid (dWrite_long 0 (some ⟨w3.heap.size, 0, none⟩) 65 65 (by decide) (by decide) (by decide) D3.out.dk)
  clear D2 W3
  go_upto_region 7 with ((go_at_call 8; refine W4.out.mono ?_; rintro e w4 ⟨rfl, rfl⟩))
  clear W4 mk
  obtain ⟨W5, hW5⟩ : ∃ x, w3.alloc (.cells (u8s Z).toArray 5) = x := ⟨_, rfl⟩
  rw [hW5] at D3 ⊢
  have DI := Lib.hid (dDirty_t (by decide) D3.out.dk)
  rw [show (dlN M1 3).length = 1 from by rw [← hM1]; rfl, show dlI M1 3 = [1] from by rw [← hM1]; rfl] at DI
  clear hW5
  go_upto_region 8 with ((go_at_call 10; refine DI.out.mono ?_; rintro e w6 ⟨v, rfl, ho, hb6⟩))
  obtain ⟨gl, cl, rfl, hcl⟩ := own_formD ho (by decide)
  have O6 := Lib.hid ho; have D6 := Lib.hid (D3.out.below hb6)
  have CR := Lib.hid (wCrash none 0 0 (fun _ => 0) 1 1 (fun j hj => absurd hj (Nat.not_lt_zero _)) (by decide) ⟨by decide, by decide⟩ D6.out)
  obtain ⟨S2, hS2⟩ : ∃ z, crS (fun _ => zeroL) M1 (keepB (fun _ => 0) 0) 1 (clampN 1) = z := ⟨_, rfl⟩
  rw [hS2] at CR
  clear ho hb6 DI D3
  go_upto_region 9 with ((go_at_call 11; refine CR.out.mono ?_; rintro e w7 ⟨rfl, d7, k7⟩))
  have O7 := Lib.hid (D6.out.dk.own O6.out (by decide) k7); have D7 := Lib.hid d7
  have RD := Lib.hid (dRead_t 1 (by decide) d7.dk)
  rw [show (((1 : Nat) : Int)) = 1 from rfl] at RD
  clear d7 k7 CR O6 D6
  go_upto_region 10 with ((go_at_call 12; refine RD.out.mono ?_; rintro e w8 ⟨rfl, bk8, hb8⟩))
  have O8 := Lib.hid (own_below O7.out hb8); have D8 := Lib.hid (D7.out.below hb8)
  have c1 : w8.cell? ⟨gl, 0, none⟩ = some (.int .i64 1) := O8.out.cellAt 0 (by decide)
  have x0 : w8.cell? ⟨w7.heap.size, 0, none⟩ = some (.int .u8 97) := by rw [bk8.cell, ← hS2, ← hM1]; rfl
  have x1 : w8.cell? ⟨w7.heap.size, 1, none⟩ = some (.int .u8 0) := by rw [bk8.cell, ← hS2, ← hM1]; rfl
  have DI := Lib.hid (wDirty0 (by decide) D8.out)
  have BE := Lib.hid D8.out.bel
  clear bk8 hb8 O7 D7 RD O8 hS2 hM1
  go_wp2_with (first
    | (go_at_call 7; with_reducible refine (NN.out _).mono ?_; rintro e w9 ⟨rfl, rfl⟩)
    | (go_at_call 10; with_reducible refine DI.out.mono ?_; rintro e w9 ⟨A9, c9, rfl, d9, _⟩; have LN := Lib.hid (dLen_t d9.dk); have BE9 := Lib.hid d9.bel)
    | (go_at_call 20; with_reducible refine LN.out.mono ?_; rintro e w10 ⟨rfl, rfl⟩))
  go_ret
  exact ⟨rfl, BE9.out⟩
end
end Go.Proofs.Ytgaiheaibejloaa
