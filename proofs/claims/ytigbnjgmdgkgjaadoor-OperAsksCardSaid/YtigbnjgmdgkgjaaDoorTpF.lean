/-
  PACKAGE tuple: write, Put.
-/
import Derived.Test.YtigbnjgmdgkgjaaDoorTpE
import Derived.Test.YtigbnjgmdgkgjaaDoorPkM
import Derived.Laws.IdiomStrings
namespace Go.Proofs.YtigbnjgmdgkgjaaDoor
open Go Go.RowKit Sh

/-- A text's bytes. -/
def bs (s : ByteArray) : List Nat := s.toList.map UInt8.toNat
theorem bs_length (s : ByteArray) : (bs s).length = s.size := by
  rw [bs, List.length_map, ByteArray.toList_eq]
  rfl
theorem bs_bytes (s : ByteArray) : Bytes (bs s) := sl_bytes (fun y hy => by
  obtain ⟨b, _, rfl⟩ := List.mem_map.1 hy
  exact b.toNat_lt)
theorem sr_frz (xs : List Nat) (w : World) (rest : List Value) (e : TypeId) (fr : Nat × Nat) : Sr (w.alloc (.cells (u8s xs ++ rest).toArray e fr)) (some ⟨w.heap.size, 0, none⟩) xs := fun _ => by
  refine ⟨w.heap.size, 0, rfl, by simp, fun j hj => ?_⟩
  rw [Nat.zero_add, cell_of_row _ _ j _ e fr (heap_alloc_new w _)]
  rw [List.getElem?_toArray, List.getElem?_append_left (by rw [u8s_length]; exact hj), u8s_get _ _ hj]
/-- '[]byte(s)'. -/
theorem conv_txt (s : ByteArray) (w : World) : ∃ w' c, (convert 9 25 (.string s)).run Tryd.prog w = .ok (.slice (some ⟨w.heap.size, 0, none⟩) s.size c) w' ∧ s.size ≤ c ∧ Sr w' (some ⟨w.heap.size, 0, none⟩) (bs s) ∧ Below w.heap.size w w' := by
  refine ⟨_, _, run_bytes_of_string w 9 25 5 s Tryd.underlying9 Tryd.underlying25 Tryd.underlying5, ?_, ?_, ?_⟩
  · exact grownCap_ge _ _ _ _
  · have h := sr_frz (bs s) w.drew (List.replicate (grownCap w s.size 0 5 - s.size) (.int .u8 0)) 5 ((bytesRow s (grownCap w s.size 0 5)).size, (bytesRow s (grownCap w s.size 0 5)).size + 1)
    have e : (u8s (bs s) ++ List.replicate (grownCap w s.size 0 5 - s.size) (Value.int .u8 0)).toArray = bytesRow s (grownCap w s.size 0 5) := by
      unfold bytesRow bs u8s
      rw [ByteArray.toList_eq]
      simp
    rw [e] at h
    exact h
  · exact (Below.refl _ _).drew.alloc (Nat.le_refl _) _
/-- A field's bytes. -/
def putF (f : Fld) : List Nat := beN f.k.toNat 1 ++ (if f.k = 1 then beN (IntKind.u64.wrap f.n).toNat 8 else if f.k = 2 then txtN (bs f.s) else [])
theorem okP_kinds (f : Fld) (h : okP f = true) : (f.k = 1 ∨ f.k = 2 ∨ f.k = 3 ∨ f.k = 4 ∨ f.k = 5) ∧ (f.k = 2 → f.s.size ≤ 40) := by
  unfold okP okV at h
  split at h
  · rename_i h3
    refine ⟨by omega, fun h2 => by omega⟩
  · split at h
    · rename_i h1
      exact ⟨.inl h1, fun h2 => by omega⟩
    · split at h
      · rename_i h2
        simp only [Bool.and_eq_true, decide_eq_true_eq] at h
        exact ⟨.inr (.inl h2), fun _ => by have := h.2; omega⟩
      · cases h
theorem putF_length (f : Fld) (h : okP f = true) : (putF f).length ≤ 45 := by
  obtain ⟨hk, hs⟩ := okP_kinds f h
  unfold putF
  rw [List.length_append, beN_length]
  split
  · rw [beN_length]; omega
  · split
    · rename_i h2
      have := hs h2
      rw [txtN, List.length_append, beN_length, bs_length]; omega
    · simp
/-- Num, and what lies behind the Writer's own blocks stays. -/
theorem num_k {w0 w : World} {B g : Nat} {l : List Nat} (v n : Nat) (x : Wr w0 (fun k => B ≤ k) g l) (hb : Below w0.heap.size w0 w) (hB : B ≤ w0.heap.size) (hv : v < 18446744073709551616) (h1 : 1 ≤ n) (h2 : n ≤ 8) (hl : l.length + n ≤ 70368744177664) :
    Calls Tryd.prog 25 #[.pointer (some ⟨g, 0, none⟩), .int .u64 v, .int .i64 n] w fun e w' => e = .returned (.tuple #[]) ∧ Wr w' (fun k => B ≤ k) g (l ++ beN v n) ∧ Below B w w' ∧ Kept (fun k => B ≤ k ∧ k < w0.heap.size) w w' := by
  have hB2 : B ≤ w.heap.size := Nat.le_trans hB hb.size
  refine (num_t _ g l v n w (x.mid hb) hv h1 h2 hl).mono ?_
  rintro e w' ⟨rfl, y, k⟩
  exact ⟨rfl, y.mono fun _ => more_up hB2, (k.mono fun _ e => e.1).to_below hB2, k⟩
set_option maxRecDepth 100000 in
theorem write_s {w0 w : World} {B g : Nat} {l : List Nat} (f : Fld) (x : Wr w0 (fun k => B ≤ k) g l) (hb : Below w0.heap.size w0 w) (hB : B ≤ w0.heap.size) (hk : okP f = true) (hl : l.length + 100 ≤ 70368744177664) :
    Calls Tryd.prog 64 #[.pointer (some ⟨g, 0, none⟩), .agg (fv f).toArray] w fun e w' => e = .returned (.tuple #[]) ∧ Wr w' (fun k => B ≤ k) g (l ++ putF f) ∧ Below B w w' := by
  obtain ⟨hk5, hs⟩ := okP_kinds f hk
  obtain ⟨k, n, s⟩ := f
  have X0 := Lib.hid x; have HB := Lib.hid hB; have HS := Lib.hid hs
  have BW := Lib.hid ((Below.refl w.heap.size w).alloc (Nat.le_refl _) (.cells (fv ⟨k, n, s⟩).toArray 40))
  have B1 := Lib.hid (hb.trans (BW.out.mono hb.size))
  have F0 := Lib.hid (Blk.new w 40 (fv ⟨k, n, s⟩))
  have HW := Lib.hid (show w0.heap.size ≤ w.heap.size from hb.size)
  have BB := Lib.hid (BW.out.mono (Nat.le_trans hB hb.size))
  obtain ⟨c0, _, _⟩ := fv_cells F0.out
  clear x hb hB hs hk
  rcases hk5 with rfl | rfl | h345
  · obtain ⟨v, hv, hv2⟩ : ∃ v : Nat, IntKind.u64.wrap n = (v : Int) ∧ v < 18446744073709551616 := ⟨(IntKind.u64.wrap n).toNat, by simp [IntKind.wrap, IntKind.bits, IntKind.signed]; omega, by simp [IntKind.wrap, IntKind.bits, IntKind.signed]; omega⟩
    rw [show putF ⟨1, n, s⟩ = beN 1 1 ++ beN v 8 by unfold putF; rw [if_pos rfl]; show _ ++ beN (IntKind.u64.wrap n).toNat 8 = _; rw [hv]; rfl]
    go_enter Tryd.func64, Tryd.ntmps64
    go_wp2_with fail
    refine (num_k 1 1 X0.out B1.out HB.out (by decide) (by decide) (by decide) (by omega)).mono ?_
    rintro e w2 ⟨rfl, x2, b2, k2⟩
    have X2 := Lib.hid x2; have B2 := Lib.hid b2
    clear c0
    obtain ⟨c0, c1, c2⟩ := fv_cells (F0.out.kept k2 (fun h => by have := HW.out; omega))
    clear x2 b2 k2 X0
    go_wp2_with fail
    refine (num_s v 8 X2.out (Below.refl _ _) (by have := X2.out.lt; have : B ≤ g := X2.out.mine; omega) hv2 (by decide) (by decide) (by rw [List.length_append, beN_length]; omega)).mono ?_
    rintro e w3 ⟨rfl, x3, b3⟩
    have X3 := Lib.hid x3; have B3 := Lib.hid b3
    clear x3 b3
    go_wp2_with fail
    go_end0
    exact ⟨rfl, by rw [← List.append_assoc]; exact X3.out, (BB.out.trans B2.out).trans B3.out⟩
  · have hs40 : s.size ≤ 40 := HS.out rfl
    rw [show putF ⟨2, n, s⟩ = beN 2 1 ++ txtN (bs s) by unfold putF; rw [if_neg (show ¬ ((2 : Int) = 1) by decide), if_pos rfl]; rfl]
    go_enter Tryd.func64, Tryd.ntmps64
    go_wp2_with fail
    refine (num_k 2 1 X0.out B1.out HB.out (by decide) (by decide) (by decide) (by omega)).mono ?_
    rintro e w2 ⟨rfl, x2, b2, k2⟩
    have X2 := Lib.hid x2; have B2 := Lib.hid b2
    clear c0
    obtain ⟨c0, c1, c2⟩ := fv_cells (F0.out.kept k2 (fun h => by have := HW.out; omega))
    clear x2 b2 k2 X0
    obtain ⟨w3, c, hc, _, hsr, hb3⟩ := conv_txt s w2
    have SR := Lib.hid hsr; have B3 := Lib.hid hb3
    clear hsr hb3
    go_wp2_with fail
    refine (text_s (bs s) (some ⟨w2.heap.size, 0, none⟩) s.size c X2.out B3.out (by have := X2.out.lt; have : B ≤ g := X2.out.mine; omega) (bs_length s) SR.out (fun _ a ha => by obtain rfl := Option.some.inj ha; exact .inr (Nat.le_refl _)) (by rw [List.length_append, beN_length]; omega)).mono ?_
    rintro e w4 ⟨rfl, x4, b4⟩
    have X4 := Lib.hid x4; have B4 := Lib.hid b4
    clear x4 b4 hc
    go_wp2_with fail
    go_end0
    exact ⟨rfl, by rw [← List.append_assoc]; exact X4.out, ((BB.out.trans B2.out).trans (B3.out.mono (by have := X2.out.lt; have : B ≤ g := X2.out.mine; omega))).trans B4.out⟩
  · rcases h345 with rfl | rfl | rfl
    · rw [show putF ⟨3, n, s⟩ = beN 3 1 by unfold putF; rw [if_neg (show ¬ ((3 : Int) = 1) by decide), if_neg (show ¬ ((3 : Int) = 2) by decide), List.append_nil]; rfl]
      go_enter Tryd.func64, Tryd.ntmps64
      go_wp2_with fail
      refine (num_k 3 1 X0.out B1.out HB.out (by decide) (by decide) (by decide) (by omega)).mono ?_
      rintro e w2 ⟨rfl, x2, b2, k2⟩
      have X2 := Lib.hid x2; have B2 := Lib.hid b2
      clear c0
      obtain ⟨c0, c1, c2⟩ := fv_cells (F0.out.kept k2 (fun h => by have := HW.out; omega))
      clear x2 b2 k2 X0
      go_wp2_with fail
      go_end0
      exact ⟨rfl, X2.out, BB.out.trans B2.out⟩
    · rw [show putF ⟨4, n, s⟩ = beN 4 1 by unfold putF; rw [if_neg (show ¬ ((4 : Int) = 1) by decide), if_neg (show ¬ ((4 : Int) = 2) by decide), List.append_nil]; rfl]
      go_enter Tryd.func64, Tryd.ntmps64
      go_wp2_with fail
      refine (num_k 4 1 X0.out B1.out HB.out (by decide) (by decide) (by decide) (by omega)).mono ?_
      rintro e w2 ⟨rfl, x2, b2, k2⟩
      have X2 := Lib.hid x2; have B2 := Lib.hid b2
      clear c0
      obtain ⟨c0, c1, c2⟩ := fv_cells (F0.out.kept k2 (fun h => by have := HW.out; omega))
      clear x2 b2 k2 X0
      go_wp2_with fail
      go_end0
      exact ⟨rfl, X2.out, BB.out.trans B2.out⟩
    · rw [show putF ⟨5, n, s⟩ = beN 5 1 by unfold putF; rw [if_neg (show ¬ ((5 : Int) = 1) by decide), if_neg (show ¬ ((5 : Int) = 2) by decide), List.append_nil]; rfl]
      go_enter Tryd.func64, Tryd.ntmps64
      go_wp2_with fail
      refine (num_k 5 1 X0.out B1.out HB.out (by decide) (by decide) (by decide) (by omega)).mono ?_
      rintro e w2 ⟨rfl, x2, b2, k2⟩
      have X2 := Lib.hid x2; have B2 := Lib.hid b2
      clear c0
      obtain ⟨c0, c1, c2⟩ := fv_cells (F0.out.kept k2 (fun h => by have := HW.out; omega))
      clear x2 b2 k2 X0
      go_wp2_with fail
      go_end0
      exact ⟨rfl, X2.out, BB.out.trans B2.out⟩

/-- The bytes of j fields, one behind the other. -/
def catF (G : Nat → Fld) : Nat → List Nat
  | 0 => []
  | j + 1 => catF G j ++ putF (G j)
theorem catF_length (G : Nat → Fld) (n : Nat) (h : ∀ j, j < n → okP (G j) = true) : (catF G n).length ≤ 45 * n := by
  induction n with
  | zero => simp [catF]
  | succ n ih =>
    rw [catF, List.length_append]
    have h1 := ih (fun j hj => h j (by omega))
    have h2 := putF_length (G n) (h n (by omega))
    omega
theorem put1_s {w : World} {B g : Nat} {l : List Nat} (f : Fld) (j : Nat) (x : Wr w (fun k => B ≤ k) g l) (hk : okP f = true) (hl : l.length + 100 ≤ 70368744177664) :
    Calls Tryd.prog 63 #[.int .i64 (j : Int), .agg (fv f).toArray, .pointer (some ⟨g, 0, none⟩)] w fun e w' => e = .returned (.bool true) ∧ Wr w' (fun k => B ≤ k) g (l ++ putF f) ∧ Below B w w' := by
  have FV := Lib.hid (fv_size f)
  have BW := Lib.hid ((Below.refl w.heap.size w).alloc (Nat.le_refl _) (.cells (fv f).toArray 40))
  have F0 := Lib.hid (Blk.new w 40 (fv f))
  have hB : B ≤ w.heap.size := by have := x.lt; have : B ≤ g := x.mine; omega
  have WS := Lib.hid (write_s f x BW.out hB hk hl)
  clear x hk
  go_enter Tryd.func63, Tryd.ntmps63
  go_wp2_with ((with_reducible refine load_blk 40 (.tmp 4) w.heap.size 40 (fv f) _ rfl rfl ?_ Tryd.underlying40 ?_ ?_ ?_ ?_); exact F0.out; exact rfl; exact FV.out; exact rfl)
  refine WS.out.mono ?_
  rintro e w2 ⟨rfl, x2, b2⟩
  have X2 := Lib.hid x2; have B2 := Lib.hid b2
  clear x2 b2 WS
  go_wp2_with fail
  go_ret
  exact ⟨rfl, X2.out, (BW.out.mono hB).trans B2.out⟩
/-- A template's bytes. -/
def putN (n : Nat) (G : Nat → Fld) : List Nat := beN n 1 ++ catF G n
theorem fewN_le {n : Nat} (h : fewN n = true) : 1 ≤ n ∧ n ≤ 6 := by simpa [fewN] using h
theorem mayP_iff {n : Nat} {G : Nat → Fld} (h : mayP n G = true) : 1 ≤ n ∧ n ≤ 6 ∧ ∀ j, j < n → okP (G j) = true := by
  unfold mayP at h
  rw [Bool.and_eq_true] at h
  exact ⟨(fewN_le h.1).1, (fewN_le h.1).2, (allN_iff _ n).1 h.2⟩
theorem putN_length {n : Nat} {G : Nat → Fld} (h : mayP n G = true) : (putN n G).length ≤ 271 ∧ 0 < (putN n G).length := by
  obtain ⟨h1, h6, hk⟩ := mayP_iff h
  have := catF_length G n hk
  rw [putN, List.length_append, beN_length]
  omega
theorem Put_no (n c : Nat) (p : Option Addr) (G : Nat → Fld) (w : World) (hn : n ≤ 9223372036854775807) (hr : Rw w p n G) (h : mayP n G = false) :
    Calls Tryd.prog 49 #[.slice p n c] w fun e w' => e = .returned (.tuple #[.slice none 0 0, .int .i64 1]) ∧ Below w.heap.size w w' := by
  have MP := Lib.hid (MayTemplate_t n c p G w hn hr)
  rw [h] at MP
  clear hr h
  go_enter Tryd.func49, Tryd.ntmps49
  go_wp2_with fail
  refine MP.out.mono ?_
  rintro e w2 ⟨rfl, b2⟩
  go_wp2_with fail
  go_ret2
  exact ⟨rfl, b2⟩
set_option maxRecDepth 100000 in
theorem Put_yes (n c : Nat) (p : Option Addr) (G : Nat → Fld) (w : World) (hr : Rw w p n G) (h : mayP n G = true) :
    Calls Tryd.prog 49 #[.slice p n c] w fun e w' => ∃ u, e = .returned (.tuple #[u, .int .i64 0]) ∧ w'.ownsRow w.heap.size 5 1 u (putN n G).length (u8s (putN n G)) ∧ Below w.heap.size w w' := by
  obtain ⟨h1, h6, hk⟩ := mayP_iff h
  have MP := Lib.hid (MayTemplate_t n c p G w (by omega) hr)
  have PL := Lib.hid (putN_length h)
  rw [h] at MP
  have HK := Lib.hid hk; have HR := Lib.hid hr
  clear h hk hr
  go_enter Tryd.func49, Tryd.ntmps49
  go_wp2_with fail
  refine MP.out.mono ?_
  rintro e w2 ⟨rfl, b2⟩
  have B2 := Lib.hid b2
  have X0 := Lib.hid (Wr.new (w := w2))
  have BA := Lib.hid ((Below.refl w2.heap.size w2).alloc (Nat.le_refl _) (.cells #[.pointer none, .int .i64 0] 46))
  clear b2 MP
  have i1 : IntKind.u64.wrap (n : Int) = (n : Int) := IntWalk.u64_in _ (by omega)
  go_wp2_with fail
  refine (num_s n 1 X0.out (Below.refl _ _) (by simp) (by omega) (by decide) (by decide) (by simp)).mono ?_
  rintro e w3 ⟨rfl, x3, b3⟩
  rw [List.nil_append] at x3
  have X3 := Lib.hid x3; have B3 := Lib.hid (BA.out.trans b3)
  clear x3 b3 X0 BA i1
  have EV := Lib.hid (every_t 63 #[.pointer (some ⟨w2.heap.size, 0, none⟩)] n c p G (fun _ => true)
    (fun j W => Wr W (fun k => w2.heap.size ≤ k) w2.heap.size (beN n 1 ++ catF G j) ∧ Below w2.heap.size w2 W) w3 (enters_of Tryd.func63 (by kernel_rfl) rfl) (by omega)
    ⟨by rw [catF, List.append_nil]; exact X3.out, B3.out⟩
    (fun j W W' h hb => ⟨h.1.below hb, h.2.trans (hb.mono h.2.size)⟩)
    (fun j W h hj => ((HR.out.below B2.out).below h.2).read hj)
    (fun j W hj _ h => (put1_s (G j) j h.1 (HK.out j hj) (by
        have := catF_length G j (fun i hi => HK.out i (by omega))
        rw [List.length_append, beN_length]; omega)).mono (fun e W' ⟨he, hx, hb⟩ => ⟨he, by rw [catF, ← List.append_assoc]; exact hx, h.2.trans hb⟩)))
  go_wp2_with fail
  refine EV.out.mono ?_
  rintro e w4 ⟨m, _, rfl, iv, hm⟩
  obtain rfl := hm ((allN_iff _ _).2 (fun _ _ => rfl))
  have X4 := Lib.hid (show Wr w4 (fun k => w2.heap.size ≤ k) w2.heap.size (putN m G) from iv.1); have B4 := Lib.hid iv.2
  clear iv EV X3 B3 HK HR
  go_wp2_with fail
  refine (wbytes_t _ w2.heap.size (putN m G) w4 X4.out (by have := PL.out; omega)).mono ?_
  rintro e w5 ⟨u, rfl, o5, b5⟩
  have bz : Below w.heap.size w w4 := B2.out.trans (B4.out.mono B2.out.size)
  have O5 := Lib.hid (own_base (base' := w.heap.size) o5 (fun k hk => Nat.le_trans bz.size (o5.lt k hk).1)); have B5 := Lib.hid (bz.trans (b5.mono bz.size))
  clear o5 b5 X4 B4 B2 bz
  go_wp2_with fail
  go_ret2
  exact ⟨u, rfl, O5.out, B5.out⟩
end Go.Proofs.YtigbnjgmdgkgjaaDoor
