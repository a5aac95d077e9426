/-
  told of chapter 6.
-/
import Derived.Test.YtlaiblgnjppmnaaTpS
namespace Go.Proofs.Ytlaiblgnjppmnaa
open Go Go.RowKit Sh

def aS : ByteArray := { data := #[97] }
def tG : Nat → Fld := fun j => if j = 0 then ⟨1, 7, eS⟩ else ⟨2, 0, aS⟩
def pG : Nat → Fld := fun j => if j = 0 then ⟨3, 0, eS⟩ else ⟨2, 0, aS⟩
theorem tG_may : mayP 2 tG = true ∧ mayV 2 tG = true ∧ mayP 2 pG = true ∧ mayV 2 pG = false := by decide +kernel
theorem tG_match : matchN 2 pG 2 tG = true ∧ matchN 2 tG 2 pG = false := by decide +kernel
theorem nil_may (G : Nat → Fld) : mayP 0 G = false := rfl
theorem tG_r (j : Nat) (_ : j < 2) : InR (tG j) := by
  unfold tG InR
  split <;> (constructor <;> decide)
theorem sameN_of {n m : Nat} {G H : Nat → Fld} (h : n = m) (hg : ∀ j, j < n → G j = H j) : sameN n G m H = true := by
  subst h
  unfold sameN
  rw [decide_eq_true rfl, Bool.true_and]
  exact (allN_iff _ n).2 (fun j hj => (sameF_iff _ _).2 (hg j hj))
theorem sameN_iff {n m : Nat} {G H : Nat → Fld} : sameN n G m H = true ↔ n = m ∧ ∀ j, j < n → G j = H j := by
  unfold sameN
  rw [Bool.and_eq_true, decide_eq_true_eq, allN_iff]
  exact and_congr_right fun _ => forall_congr' fun j => forall_congr' fun _ => sameF_iff _ _
theorem Rw.congr {w : World} {p : Option Addr} {n : Nat} {G H : Nat → Fld} (h : Rw w p n G) (hg : ∀ j, j < n → G j = H j) : Rw w p n H := fun j hj => by
  obtain ⟨b, o, e, hl, r⟩ := h j hj
  exact ⟨b, o, e, hl, by rw [← hg j hj]; exact r⟩
/-- The law's two rows. -/
structure TT (w0 W : World) (a b : Nat) : Prop where
  t : Rw W (some ⟨a, 0, none⟩) 2 tG
  p : Rw W (some ⟨b, 0, none⟩) 2 pG
  bel : Below w0.heap.size w0 W
theorem TT.below {w0 W W' : World} {a b : Nat} (h : TT w0 W a b) (hb : Below W.heap.size W W') : TT w0 W' a b := ⟨h.t.below hb, h.p.below hb, h.bel.trans (hb.mono h.bel.size)⟩
theorem putF_bytes (f : Fld) : Bytes (putF f) := by
  unfold putF
  refine app_bytes (beN_bytes _ _) ?_
  split
  · exact beN_bytes _ _
  · split
    · exact app_bytes (beN_bytes _ _) (bs_bytes _)
    · exact nil_bytes
theorem catF_bytes (G : Nat → Fld) : ∀ n, Bytes (catF G n)
  | 0 => nil_bytes
  | n + 1 => app_bytes (catF_bytes G n) (putF_bytes _)
theorem putN_bytes (n : Nat) (G : Nat → Fld) : Bytes (putN n G) := app_bytes (beN_bytes _ _) (catF_bytes G n)
set_option maxRecDepth 100000 in
set_option maxHeartbeats 400000 in
theorem ttold_t (w : World) : Calls Try.prog 10 #[] w fun e w' => e = .returned (.bool true) ∧ Below w.heap.size w w' := by
  have BA := (Below.refl w.heap.size w).alloc (Nat.le_refl _) (.cells (rowC tG 2).toArray 38)
  have BB := BA.alloc (by simp) (.cells (rowC pG 2).toArray 38)
  have T0 := Lib.hid (rw_of_blk (n := 2) (rest := []) tG (by rw [List.append_nil]; exact ((Blk.new w 38 (rowC tG 2)).alloc (.cells (rowC pG 2).toArray 38))))
  have P0 := Lib.hid (rw_of_blk (n := 2) (rest := []) pG (by rw [List.append_nil]; exact (Blk.new2 w (.cells (rowC tG 2).toArray 38) 38 (rowC pG 2))))
  have B0 := Lib.hid BB
  clear BA BB
  go_enter Try.func10, Try.ntmps10
  go_upto_region 3 with (fail)
  refine world_at (fun Y => TT w Y w.heap.size (w.heap.size + 1)) ⟨T0.out, P0.out, B0.out⟩ ?_
  rintro Y h
  obtain ⟨a, ha⟩ : ∃ a, w.heap.size = a := ⟨_, rfl⟩
  obtain ⟨b, hb⟩ : ∃ b, a + 1 = b := ⟨_, rfl⟩
  rw [ha, hb] at h ⊢
  have H := Lib.hid h
  clear h ha hb T0 P0 B0
  go_wp2_with fail
  refine (Put_yes 2 2 _ tG Y H.out.t tG_may.1).mono ?_
  rintro e w1 ⟨u, rfl, o1, b1⟩
  obtain ⟨A, c, rfl, hc⟩ := own_form o1
  have H1 := Lib.hid (H.out.below b1); have S1 := Lib.hid (Sr.of_own o1)
  have PB := Lib.hid (putN_bytes 2 tG)
  have PL := Lib.hid (putN_length tG_may.1)
  have FO := Lib.hid (get_front_ok tG_may.1 tG_r)
  obtain ⟨xs, hxs⟩ : ∃ xs, putN 2 tG = xs := ⟨_, rfl⟩
  rw [hxs] at S1 PB PL FO ⊢
  clear o1 b1 hc hxs H
  go_wp2_with fail
  refine (Get_t xs A xs.length c w1 rfl S1.out PB.out (by have := PL.out; omega)).mono ?_
  rintro e w2 ⟨b2, hh⟩
  rcases hh with ⟨h1, _⟩ | ⟨_, gl, c', rfl, _, hr⟩
  · rw [FO.out.1] at h1; cases h1
  have X2 := Lib.hid ((rw_of_blk (rest := []) (gotN xs) (by rw [List.append_nil]; exact hr)).congr (fun j hj => FO.out.2.2 j (by rw [FO.out.2.1] at hj; exact hj)))
  have H2 := Lib.hid (H1.out.below b2)
  rw [FO.out.2.1] at X2 ⊢
  clear hr b2 S1 PB PL FO H1
  go_wp2_with fail
  refine (Put_no 0 0 none (fun _ => zF) w2 (by decide) (fun j hj => absurd hj (by omega)) rfl).mono ?_
  rintro e w3 ⟨rfl, b3⟩
  have H3 := Lib.hid (H2.out.below b3); have X3 := Lib.hid (X2.out.below b3)
  clear b3 H2 X2
  go_wp2_with fail
  refine (Match_t 2 2 2 2 _ _ pG tG w3 (by decide) (by decide) H3.out.p H3.out.t).mono ?_
  rintro e w4 ⟨rfl, b4⟩
  have H4 := Lib.hid (H3.out.below b4); have X4 := Lib.hid (X3.out.below b4)
  rw [tG_match.1]
  clear b4 H3 X3
  go_wp2_with fail
  refine (Match_t 2 2 2 2 _ _ tG pG w4 (by decide) (by decide) H4.out.t H4.out.p).mono ?_
  rintro e w5 ⟨rfl, b5⟩
  have H5 := Lib.hid (H4.out.below b5); have X5 := Lib.hid (X4.out.below b5)
  rw [tG_match.2]
  clear b5 H4 X4
  go_wp2_with fail
  refine (May_t 2 2 _ tG w5 (by decide) H5.out.t).mono ?_
  rintro e w6 ⟨rfl, b6⟩
  have H6 := Lib.hid (H5.out.below b6); have X6 := Lib.hid (X5.out.below b6)
  rw [tG_may.2.1]
  clear b6 H5 X5
  go_wp2_with fail
  refine (May_t 2 2 _ pG w6 (by decide) H6.out.p).mono ?_
  rintro e w7 ⟨rfl, b7⟩
  have H7 := Lib.hid (H6.out.below b7); have X7 := Lib.hid (X6.out.below b7)
  rw [tG_may.2.2.2]
  clear b7 H6 X6
  go_wp2_with fail
  refine (MayTemplate_t 2 2 _ pG w7 (by decide) H7.out.p).mono ?_
  rintro e w8 ⟨rfl, b8⟩
  have H8 := Lib.hid (H7.out.below b8); have X8 := Lib.hid (X7.out.below b8)
  rw [tG_may.2.2.1]
  clear b8 H7 X7
  go_wp2_with fail
  refine (Same_t 2 c' 2 2 _ _ tG tG w8 (by decide) (by decide) X8.out H8.out.t).mono ?_
  rintro e w9 ⟨rfl, b9⟩
  have H9 := Lib.hid (H8.out.below b9)
  rw [show sameN 2 tG 2 tG = true from sameN_of rfl (fun j _ => rfl)]
  clear b9 H8 X8
  go_wp2_with fail
  go_ret
  exact ⟨rfl, H9.out.bel⟩
end Go.Proofs.Ytlaiblgnjppmnaa
