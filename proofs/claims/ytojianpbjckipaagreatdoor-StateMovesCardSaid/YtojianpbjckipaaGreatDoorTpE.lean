/-
  PACKAGE tuple: Match, Same.
-/
import Derived.Test.YtojianpbjckipaaGreatDoorTpD
namespace Go.Proofs.YtojianpbjckipaaGreatDoor
open Go Go.RowKit Sh

def sameN (n : Nat) (G : Nat → Fld) (m : Nat) (H : Nat → Fld) : Bool := decide (n = m) && allN (fun j => sameF (G j) (H j)) n
def matchN (n : Nat) (G : Nat → Fld) (m : Nat) (H : Nat → Fld) : Bool := mayP n G && (mayV m H && (decide (n = m) && allN (fun j => takesB (G j) (H j)) n))
/-- Two rows, and the cell of the second one's slice. -/
structure Two (w0 W : World) (p : Option Addr) (n : Nat) (G : Nat → Fld) (q : Option Addr) (m c : Nat) (H : Nat → Fld) (g : Nat) : Prop where
  r1 : Rw W p n G
  r2 : Rw W q m H
  at_ : W.cell? ⟨g, 0, none⟩ = some (.slice q m c)
  lt : g < W.heap.size
  bel : Below w0.heap.size w0 W
theorem Two.below {w0 W W' : World} {p : Option Addr} {n : Nat} {G : Nat → Fld} {q : Option Addr} {m c : Nat} {H : Nat → Fld} {g : Nat} (h : Two w0 W p n G q m c H g) (hb : Below W.heap.size W W') : Two w0 W' p n G q m c H g :=
  ⟨h.r1.below hb, h.r2.below hb, (hb.cell (p := ⟨g, 0, none⟩) h.lt).trans h.at_, Nat.lt_of_lt_of_le h.lt hb.size, h.bel.trans (hb.mono h.bel.size)⟩
theorem Two.mk0 {w : World} {p : Option Addr} {n : Nat} {G : Nat → Fld} {q : Option Addr} {m c : Nat} {H : Nat → Fld} (h1 : Rw w p n G) (h2 : Rw w q m H) : Two w (w.alloc (.cells #[.slice q m c] 24)) p n G q m c H w.heap.size := by
  have BW := (Below.refl w.heap.size w).alloc (Nat.le_refl _) (.cells #[.slice q m c] 24)
  exact ⟨h1.below BW, h2.below BW, (Blk.new w 24 [.slice q m c]).cell 0, by simp, BW⟩
set_option maxRecDepth 100000 in
theorem Same_t (n c m c2 : Nat) (p q : Option Addr) (G H : Nat → Fld) (w : World) (hn : n ≤ 9223372036854775807) (hm : m ≤ 9223372036854775807) (hr : Rw w p n G) (hq : Rw w q m H) :
    Calls Tryz.prog 105 #[.slice p n c, .slice q m c2] w fun e w' => e = .returned (.bool (sameN n G m H)) ∧ Below w.heap.size w w' := by
  have T0 := Lib.hid (Two.mk0 (c := c2) hr hq)
  have c0 := T0.out.at_
  by_cases h : n = m
  · subst h
    have EV := Lib.hid (every_t 138 #[.pointer (some ⟨w.heap.size, 0, none⟩)] n c p G (fun j => sameF (G j) (H j)) (fun _ W => Two w W p n G q n c2 H w.heap.size)
      _ (enters_of Tryz.func138 (by kernel_rfl) rfl) hn T0.out (fun j W W' h hb => h.below hb) (fun j W h hj => h.r1.read hj)
      (fun j W hj _ h => (same1_t w.heap.size (G j) H j n c2 q W hj hm h.r2 h.at_ h.lt).mono (fun e W' ⟨he, hb⟩ => ⟨he, h.below hb⟩)))
    rw [show sameN n G n H = allN (fun j => sameF (G j) (H j)) n by simp [sameN]]
    obtain ⟨r, hR⟩ : ∃ r, allN (fun j => sameF (G j) (H j)) n = r := ⟨_, rfl⟩
    rw [hR] at EV ⊢
    clear hR hr hq
    go_enter Tryz.func105, Tryz.ntmps105
    go_wp2_with fail
    refine EV.out.mono ?_
    rintro e w2 ⟨m', _, rfl, iv, _⟩
    have IV := Lib.hid iv.bel
    clear iv EV
    go_wp2_with fail
    go_ret
    exact ⟨rfl, IV.out⟩
  · rw [show sameN n G m H = false by simp [sameN, h]]
    have e1 : ((n : Int) != (m : Int)) = true := by rw [bne_iff_ne]; omega
    clear h hr hq
    go_enter Tryz.func105, Tryz.ntmps105
    go_wp2_with fail
    go_ret
    exact ⟨rfl, T0.out.bel⟩
set_option maxRecDepth 100000 in
theorem Match_t (n c m c2 : Nat) (p q : Option Addr) (G H : Nat → Fld) (w : World) (hn : n ≤ 9223372036854775807) (hm : m ≤ 9223372036854775807) (hr : Rw w p n G) (hq : Rw w q m H) :
    Calls Tryz.prog 149 #[.slice p n c, .slice q m c2] w fun e w' => e = .returned (.bool (matchN n G m H)) ∧ Below w.heap.size w w' := by
  have T0 := Lib.hid (Two.mk0 (c := c2) hr hq)
  have MP := Lib.hid (MayTemplate_t n c p G _ hn T0.out.r1)
  have MV := Lib.hid (fun W (h : Two w W p n G q m c2 H w.heap.size) => May_t m c2 q H W hm h.r2)
  have EV := Lib.hid (fun W (hnm : n = m) (h : Two w W p n G q m c2 H w.heap.size) => every_t 154 #[.pointer (some ⟨w.heap.size, 0, none⟩)] n c p G (fun j => takesB (G j) (H j)) (fun _ W => Two w W p n G q m c2 H w.heap.size)
      W (enters_of Tryz.func154 (by kernel_rfl) rfl) hn h (fun j W W' h hb => h.below hb) (fun j W h hj => h.r1.read hj)
      (fun j W hj _ h => (match1_t w.heap.size (G j) H j m c2 q W (by omega) hm h.r2 h.at_ h.lt).mono (fun e W' ⟨he, hb⟩ => ⟨he, h.below hb⟩)))
  obtain ⟨r, hR⟩ : ∃ r, allN (fun j => takesB (G j) (H j)) n = r := ⟨_, rfl⟩
  have hM : matchN n G m H = (mayP n G && (mayV m H && (decide (n = m) && r))) := by rw [← hR]; rfl
  rw [hM]
  rw [hR] at EV
  obtain ⟨a, hA⟩ : ∃ r, mayP n G = r := ⟨_, rfl⟩
  obtain ⟨b, hB⟩ : ∃ r, mayV m H = r := ⟨_, rfl⟩
  rw [hA] at MP ⊢
  rw [hB] at MV ⊢
  clear hR hM hA hB hr hq
  cases a with
  | false =>
    go_enter Tryz.func149, Tryz.ntmps149
    go_wp2_with fail
    refine MP.out.mono ?_
    rintro e w2 ⟨rfl, b2⟩
    have T2 := Lib.hid (T0.out.below b2)
    clear b2 MP MV EV T0
    go_wp2_with fail
    go_ret
    exact ⟨by simp, T2.out.bel⟩
  | true =>
    go_enter Tryz.func149, Tryz.ntmps149
    go_wp2_with fail
    refine MP.out.mono ?_
    rintro e w2 ⟨rfl, b2⟩
    have T2 := Lib.hid (T0.out.below b2)
    have c0 := T2.out.at_
    clear b2 MP T0
    go_wp2_with fail
    refine (MV.out _ T2.out).mono ?_
    rintro e w3 ⟨rfl, b3⟩
    have T3 := Lib.hid (T2.out.below b3)
    clear c0
    have c0 := T3.out.at_
    clear b3 T2 MV
    cases b with
    | false =>
      clear EV
      go_wp2_with fail
      go_ret
      exact ⟨by simp, T3.out.bel⟩
    | true =>
      by_cases h : n = m
      · have E2 := Lib.hid (EV.out _ h T3.out)
        subst h
        clear EV
        go_wp2_with fail
        refine E2.out.mono ?_
        rintro e w4 ⟨m', _, rfl, iv, _⟩
        have IV := Lib.hid iv.bel
        clear iv E2
        go_wp2_with fail
        go_ret
        exact ⟨by simp, IV.out⟩
      · have e1 : ((n : Int) != (m : Int)) = true := by rw [bne_iff_ne]; omega
        clear EV
        go_wp2_with fail
        go_ret
        exact ⟨by simp [h], T3.out.bel⟩
end Go.Proofs.YtojianpbjckipaaGreatDoor
