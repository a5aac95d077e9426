/-
  EQUALITY of texts (chapter 6's law), Few.
-/
import Derived.Test.YtigbnjgmdgkgjaaDoorTpN
namespace Go.Proofs.YtigbnjgmdgkgjaaDoor
open Go Go.RowKit Sh

theorem str_listT (l : List Nat) : (str l).data.toList = l.map UInt8.ofNat := by
  unfold str
  rw [strOfNums_data, List.map_map]
  exact List.map_congr_left fun x _ => by simp
theorem str_beqT (xs ys : List Nat) (hx : Bytes xs) (hy : Bytes ys) : ((str xs).toList == (str ys).toList) = decide (xs = ys) := by
  by_cases h : xs = ys
  · subst h; simp
  · have hne : (str xs).toList ≠ (str ys).toList := fun e => h (by rw [← bs_str xs hx, ← bs_str ys hy, bs, bs, e])
    rw [beq_eq_false_iff_ne.2 hne, decide_eq_false h]
set_option maxRecDepth 100000 in
theorem same_textsT (xs ys : List Nat) (A B : Option Addr) (n m c d : Nat) (w : World) (hn : xs.length = n) (hm : ys.length = m) (ha : Sr w A xs) (hb : Sr w B ys) (hx : Bytes xs) (hy : Bytes ys) :
    Calls Tryd.prog 12 #[.slice A n c, .slice B m d] w fun e w' => e = .returned (.bool (decide (xs = ys))) ∧ w = w' := by
  have e1 := ha.conv hn c
  have e2 := hb.conv hm d
  have e3 := str_beqT xs ys hx hy
  obtain ⟨b, hbb⟩ : ∃ b, decide (xs = ys) = b := ⟨_, rfl⟩
  rw [hbb] at e3 ⊢
  obtain ⟨s, hs⟩ : ∃ s, str xs = s := ⟨_, rfl⟩
  obtain ⟨t, ht⟩ : ∃ t, str ys = t := ⟨_, rfl⟩
  rw [hs] at e1 e3
  rw [ht] at e2 e3
  clear ha hb hx hy hbb hs ht hn hm
  go_enter Tryd.func12, Tryd.ntmps12
  go_wp2
  go_ret
  exact ⟨rfl, rfl⟩
/-- Are they few? -/
def fewL (n : Nat) (G : Nat → Fld) : Bool := decide (n ≤ 20) && allN (fun j => decide ((G j).s.size ≤ 100)) n
set_option maxRecDepth 100000 in
theorem few_t (n c : Nat) (p : Option Addr) (G : Nat → Fld) (w : World) (hn : n ≤ 9223372036854775807) (hr : Rw w p n G) :
    Calls Tryd.prog 22 #[.slice p n c] w fun e w' => e = .returned (.bool (fewL n G)) ∧ w = w' := by
  by_cases h20 : n ≤ 20
  · have HR := Lib.hid hr
    have n20 : (n : Int) ≤ 20 := by omega
    have hF : fewL n G = allN (fun j => decide ((G j).s.size ≤ 100)) n := by simp [fewL, h20]
    have AY := Lib.hid (fun h => (allN_iff (fun j => decide ((G j).s.size ≤ 100)) n).2 h); have AN := Lib.hid (fun j hj h => allN_no (B := fun j => decide ((G j).s.size ≤ 100)) (n := n) (j := j) hj h)
    rw [← hF] at AY AN
    obtain ⟨r, hR⟩ : ∃ r, fewL n G = r := ⟨_, rfl⟩
    rw [hR] at AY AN ⊢
    clear hr hR hF h20
    go_enter Tryd.func22, Tryd.ntmps22
    go_upto_region 4 with (fail)
    go_loopw [3] (fun x wr => ∃ j : Nat, j ≤ n ∧ x = .int .i64 (j : Int) ∧ w = wr ∧ ∀ i, i < j → (G i).s.size ≤ 100) (fun x _ => n - (intOf x).toNat)
    case atStart => exact ⟨0, by omega, rfl, rfl, fun i hi => absurd hi (by omega)⟩
    case round =>
      obtain ⟨j, hj, rfl, rfl, hb⟩ := hrel
      have HB := Lib.hid hb
      clear hb
      by_cases hlt : j < n
      · obtain ⟨b, o, rfl, rg⟩ := HR.out.read hlt
        have c2 : w.cell? ⟨b, o + j * 3 + 2, none⟩ = some (.string (G j).s) := rg 2 _ rfl
        have AN1 := Lib.hid (AN.out j hlt)
        have j1 : (j : Int) < (n : Int) := by omega
        have HN := Lib.hid (fun (h : (G j).s.size ≤ 100) (i : Nat) (hi : i < j + 1) => show (G i).s.size ≤ 100 by
          rcases Nat.lt_or_ge i j with h1 | h1
          · exact HB.out i h1
          · obtain rfl : i = j := by omega
            exact h)
        obtain ⟨z, hz⟩ : ∃ z, (G j).s = z := ⟨_, rfl⟩
        rw [hz] at c2 AN1 HN
        clear rg hz AN HB
        by_cases hs : z.size ≤ 100
        · have s1 : ¬ ((100 : Int) < (z.size : Int)) := by omega
          have HN2 := Lib.hid (HN.out hs)
          clear HN AN1
          go_wp2_with fail
          go_roundw
          case rel => exact ⟨j + 1, hlt, by go_num, trivial, HN2.out⟩
          case measure => simp [intOf]; omega
        · have s1 : (100 : Int) < (z.size : Int) := by omega
          have hR := AN1.out (decide_eq_false hs)
          subst hR
          clear HN AN1
          go_wp2_with fail
          go_ret
          exact ⟨rfl, rfl⟩
      · obtain rfl : j = n := by omega
        have hR := AY.out (fun i hi => decide_eq_true (HB.out i hi))
        subst hR
        clear hlt
        go_wp2_with fail
        go_ret
        exact ⟨rfl, rfl⟩
  · rw [show fewL n G = false by simp [fewL, h20]]
    have n20 : (20 : Int) < (n : Int) := by omega
    clear hr h20
    go_enter Tryd.func22, Tryd.ntmps22
    go_wp2_with fail
    go_ret
    exact ⟨rfl, rfl⟩
end Go.Proofs.YtigbnjgmdgkgjaaDoor
