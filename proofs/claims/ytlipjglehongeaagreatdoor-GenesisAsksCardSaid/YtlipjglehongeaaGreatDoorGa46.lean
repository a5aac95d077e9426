/-
  LAYER 10's laws
  LAYER 10's laws
-/
import Derived.Test.YtlipjglehongeaaGreatDoorGa44
import Derived.Test.YtlipjglehongeaaGreatDoorGa43
import Derived.Test.YtlipjglehongeaaGreatDoorGa26
import Derived.Test.YtlipjglehongeaaGreatDoorGa45
namespace Go.Proofs.YtlipjglehongeaaGreatDoor
open Go Go.RowKit Sh

def anA (x : Gv) : List Nat := if begB x then anE x else zH
def liA (x : Gv) : List Nat := if begB x then liE x else zH
theorem anA_len (x : Gv) : (anA x).length = 32 := by
  unfold anA
  split
  · rfl
  · rfl
theorem liA_len (x : Gv) : (liA x).length = 32 := by
  unfold liA
  split
  · rfl
  · rfl
theorem gAnchorA (x : Gv) (w : World) (h : GvW w x) (hi : KI w) (hk : KAt w) :
    Calls Tryz.prog 20 #[.agg (gv x).toArray] w fun e w' => e = .returned (.agg (u8s (anA x)).toArray) ∧ Below w.heap.size w w' := by
  unfold anA
  cases hm : begB x with
  | false => exact gAnchor_no x w h hi hm
  | true => exact gAnchor_yes x w h hi hm hk
theorem gLinkA (x : Gv) (w : World) (h : GvW w x) (hi : KI w) (hk : KAt w) :
    Calls Tryz.prog 22 #[.agg (gv x).toArray] w fun e w' => e = .returned (.agg (u8s (liA x)).toArray) ∧ Below w.heap.size w w' := by
  unfold liA
  cases hm : begB x with
  | false => exact gLink_no x w h hi hm
  | true => exact gLink_yes x w h hi hm hk
theorem gAnchorRA (x : Gv) (w : World) (h : GvW w x) (hc : GvC x) (hs : x.st.length ≤ 900000) :
    Calls Tryz.prog 21 #[.agg (gv x).toArray] w fun e w' => e = .returned (.agg (u8s (anA x)).toArray) ∧ Below w.heap.size w w' := by
  unfold anA
  cases hm : begB x with
  | false => exact gAnchorR_no x w h hc hm
  | true => exact gAnchorR_yes x w h hc hm hs
theorem gLinkRA (x : Gv) (w : World) (h : GvW w x) (hc : GvC x) (hs : x.st.length ≤ 900000) :
    Calls Tryz.prog 23 #[.agg (gv x).toArray] w fun e w' => e = .returned (.agg (u8s (liA x)).toArray) ∧ Below w.heap.size w w' := by
  unfold liA
  cases hm : begB x with
  | false => exact gLinkR_no x w h hc hm
  | true => exact gLinkR_yes x w h hc hm hs
structure GvI (W : World) (x : Gv) : Prop where
  ks : RowL W x.kp 1 kyv x.ks
  k : ∀ y ∈ x.ks, Sr W y.A y.X ∧ Bytes y.X ∧ y.X.length ≤ y.c ∧ y.c ≤ maxLen
  kl : x.ks.length ≤ maxLen
  st : Sr W x.sp x.st
  sb : Bytes x.st
  sc : x.st.length ≤ x.sc
theorem GvI.w {W : World} {x : Gv} (h : GvI W x) (hs : x.st.length ≤ 1000000) : GvW W x ∧ GvC x :=
  ⟨⟨h.ks, fun y hy => (h.k y hy).1, fun y hy => (h.k y hy).2.1, fun y hy => by have h1 := (h.k y hy).2.2.1; have h2 := (h.k y hy).2.2.2; unfold maxLen at h2; omega, by have := h.kl; unfold maxLen at this; omega, h.st, h.sb, hs, h.sc⟩, fun y hy => (h.k y hy).2.2.1⟩
theorem GvI.below {W W' : World} {x : Gv} (h : GvI W x) (hb : Below W.heap.size W W') : GvI W' x :=
  ⟨h.ks.below hb, fun y hy => ⟨(h.k y hy).1.below hb, (h.k y hy).2⟩, h.kl, h.st.below hb, h.sb, h.sc⟩
def geA (xs : List Nat) : Ge := if okE xs then gotE xs else zGv.ge
def erA (xs : List Nat) : Int := if okE xs then 0 else 2
theorem gGetA (xs : List Nat) (p : Option Addr) (m c : Nat) (w : World) (hx : xs.length = m) (hp : Sr w p xs) (hb : Bytes xs) (hl : m ≤ 1000000) (hk : KI w) :
    Calls Tryz.prog 16 #[.slice p m c] w fun e W' => ∃ y : Gv, y.ge = geA xs ∧ e = .returned (.tuple #[.agg (gv y).toArray, .int .i64 (erA xs)]) ∧ GvW W' y ∧ Below w.heap.size w W' := by
  refine (gGet_t xs p m c w hx hp hb hl hk).mono ?_
  rintro e W' ⟨b, h⟩
  unfold geA erA
  rcases h with ⟨h1, h2⟩ | ⟨h1, y, h2, h3, h4⟩
  · rw [h1]
    exact ⟨zGv, rfl, h2, zGv_w _, b⟩
  · rw [h1]
    exact ⟨y, h2, h3, h4, b⟩
theorem refGetA (xs : List Nat) (p : Option Addr) (m c : Nat) (w : World) (hx : xs.length = m) (hc : m ≤ c) (hp : Sr w p xs) (hb : Bytes xs) (hl : m ≤ 1000000) :
    Calls Tryz.prog 17 #[.slice p m c] w fun e W' => ∃ y : Gv, y.ge = geA xs ∧ e = .returned (.tuple #[.agg (gv y).toArray, .int .i64 (erA xs)]) ∧ GvW W' y ∧ Below w.heap.size w W' := by
  refine (refGetE_t xs p m c w hx hc hp hb hl).mono ?_
  rintro e W' ⟨b, h⟩
  unfold geA erA
  rcases h with ⟨h1, h2⟩ | ⟨h1, y, h2, h3, h4, _⟩
  · rw [h1]
    exact ⟨zGv, rfl, h2, zGv_w _, b⟩
  · rw [h1]
    exact ⟨y, h2, h3, h4, b⟩
theorem sameE_self (e : Ge) : sameE e e = true := sameE_iff.2 rfl
end Go.Proofs.YtlipjglehongeaaGreatDoor
namespace Go.Proofs.YtlipjglehongeaaGreatDoor
open Go Go.RowKit Sh

structure FW9 (w0 W : World) (x : Gv) : Prop where
  a : Blk W w0.heap.size 25 (gv x)
  rx : RowL W x.kp 1 kyv x.ks
  bel : Below w0.heap.size w0 W
def FewG (x : Gv) : Prop := x.ks.length ≤ 20 ∧ x.st.length ≤ 2000 ∧ ∀ y ∈ x.ks, y.X.length ≤ 100
def FewE (x : Gv) (e : Ending) : Prop := ∃ b, e = .returned (.bool b) ∧ (b = true → FewG x)
set_option maxRecDepth 100000 in
set_option maxHeartbeats 1000000 in
theorem fewG_t (x : Gv) (w : World) (h : RowL w x.kp 1 kyv x.ks) :
    Calls Tryz.prog 9 #[.agg (gv x).toArray] w fun e w' => FewE x e ∧ Below w.heap.size w w' := by
  have S0 := Lib.hid (show FW9 w (w.alloc (.cells (gv x).toArray 25)) x from by
    have b1 := (Below.refl w.heap.size w).alloc (Nat.le_refl _) (.cells (gv x).toArray 25)
    exact ⟨Blk.new w 25 (gv x), h.below b1, b1⟩)
  obtain ⟨n, hn⟩ : ∃ n, x.ks.length = n := ⟨_, rfl⟩
  obtain ⟨kp, hkp⟩ : ∃ p, x.kp = p := ⟨_, rfl⟩
  have HN := Lib.hid hn; have HKP := Lib.hid hkp
  have CELL := Lib.hid (fun (W : World) (h : FW9 w W x) => show W.cell? ⟨w.heap.size, 3, none⟩ = some (.slice kp n x.kc) ∧ W.cell? ⟨w.heap.size, 4, none⟩ = some (.slice x.sp x.st.length x.sc) from by
    have := gv_cells h.a
    rw [hn, hkp] at this
    exact this.2.2.2)
  clear h hn hkp
  go_enter Tryz.func9, Tryz.ntmps9
  go_upto_region 1 with (fail)
  refine world_at (fun Y => FW9 w Y x) S0.out ?_
  rintro V s1
  have S1 := Lib.hid s1
  clear s1 S0
  obtain ⟨c3, c4⟩ := CELL.out V S1.out
  by_cases n20 : 20 < n
  · have j1 : (20 : Int) < (n : Int) := by omega
    go_wp2_with fail
    go_ret
    exact ⟨⟨false, rfl, fun e => by cases e⟩, S1.out.bel⟩
  have j1 : ¬ ((20 : Int) < (n : Int)) := by omega
  by_cases s20 : 2000 < x.st.length
  · have j2 : (2000 : Int) < (x.st.length : Int) := by omega
    go_wp2_with fail
    go_ret
    exact ⟨⟨false, rfl, fun e => by cases e⟩, S1.out.bel⟩
  have j2 : ¬ ((2000 : Int) < (x.st.length : Int)) := by omega
  have N20 := Lib.hid n20; have S20 := Lib.hid s20
  have n21 : n ≤ 20 := by omega
  clear n20 s20
  go_wp2_with fail
  clear c3 c4 j1 j2
  go_loopw [3] (fun t wr => ∃ j : Nat, j ≤ n ∧ t = .int .i64 (j : Int) ∧ FW9 w wr x ∧ ∀ (i : Nat) (y : Ky), i < j → x.ks[i]? = some y → y.X.length ≤ 100) (fun t _ => n - (intOf t).toNat)
  case atStart => exact ⟨0, by omega, rfl, S1.out, fun i y hi => absurd hi (by omega)⟩
  case round =>
    clear S1
    obtain ⟨j, hj, rfl, s0, hb⟩ := hrel
    have S0 := Lib.hid s0; have HB := Lib.hid hb
    clear s0 hb
    obtain ⟨c3, _⟩ := CELL.out wr S0.out
    by_cases hlt : j < n
    · obtain ⟨y, hy⟩ : ∃ y, x.ks[j]? = some y := ⟨_, List.getElem?_eq_getElem (by rw [HN.out]; exact hlt)⟩
      obtain ⟨b, o, hpe, hbl, rg⟩ := S0.out.rx j y hy
      obtain rfl : kp = some ⟨b, o, none⟩ := HKP.out.symm.trans hpe
      have c1 : wr.cell? ⟨b, o + j, none⟩ = some (.slice y.A y.X.length y.c) := by have := rg 0 _ rfl; rw [Nat.mul_one, Nat.add_zero] at this; exact this
      have j1 : (j : Int) < (n : Int) := by omega
      have HY := Lib.hid hy
      clear rg hpe hbl hy
      by_cases h100 : 100 < y.X.length
      · have j2 : (100 : Int) < (y.X.length : Int) := by omega
        go_wp2_with fail
        go_ret
        exact ⟨⟨false, rfl, fun e => by cases e⟩, S0.out.bel⟩
      · have j2 : ¬ ((100 : Int) < (y.X.length : Int)) := by omega
        have HB2 := Lib.hid (show ∀ (i : Nat) (y : Ky), i < j + 1 → x.ks[i]? = some y → y.X.length ≤ 100 from fun i z hi hz => by
          rcases Nat.lt_or_ge i j with h | h
          · exact HB.out i z h hz
          · obtain rfl : i = j := by omega
            rw [HY.out] at hz
            obtain rfl := Option.some.inj hz
            omega)
        clear h100
        go_wp2_with fail
        go_roundw
        case rel =>
          exact ⟨j + 1, hlt, by go_num, S0.out, HB2.out⟩
        case measure => simp [intOf]; omega
    · obtain rfl : j = n := by omega
      have FW := Lib.hid (show FewG x from ⟨by rw [HN.out]; have := N20.out; omega, by have := S20.out; omega, fun y hy => by
        obtain ⟨i, hi⟩ := List.getElem?_of_mem hy
        exact HB.out i y (by have := (List.getElem?_eq_some_iff.1 hi).1; rw [HN.out] at this; exact this) hi⟩)
      clear hlt
      go_wp2_with fail
      go_ret
      exact ⟨⟨true, rfl, fun _ => FW.out⟩, S0.out.bel⟩
end Go.Proofs.YtlipjglehongeaaGreatDoor
