/-
  HssRaw: which bytes are keys and signatures (at most 300 each).
-/
import Derived.Test.YtlaiblgnjppmnaaGreatDoorHsE
namespace Go.Proofs.YtlaiblgnjppmnaaGreatDoor
open Go Go.RowKit Sh

set_option maxRecDepth 100000 in
set_option maxHeartbeats 1000000 in
theorem hraw_t (xs zs : List Nat) (A B C : Option Addr) (m c m1 c1 m2 c2 : Nat) (w : World) (hx : xs.length = m) (hp : Sr w A xs) (hb : Bytes xs) (hc : m ≤ c) (hz : zs.length = m2) (hpz : Sr w C zs) (hzb : Bytes zs) (hz2 : m2 ≤ c2) (hk : KI w) :
    Calls Tryz.prog 7 #[.slice A m c, .slice B m1 c1, .slice C m2 c2] w fun e w' => e = .returned (.bool true) ∧ Below w.heap.size w w' := by
  have TD := Lib.hid (htold_t w hk)
  by_cases h0 : 300 < m
  · have i0 : (300 : Int) < (m : Int) := by omega
    clear hx hp hb hc hz hpz hzb hz2 hk h0
    go_enter Tryz.func7, Tryz.ntmps7
    go_wp2_with fail
    refine TD.out.mono ?_
    rintro e w1 ⟨rfl, b1⟩
    have B1 := Lib.hid b1
    clear b1 TD
    go_wp2_with fail
    go_ret
    exact ⟨rfl, B1.out⟩
  · have i0 : (m : Int) ≤ 300 := by omega
    by_cases h1 : 300 < m1
    · have i1 : (300 : Int) < (m1 : Int) := by omega
      clear hx hp hb hc hz hpz hzb hz2 hk h0 h1
      go_enter Tryz.func7, Tryz.ntmps7
      go_wp2_with fail
      refine TD.out.mono ?_
      rintro e w1 ⟨rfl, b1⟩
      have B1 := Lib.hid b1
      clear b1 TD
      go_wp2_with fail
      go_ret
      exact ⟨rfl, B1.out⟩
    · have i1 : (m1 : Int) ≤ 300 := by omega
      by_cases h2 : 300 < m2
      · have i2 : (300 : Int) < (m2 : Int) := by omega
        clear hx hp hb hc hz hpz hzb hz2 hk h0 h1 h2
        go_enter Tryz.func7, Tryz.ntmps7
        go_wp2_with fail
        refine TD.out.mono ?_
        rintro e w1 ⟨rfl, b1⟩
        have B1 := Lib.hid b1
        clear b1 TD
        go_wp2_with fail
        go_ret
        exact ⟨rfl, B1.out⟩
      · have i2 : (m2 : Int) ≤ 300 := by omega
        have HV := Lib.hid (fun W (h : Below w.heap.size w W) => hverify_any xs A B C m c m1 c1 m2 c2 W hx (hp.below h) hb (hk.kept h) (by omega) (by omega))
        have HR := Lib.hid (fun W (h : Below w.heap.size w W) => refkey_any xs zs A B C m c m1 c1 m2 c2 W hx (hp.below h) hb hc hz (hpz.below h) hzb hz2 (by omega))
        obtain ⟨r, hr⟩ : ∃ r, hverN xs = r := ⟨_, rfl⟩
        rw [hr] at HV HR
        have er : (((r : Nat) : Int) == (r : Int)) = true := by simp
        clear hx hp hb hc hz hpz hzb hz2 hk h0 h1 h2 hr
        go_enter Tryz.func7, Tryz.ntmps7
        go_wp2_with fail
        refine TD.out.mono ?_
        rintro e w1 ⟨rfl, b1⟩
        have B1 := Lib.hid b1
        clear b1 TD
        go_wp2_with fail
        refine (HV.out w1 B1.out).mono ?_
        rintro e w2 ⟨rfl, b2⟩
        have B2 := Lib.hid (B1.out.trans (b2.mono B1.out.size))
        clear b2 B1 HV
        go_wp2_with fail
        refine (HR.out w2 B2.out).mono ?_
        rintro e w3 ⟨rfl, b3⟩
        have B3 := Lib.hid (B2.out.trans (b3.mono B2.out.size))
        clear b3 B2 HR
        go_wp2_with fail
        go_ret
        exact ⟨rfl, B3.out⟩
end Go.Proofs.YtlaiblgnjppmnaaGreatDoor
