/-
  TupleMatch walked.
-/
import Derived.Test.YtlaiblgnjppmnaaTpMa
import Derived.Test.YtlaiblgnjppmnaaTpMb
namespace Go.Proofs.Ytlaiblgnjppmnaa
open Go Go.RowKit Sh

theorem tmatch_t (n c : Nat) (p : Option Addr) (G : Nat → Fld) (op wh : Int) (w : World) (hn : n ≤ 9223372036854775807) (hr : Rw w p n G) :
    Calls Try.prog 6 #[.slice p n c, .int .i64 op, .int .i64 wh] w fun e w' => e = .returned (.bool true) ∧ Below w.heap.size w w' := by
  cases hmb : mayV n G with
  | true =>
    have hfew := fewN_le (mayV_iff.1 hmb).1
    obtain ⟨kk, hkk, hke⟩ := mod_bigT n (by omega) (by omega) wh
    rcases okV_kinds ((mayV_iff.1 hmb).2 kk hkk) with h | h
    · exact tmatch_one n c kk p G op wh w hn hr hmb hkk hke h
    · exact tmatch_two n c kk p G op wh w hn hr hmb hkk hke h
  | false =>
    have MW := Lib.hid (May_t n c p G w hn hr)
    rw [hmb] at MW
    clear hmb hr
    go_enter Try.func6, Try.ntmps6
    go_wp2_with fail
    refine MW.out.mono ?_
    rintro e w1 ⟨rfl, b1⟩
    have B1 := Lib.hid b1
    clear b1 MW
    go_wp2_with fail
    refine (ttold_t _).mono ?_
    rintro e w9 ⟨rfl, b9⟩
    have B9 := Lib.hid (B1.out.trans (b9.mono B1.out.size))
    clear b9
    go_wp2_with fail
    go_ret
    exact ⟨rfl, B9.out⟩
end Go.Proofs.Ytlaiblgnjppmnaa
