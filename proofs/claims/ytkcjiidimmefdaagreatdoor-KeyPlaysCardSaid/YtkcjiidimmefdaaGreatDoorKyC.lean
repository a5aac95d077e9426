/-
  told of layer 15.
-/
import Derived.Test.YtkcjiidimmefdaaGreatDoorKyA
namespace Go.Proofs.YtkcjiidimmefdaaGreatDoor
open Go Go.RowKit Sh

set_option maxRecDepth 100000 in
set_option maxHeartbeats 2000000 in
theorem ktold_t (w : World) (hk : KAt w) (hki : KI w) : Calls Tryz.prog 7 #[] w fun e w' => e = .returned (.bool true) ∧ Below w.heap.size w w' := by
  have e48 : List.replicate 16 0 ++ List.replicate 32 0 = List.replicate 48 0 := rfl
  have NB := Lib.hid (fun W (h : Below w.heap.size w W) => kNew_bad (List.replicate 48 0) 3 0 W rfl (by decide) (hki.kept h))
  have NN := Lib.hid (fun W (h : Below w.heap.size w W) => kNew_no (List.replicate 16 0) (List.replicate 32 0) 2 1 33 W rfl rfl (by decide) rfl (by decide) (hk.below h hk.lt) (hki.kept h))
  have NT := Lib.hid (fun W (h : Below w.heap.size w W) => kNew_t (List.replicate 16 0) (List.replicate 32 0) 2 1 32 W rfl rfl (by decide) rfl (by decide) (hk.below h hk.lt) (hki.kept h))
  rw [e48] at NN NT
  rw [show (((2 : Nat) : Int)) = 2 from rfl] at NN NT
  rw [show (((32 : Nat) : Int)) = 32 from rfl] at NT
  have B0 := Lib.hid (Below.refl w.heap.size w)
  clear hk hki e48
  go_enter Tryz.func7, Tryz.ntmps7
  go_wp2_with fail
  refine (NB.out _ B0.out).mono ?_
  rintro e w1 ⟨rfl, b1⟩
  have B1 := Lib.hid (B0.out.trans (b1.mono B0.out.size))
  clear b1 B0
  go_wp2_with fail
  refine (NN.out _ B1.out).mono ?_
  rintro e w2 ⟨rfl, b2⟩
  have B2 := Lib.hid (B1.out.trans (b2.mono B1.out.size))
  clear b2 B1
  go_wp2_with fail
  refine (NT.out _ B2.out).mono ?_
  rintro e w3 ⟨g, gt, rfl, ks, hg1, hg2, b3⟩
  have B3 := Lib.hid (B2.out.trans (b3.mono B2.out.size))
  have SN := Lib.hid (kSign_no _ _ 2 1 32 g gt (.slice none 0 0) w3 ks)
  have NX := Lib.hid (kNext_t _ _ 2 1 32 32 g gt w3 ks)
  have RS := Lib.hid (kReserved_t _ _ 2 1 32 32 g gt w3 ks)
  rw [show ((noSign 32 : Nat) : Int) = 4 from rfl] at SN
  rw [show (((32 : Nat) : Int)) = 32 from rfl] at NX RS
  clear b3 B2 ks hg1 hg2 NB NN NT
  go_wp2_with (first
    | (go_at_call 11; with_reducible refine SN.out.mono ?_; rintro e w4 ⟨rfl, rfl⟩)
    | (go_at_call 11; with_reducible refine (kSign_nil _).mono ?_; rintro e w4 ⟨rfl, rfl⟩)
    | (go_at_call 14; with_reducible refine NX.out.mono ?_; rintro e w4 ⟨rfl, rfl⟩)
    | (go_at_call 14; with_reducible refine (kNext_nil _).mono ?_; rintro e w4 ⟨rfl, rfl⟩)
    | (go_at_call 15; with_reducible refine RS.out.mono ?_; rintro e w4 ⟨rfl, rfl⟩)
    | (go_at_call 15; with_reducible refine (kReserved_nil _).mono ?_; rintro e w4 ⟨rfl, rfl⟩)
    | (go_at_call 9; with_reducible refine (kReserve_nil _).mono ?_; rintro e w4 ⟨rfl, rfl⟩)
    | (go_at_call 16; with_reducible refine (kPublic_nil _).mono ?_; rintro e w4 ⟨rfl, rfl⟩))
  go_ret
  exact ⟨rfl, B3.out⟩
end Go.Proofs.YtkcjiidimmefdaaGreatDoor
