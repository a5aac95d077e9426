/-
  Strings as lists of numbers; 'string(b)' of bytes that are known.
-/
import Derived.Test.YthcebaegijlbdaaDoorMem
import Derived.Laws.BytesArg
import Derived.Laws.BytesString
namespace Go.Proofs.YthcebaegijlbdaaDoor
open Go Go.RowKit Sh

def str (l : List Nat) : ByteArray := strOfNums (l.map fun (n : Nat) => (n : Int))
theorem str_size' (l : List Nat) : (str l).size = l.length := by simp [str, strOfNums_size]
theorem conv_nothing {P : Program} (w : World) (src e dst : TypeId) (hs : P.underlying src = some (.slice e)) (he : P.underlying e = some (.int .u8)) (hd : P.underlying dst = some .string) (p : Option Addr) (c : Nat) :
    (convert src dst (.slice p 0 c)).run P w = .ok (.string (str [])) w := by
  rw [run_convert_bytes_string w src dst e _ 0 c hs he hd]
  cases p <;> simp [Conv.bytesToString, loadCells]
  all_goals rfl
/-- string(b), b's bytes known. -/
theorem conv_bytes {P : Program} (w : World) (src e dst : TypeId) (hs : P.underlying src = some (.slice e)) (he : P.underlying e = some (.int .u8)) (hd : P.underlying dst = some .string) (p : Option Addr) (n c : Nat) (xs : List Nat) (hn : xs.length = n)
    (h : 0 < xs.length → ∃ b o, p = some ⟨b, o, none⟩ ∧ BytesAt w b o xs) : (convert src dst (.slice p n c)).run P w = .ok (.string (str xs)) w := by
  subst hn
  by_cases h0 : 0 < xs.length
  · obtain ⟨b, o, rfl, hb⟩ := h h0
    refine run_convert_bytes_arg (P := P) w src e hs he b o xs.length c (xs.map fun (n : Nat) => (n : Int)) (by simp) (fun i hi => ?_) dst hd
    rw [hb i hi]
    simp [gt, List.getD_eq_getElem?_getD, List.getElem?_eq_getElem hi]
  · obtain rfl : xs = [] := List.eq_nil_of_length_eq_zero (by omega)
    exact conv_nothing w src e dst hs he hd p c
end Go.Proofs.YthcebaegijlbdaaDoor
