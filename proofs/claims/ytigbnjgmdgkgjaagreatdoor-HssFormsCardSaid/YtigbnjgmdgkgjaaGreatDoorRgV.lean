/-
  THE REFERENCE OF CHAPTER 4: Verify, whatever it is given.
-/
import Derived.Test.YtigbnjgmdgkgjaaGreatDoorRgD
namespace Go.Proofs.YtigbnjgmdgkgjaaGreatDoor
open Go Go.RowKit Sh

theorem refver_any (xs ys zs : List Nat) (A B C : Option Addr) (m c m1 c1 m2 c2 : Nat) (w : World) (hx : xs.length = m) (hp : Sr w A xs) (hb : Bytes xs) (hc : m ≤ c) (hml : m ≤ 9223372036854775807) (hy : ys.length = m1) (hpy : Sr w B ys) (hyb : Bytes ys) (hy1 : m1 ≤ 100000) (hz : zs.length = m2) (hpz : Sr w C zs) (hzb : Bytes zs) (hz2 : m2 ≤ c2) (hml2 : m2 ≤ 9223372036854775807) :
    Calls Tryz.prog 51 #[.slice A m c, .slice B m1 c1, .slice C m2 c2] w fun e w' => e = .returned (.int .i64 (verN xs ys zs : Nat)) ∧ Below w.heap.size w w' := by
  cases hf : formN xs with
  | false =>
    refine (refver_bad xs A B C m c m1 c1 m2 c2 w hx hp hb hml hc hf).mono ?_
    rintro e w' ⟨rfl, b⟩
    exact ⟨by unfold verN; rw [hf]; rfl, b⟩
  | true =>
    have h4 := of_decide_eq_true (show decide _ = true from hf)
    obtain rfl : m = 56 := by rw [← hx]; exact h4.1
    obtain ⟨i, hi⟩ : ∃ i, val ((xs.drop 4).take 4) = i + 1 := ⟨val ((xs.drop 4).take 4) - 1, by have := h4.2.2.1; omega⟩
    have hi4 : i < 4 := by have := h4.2.2.2; omega
    have hv : verN xs ys zs = if lcandN ((xs.drop 8).take 16) i ys zs = some ((xs.drop 8).drop 16) then 0 else 3 := by unfold verN; rw [if_pos hf, hi, Nat.add_sub_cancel]
    have hno : (¬ (zs.length = lszN i ∧ val (zs.take 4) < 32 ∧ val ((zs.drop (4 + osN i)).take 4) = 5 ∧ val ((zs.drop 4).take 4) = (kd i).code)) → verN xs ys zs = 3 := fun h => by
      rw [hv]; unfold lcandN; rw [if_neg h, if_neg (fun h => by cases h)]
    have h40 : 4 + osN i = 40 + 32 * (kd i).p := by unfold osN; omega
    by_cases h1 : m2 = lszN i
    · by_cases h2 : val ((zs.drop (40 + 32 * (kd i).p)).take 4) = 5
      · by_cases h3 : val (zs.take 4) < 32
        · exact refver_t ys xs zs i A B C c m1 c1 m2 c2 w hx hp hb hc hf hi4 hi hz hpz hzb hz2 hml2 h1 h2 h3 hy hpy hyb hy1
        · refine (refver_q xs zs i A B C c m1 c1 m2 c2 w hx hp hb hc hf hi4 hi hz hpz hzb hz2 hml2 h1 h2 (by omega)).mono ?_
          rintro e w' ⟨rfl, b⟩
          exact ⟨by rw [hno (fun h => h3 h.2.1)]; rfl, b⟩
      · refine (refver_form xs zs i A B C c m1 c1 m2 c2 w hx hp hb hc hf hi4 hi hz hpz hzb hz2 hml2 h1 h2).mono ?_
        rintro e w' ⟨rfl, b⟩
        exact ⟨by rw [hno (fun h => h2 (by rw [← h40]; exact h.2.2.1))]; rfl, b⟩
    · refine (refver_len xs zs i A B C c m1 c1 m2 c2 w hx hp hb hc hf hi4 hi hz hpz hzb hz2 hml2 h1).mono ?_
      rintro e w' ⟨rfl, b⟩
      exact ⟨by rw [hno (fun h => h1 (by rw [← hz]; exact h.1))]; rfl, b⟩
end Go.Proofs.YtigbnjgmdgkgjaaGreatDoor
