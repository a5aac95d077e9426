/-
  PACKAGE lms
  PACKAGE lms, Form
  PACKAGE state, what is pure
-/
import Derived.Test.YtidklgicmhdapaaGreatDoorAv14
import Derived.Test.YtidklgicmhdapaaGreatDoorAv6
import Derived.Test.YtidklgicmhdapaaGreatDoorAv13
import Derived.Deep.DeepCutAuto
import Derived.Laws.ResultCell
import Derived.Deep.RegionHeld3
import Derived.WalkSpells
import Derived.Test.YtidklgicmhdapaaGreatDoorAv7
namespace Go.Proofs.YtidklgicmhdapaaGreatDoor
open Go Go.RowKit Sh

theorem readKey_any (xs : List Nat) (A : Option Addr) (m c : Nat) (w : World) (hx : xs.length = m) (hp : Sr w A xs) (hb : Bytes xs) (hml : m ≤ 9223372036854775807) (hk : KI w) :
    Calls Tryz.prog 49 #[.slice A m c] w fun e w' => ∃ v J, J.length = 48 ∧ e = .returned (.tuple #[.agg (pkv v J).toArray, .bool (formN xs)]) ∧ (formN xs = true → ∃ i, i < 4 ∧ v = (kd i).w ∧ val ((xs.drop 4).take 4) = i + 1 ∧ J = xs.drop 8) ∧ Below w.heap.size w w' := by
  cases hf : formN xs with
  | false =>
    by_cases h56 : m = 56
    · subst h56
      refine (readKey_bad xs A c w hx hp hb hk hf).mono ?_
      rintro e w' ⟨rfl, b⟩
      exact ⟨0, List.replicate 48 0, List.length_replicate, rfl, (fun h => by cases h), b⟩
    · refine (readKey_len A m c w h56 hml).mono ?_
      rintro e w' ⟨rfl, b⟩
      exact ⟨0, List.replicate 48 0, List.length_replicate, rfl, (fun h => by cases h), b⟩
  | true =>
    have hf' := hf
    unfold formN at hf'
    rw [decide_eq_true_iff] at hf'
    obtain ⟨h1, h2, h3, h4⟩ := hf'
    obtain rfl : m = 56 := by omega
    obtain ⟨i, hi⟩ : ∃ i, val ((xs.drop 4).take 4) = i + 1 := ⟨val ((xs.drop 4).take 4) - 1, by omega⟩
    refine (readKey_ok xs A i c w h1 hp hb hk (by omega) h2 hi).mono ?_
    rintro e w' ⟨rfl, b⟩
    exact ⟨_, xs.drop 8, by rw [List.length_drop, h1], rfl, fun _ => ⟨i, by omega, rfl, hi, rfl⟩, b⟩
theorem pk_len (v : Nat) (J : List Nat) (h : J.length = 48) : pkz.length = (pkv v J).length := by rw [pkv_length v J h]; rfl
set_option maxRecDepth 100000 in
theorem form_t (xs : List Nat) (A : Option Addr) (m c : Nat) (w : World) (hx : xs.length = m) (hp : Sr w A xs) (hb : Bytes xs) (hml : m ≤ 9223372036854775807) (hk : KI w) :
    Calls Tryz.prog 64 #[.slice A m c] w fun e w' => e = .returned (.bool (formN xs)) ∧ Below w.heap.size w w' := by
  have RK := Lib.hid (readKey_any xs A m c w hx hp hb hml hk)
  clear hx hp hb hml hk
  go_enter Tryz.func64, Tryz.ntmps64
  go_wp2_with fail
  refine RK.out.mono ?_
  rintro e w1 ⟨v, J, hJ, rfl, -, b1⟩
  have HJ := Lib.hid hJ; have B1 := Lib.hid b1; have R1 := Lib.hid (Blk.new w1 87 pkz)
  obtain ⟨f, hf⟩ : ∃ f, formN xs = f := ⟨_, rfl⟩
  rw [hf]
  have HF := Lib.hid hf
  clear hJ b1 hf RK
  go_wp2_with ((with_reducible refine store_blk 87 (.tmp 3) (.tmp 8) w1.heap.size 87 pkz (pkv v J) rfl rfl ?_ ?_ ?_ ?_ ?_ ?_ ?_); exact R1.out; exact pk_len _ _ HJ.out; exact pkv_size _ _ HJ.out; exact pkv_one _ _; exact rfl; exact rfl)
  go_ret
  exact ⟨by rw [HF.out]; rfl, below_setRow (B1.out.alloc B1.out.size _) B1.out.size _⟩
end Go.Proofs.YtidklgicmhdapaaGreatDoor

namespace Go.Proofs.YtidklgicmhdapaaGreatDoor
open Go Go.RowKit Sh

structure Src where
  xs : List Nat
  bad : Bool
  wr : Bool
def gNum (s : Src) (n : Nat) : Nat × Src := ((rNum s.xs s.bad n).1, ⟨(rNum s.xs s.bad n).2.1, (rNum s.xs s.bad n).2.2, s.wr⟩)
def gFlag (s : Src) : Bool × Src := (((gNum s 1).1 == 1), { (gNum s 1).2 with wr := s.wr || decide (1 < (gNum s 1).1) })
def sTxt (s : Src) := rTxt s.xs s.bad s.xs.length
def gFl (s : Src) : List Fld × Src := (fl (fNr (sTxt s).1) (gotN (sTxt s).1), ⟨(sTxt s).2.1, (sTxt s).2.2, s.wr || !fOK (sTxt s).1⟩)
def i64N (v : Nat) : Int := IntKind.i64.wrap (v : Int)
def gIt (s : Src) : It × Src :=
  let a := gNum s 1
  let b := gNum a.2 8
  let c := gFl b.2
  (⟨a.1, i64N b.1, c.1⟩, c.2)
def gWt (s : Src) : Wt × Src :=
  let a := gNum s 1
  let b := gNum a.2 4
  let c := gFlag b.2
  let d := gFl c.2
  (⟨a.1, b.1, c.1, d.1⟩, d.2)
def gLa (c : Int) (s : Src) : Rp × Src :=
  let a := gNum s 4
  let b := gNum a.2 1
  let d := gFlag b.2
  let e := gFl d.2
  (⟨c, a.1, b.1, e.1, d.1⟩, e.2)
def gRow {α : Type} (g : Src → α × Src) (s : Src) : Nat → List α × Src
  | 0 => ([], s)
  | j + 1 => ((gRow g s j).1 ++ [(g (gRow g s j).2).1], (g (gRow g s j).2).2)
def gLas (s : Src) : Nat → List Rp × Src
  | 0 => ([], s)
  | j + 1 => ((gLas s j).1 ++ [(gLa (j : Int) (gLas s j).2).1], (gLa (j : Int) (gLas s j).2).2)
def sSrc (xs : List Nat) : Src := ⟨xs, false, false⟩
def tS1 (xs : List Nat) := gNum (sSrc xs) 8
def tS2 (xs : List Nat) := gNum (tS1 xs).2 1
def tS3 (xs : List Nat) := gNum (tS2 xs).2 1
def tS4 (xs : List Nat) := gNum (tS3 xs).2 1
def tS5 (xs : List Nat) := gRow gIt (tS4 xs).2 (tS4 xs).1
def tS6 (xs : List Nat) := gNum (tS5 xs).2 1
def tS7 (xs : List Nat) := gRow gWt (tS6 xs).2 (tS6 xs).1
def tS8 (xs : List Nat) := gLas (tS7 xs).2 4
def gotS (xs : List Nat) : Sp := ⟨i64N (tS1 xs).1, (tS5 xs).1, (tS7 xs).1, (tS2 xs).1, (tS3 xs).1, (tS8 xs).1⟩
def endS (s : Src) : Nat := if s.wr then 2 else endN s.xs s.bad
def okS (xs : List Nat) : Bool := decide (endS (tS8 xs).2 = 0) && spMay (gotS xs)
def InL (t : List Fld) : Prop := ∀ f ∈ t, InR f
structure InS (s : Sp) : Prop where
  it : ∀ i ∈ s.its, InL i.t
  wt : ∀ x ∈ s.wts, InL x.p
  la : ∀ r ∈ s.last, InL r.t
theorem gRow_len {α : Type} (g : Src → α × Src) (s : Src) : ∀ k, (gRow g s k).1.length = k
  | 0 => rfl
  | k + 1 => by
    show ((gRow g s k).1 ++ [_]).length = _
    rw [List.length_append, gRow_len g s k]; rfl
theorem gNum_bytes {s : Src} (n : Nat) (h : Bytes s.xs) : Bytes (gNum s n).2.xs := (rNum_bytes s.xs s.bad n h).1
theorem gFlag_bytes {s : Src} (h : Bytes s.xs) : Bytes (gFlag s).2.xs := gNum_bytes 1 h
theorem gFl_bytes {s : Src} (h : Bytes s.xs) : Bytes (gFl s).2.xs := (rTxt_bytes s.xs s.bad _ h).1
theorem gIt_bytes {s : Src} (h : Bytes s.xs) : Bytes (gIt s).2.xs := gFl_bytes (gNum_bytes 8 (gNum_bytes 1 h))
theorem gWt_bytes {s : Src} (h : Bytes s.xs) : Bytes (gWt s).2.xs := gFl_bytes (gFlag_bytes (gNum_bytes 4 (gNum_bytes 1 h)))
theorem gRow_bytes {α : Type} {g : Src → α × Src} (hb : ∀ s, Bytes s.xs → Bytes (g s).2.xs) {s : Src} (h : Bytes s.xs) : ∀ k, Bytes (gRow g s k).2.xs
  | 0 => h
  | k + 1 => hb _ (gRow_bytes hb h k)
end Go.Proofs.YtidklgicmhdapaaGreatDoor
