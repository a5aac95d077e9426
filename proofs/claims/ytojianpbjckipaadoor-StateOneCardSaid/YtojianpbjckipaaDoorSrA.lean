/-
  THE REFERENCE: Own, Find, last.
-/
import Derived.Test.YtojianpbjckipaaDoorSpF
import Derived.Test.YtojianpbjckipaaDoorSrP
namespace Go.Proofs.YtojianpbjckipaaDoor
open Go Go.RowKit Sh

set_option maxRecDepth 100000 in
theorem refOwn_t (x : Spv) (c : Int) (w : World) (hx : SpW w x) :
    Calls Tryd.prog 50 #[.agg (sv x).toArray, .int .i64 c] w fun e w' => e = .returned (.int .i64 (ownN c x.sp.its : Nat)) ∧ Below w.heap.size w w' := by
  have S0 := Lib.hid (SB.new hx)
  have HN := Lib.hid hx.n
  show Calls _ _ _ _ fun e w' => e = .returned (.int .i64 (ownN c (x.its.map (·.i)) : Nat)) ∧ _
  clear hx
  go_enter Tryd.func50, Tryd.ntmps50
  go_upto_region 1 with (fail)
  change Code.wp _ _ _ _ (w.alloc (.cells (sv x).toArray 31))
  obtain ⟨V, hV⟩ : ∃ V, w.alloc (.cells (sv x).toArray 31) = V := ⟨_, rfl⟩
  rw [hV] at S0 ⊢
  clear hV
  obtain ⟨_, c1, _, _, _⟩ := sv_cells S0.out.a
  have HI := Lib.hid S0.out.rx.its
  obtain ⟨ip, hip⟩ : ∃ p, x.ip = p := ⟨_, rfl⟩
  obtain ⟨n, hn⟩ : ∃ n, x.its.length = n := ⟨_, rfl⟩
  rw [hip, hn] at c1
  rw [hip] at HI
  rw [hn] at HN
  have HL := Lib.hid hn
  have nB : (n : Int) ≤ 9223372036854775807 := by have := HN.out; omega
  clear hip hn
  go_upto_region 3 with (fail)
  go_loopw [5, 6] (fun s t wr => ∃ j cn : Nat, j ≤ n ∧ s = .int .i64 (cn : Int) ∧ t = .int .i64 (j : Int) ∧ cn = ownN c ((x.its.take j).map (·.i)) ∧ V = wr) (fun _ t _ => n - (intOf t).toNat)
  case atStart => exact ⟨0, 0, by omega, rfl, rfl, rfl, rfl⟩
  case round =>
    obtain ⟨j, cn, hj, rfl, rfl, hcn, rfl⟩ := hrel
    by_cases hlt : j < n
    · obtain ⟨y, hy⟩ : ∃ y, x.its[j]? = some y := ⟨_, List.getElem?_eq_getElem (by rw [HL.out]; exact hlt)⟩
      obtain ⟨b, o, rfl, hbl, rg⟩ := HI.out j y hy
      have y0 : V.cell? ⟨b, o + j * 3, none⟩ = some (.int .i64 y.i.own) := rg 0 _ rfl
      have j1 : (j : Int) < (n : Int) := by omega
      have hs : ownN c ((x.its.take (j + 1)).map (·.i)) = cn + if y.i.own == c then 1 else 0 := by rw [take_snoc hy, List.map_append, hcn]; exact ownN_snoc _ _ _
      have cb : cn ≤ j := by
        rw [hcn]
        exact Nat.le_trans (ownN_le _ _) (by rw [List.length_map, List.length_take]; omega)
      have cnB : (cn : Int) < 9223372036854775807 := by omega
      obtain ⟨z, hz⟩ : ∃ z, y.i.own = z := ⟨_, rfl⟩
      rw [hz] at y0 hs
      clear hcn rg hy hbl cb
      cases he : (z == c) with
      | true =>
        rw [he, if_pos rfl] at hs
        have HS := Lib.hid hs
        clear hs
        go_wp2_with fail
        go_roundw
        case rel => exact ⟨j + 1, cn + 1, hlt, by go_num, by go_num, HS.out.symm, trivial⟩
        case measure => simp [intOf]; omega
      | false =>
        rw [he, if_neg (by decide)] at hs
        have HS := Lib.hid hs
        clear hs
        go_wp2_with fail
        go_roundw
        case rel => exact ⟨j + 1, cn, hlt, rfl, by go_num, HS.out.symm, trivial⟩
        case measure => simp [intOf]; omega
    · obtain rfl : j = n := by omega
      have hr : cn = ownN c (x.its.map (·.i)) := by rw [hcn, List.take_of_length_le (by rw [HL.out]; exact Nat.le_refl _)]
      have HR := Lib.hid hr
      clear hlt hcn hr
      go_wp2_with fail
      go_ret
      exact ⟨by rw [HR.out]; rfl, S0.out.bel⟩
set_option maxRecDepth 100000 in
theorem refFind_t (x : Spv) (pp : Option Addr) (m c : Nat) (G : Nat → Fld) (w : World) (hm : m ≤ 9223372036854775807) (hr : Rw w pp m G) (hx : SpW w x) :
    Calls Tryd.prog 35 #[.agg (sv x).toArray, .slice pp m c] w fun e w' => e = .returned (.int .i64 (fndI (fl m G) x.sp.its)) ∧ Below w.heap.size w w' := by
  have S0 := Lib.hid (SB.new hx)
  have HN := Lib.hid hx.n
  show Calls _ _ _ _ fun e w' => e = .returned (.int .i64 (fndI (fl m G) (x.its.map (·.i)))) ∧ _
  rw [← ix_i]
  have IS := Lib.hid (fun j y => ixI_some (B := fun y : Itv => mT (fl m G) y.i.t) (l := x.its) (j := j) (x := y)); have IN := Lib.hid (ixI_none (B := fun y : Itv => mT (fl m G) y.i.t) (l := x.its))
  obtain ⟨r, hrr⟩ : ∃ r, ixI (fun y : Itv => mT (fl m G) y.i.t) x.its = r := ⟨_, rfl⟩
  rw [hrr] at IS IN ⊢
  have HR := Lib.hid hr; have HM := Lib.hid hm
  clear hx hrr hr hm
  go_enter Tryd.func35, Tryd.ntmps35
  go_upto_region 1 with (fail)
  change Code.wp _ _ _ _ (w.alloc (.cells (sv x).toArray 31))
  obtain ⟨V, hV⟩ : ∃ V, w.alloc (.cells (sv x).toArray 31) = V := ⟨_, rfl⟩
  rw [hV] at S0 ⊢
  clear hV
  obtain ⟨ip, hip⟩ : ∃ p, x.ip = p := ⟨_, rfl⟩
  obtain ⟨n, hn⟩ : ∃ n, x.its.length = n := ⟨_, rfl⟩
  rw [hn] at HN
  have HL := Lib.hid hn; have HIP := Lib.hid hip
  have nB : (n : Int) ≤ 9223372036854775807 := by have := HN.out; omega
  clear hip hn
  go_upto_region 2 with (fail)
  go_loopw [5] (fun t wr => ∃ j : Nat, j ≤ n ∧ t = .int .i64 (j : Int) ∧ SB w wr x ∧ ∀ (i : Nat) (y : Itv), i < j → x.its[i]? = some y → mT (fl m G) y.i.t = false) (fun t _ => n - (intOf t).toNat)
  case atStart => exact ⟨0, by omega, rfl, S0.out, fun i y hi => absurd hi (by omega)⟩
  case round =>
    clear S0
    obtain ⟨j, hj, rfl, s0, hb⟩ := hrel
    have S0 := Lib.hid s0; have HB := Lib.hid hb
    clear s0 hb
    have c1 := (sv_cells S0.out.a).2.1
    rw [HIP.out, HL.out] at c1
    by_cases hlt : j < n
    · obtain ⟨y, hy⟩ : ∃ y, x.its[j]? = some y := ⟨_, List.getElem?_eq_getElem (by rw [HL.out]; exact hlt)⟩
      obtain ⟨b, o, hpe, hbl, rg⟩ := S0.out.rx.its j y hy
      obtain rfl : ip = some ⟨b, o, none⟩ := HIP.out.symm.trans hpe
      have y0 : wr.cell? ⟨b, o + j * 3 + 2, none⟩ = some (.slice y.p y.i.t.length y.c) := rg 2 _ rfl
      have j1 : (j : Int) < (n : Int) := by omega
      have MT := Lib.hid (refmatch_t m c y.i.t.length y.c pp y.p G (gl y.i.t) wr HM.out (S0.out.rx.it y (List.mem_of_getElem? hy)).n (HR.out.below S0.out.bel) (S0.out.rx.it y (List.mem_of_getElem? hy)).t)
      have he : matchN m G y.i.t.length (gl y.i.t) = mT (fl m G) y.i.t := by rw [← fl_gl y.i.t, mT_fl, fl_length]; exact matchN_congr (fun _ _ => rfl) (fun j hj => gl_fl hj)
      rw [he] at MT
      have HY := Lib.hid hy
      obtain ⟨bb, hbb⟩ : ∃ b, mT (fl m G) y.i.t = b := ⟨_, rfl⟩
      rw [hbb] at MT
      have HBB := Lib.hid hbb
      clear he hbb hy rg hbl hpe
      go_wp2_with fail
      refine MT.out.mono ?_
      rintro e w2 ⟨rfl, b2⟩
      have S2 := Lib.hid (S0.out.below b2)
      clear b2 MT S0 c1 y0
      cases bb with
      | true =>
        have hR := IS.out j y HY.out HBB.out HB.out
        subst hR
        clear IS IN
        go_wp2_with fail
        go_ret
        exact ⟨rfl, S2.out.bel⟩
      | false =>
        have HB2 := Lib.hid (show ∀ (i : Nat) (y : Itv), i < j + 1 → x.its[i]? = some y → mT (fl m G) y.i.t = false from fun i y hi hy => by
          rcases Nat.lt_or_ge i j with h | h
          · exact HB.out i y h hy
          · obtain rfl : i = j := by omega
            rw [HY.out] at hy
            obtain rfl := Option.some.inj hy
            exact HBB.out)
        go_wp2_with fail
        go_roundw
        case rel => exact ⟨j + 1, hlt, by go_num, S2.out, HB2.out⟩
        case measure => simp [intOf]; omega
    · obtain rfl : j = n := by omega
      have hR := IN.out (fun i y hy => HB.out i y (by have := (List.getElem?_eq_some_iff.1 hy).1; rw [HL.out] at this; exact this) hy)
      subst hR
      clear hlt
      go_wp2_with fail
      go_ret
      exact ⟨rfl, S0.out.bel⟩
end Go.Proofs.YtojianpbjckipaaDoor
