/-
  PACKAGE genesis
-/
import Derived.Test.YtidklgicmhdapaaGreatDoorAv32
namespace Go.Proofs.YtidklgicmhdapaaGreatDoor
open Go Go.RowKit Sh

theorem flatten_le {C : Nat} : ∀ {l : List Ky}, (∀ y ∈ l, y.X.length ≤ C) → ((l.map (·.X)).flatten).length ≤ C * l.length
  | [], _ => by simp
  | a :: l, h => by
    have h1 := h a List.mem_cons_self
    have h2 := flatten_le (l := l) fun y hy => h y (List.mem_cons_of_mem _ hy)
    rw [List.map_cons, List.flatten_cons, List.length_append, List.length_cons, Nat.mul_add]
    omega
structure MK9 (w0 W : World) (l : List Nat) : Prop where
  res : Blk W w0.heap.size 23 (u8s zH)
  dig : ∃ s r, Dig W (w0.heap.size + 1) l s r
  bel : Below w0.heap.size w0 W
set_option maxRecDepth 100000 in
set_option maxHeartbeats 1000000 in
theorem marked_t (s : ByteArray) (l : List Ky) (p : Option Addr) (n c : Nat) (w : World) (hln : l.length = n) (hr : RowL w p 1 kyv l) (hs : ∀ y ∈ l, Sr w y.A y.X) (hb : ∀ y ∈ l, Bytes y.X) (hc : ∀ y ∈ l, y.X.length ≤ y.c ∧ y.X.length ≤ 2000000) (hn : n ≤ 5) (h4 : s.size ≤ 100) (hk : KAt w) :
    Calls Tryz.prog 56 #[.string s, .slice p n c] w fun e w' => e = .returned (.agg (u8s (sum (bs s ++ (l.map (·.X)).flatten))).toArray) ∧ Below w.heap.size w w' := by
  have HR := Lib.hid hr; have HS := Lib.hid hs; have HB := Lib.hid hb; have HC := Lib.hid hc; have HN := Lib.hid hn; have H4 := Lib.hid h4; have HK := Lib.hid hk; have HG := Lib.hid hk.lt; have HLN := Lib.hid hln
  have FL := Lib.hid (fun (j : Nat) => show ((l.take j).map (·.X)).flatten.length ≤ 10000000 from by
    have h1 := flatten_le (C := 2000000) (l := l.take j) fun y hy => (hc y (List.mem_of_mem_take hy)).2
    have h2 : (l.take j).length ≤ 5 := by rw [List.length_take]; omega
    omega)
  clear hr hs hb hc h4 hk hln
  obtain ⟨S, hS⟩ : ∃ S, sum (bs s ++ (l.map (·.X)).flatten) = S := ⟨_, rfl⟩
  have HSL := Lib.hid (show S.length = 32 from by rw [← hS]; rfl); have HSS := Lib.hid hS
  rw [hS]
  clear hS
  go_enter Tryz.func56, Tryz.ntmps56
  go_wp2_with fail
  refine (new_t _).mono ?_
  rintro e w1 ⟨rfl, hw⟩
  have k : Blk w1 w.heap.size 23 (u8s zH) ∧ Dig w1 (w.heap.size + 1) [] z0 (List.replicate 64 0) ∧ Below w.heap.size w w1 ∧ w1.heap.size = w.heap.size + 2 := by
    rw [hw]
    exact ⟨(Blk.new w 23 (u8s zH)).alloc _, Dig.zero (Blk.new2 w _ 145 DZ), ((Below.refl _ _).alloc (Nat.le_refl _) _).alloc (by simp) _, by simp⟩
  obtain ⟨k0, k1, bw, hz⟩ := k
  have K0 := Lib.hid k0; have K1 := Lib.hid k1; have BW := Lib.hid bw; have HZ := Lib.hid hz
  clear hw k0 k1 bw hz
  obtain ⟨w2, c2, e2, hc2, s2, b2⟩ := conv_txt s w1
  have S2 := Lib.hid s2; have B2 := Lib.hid b2; have HC2 := Lib.hid hc2
  clear s2 b2 hc2
  go_wp2_with fail
  clear e2
  have BB := Lib.hid (BW.out.trans (B2.out.mono BW.out.size))
  have D2 := Lib.hid (K1.out.below B2.out K1.out.blk.lt)
  have R2 := Lib.hid (K0.out.below B2.out K0.out.lt)
  refine (write_u w.heap.size (w.heap.size + 1) _ _ [] (bs s) (some ⟨w1.heap.size, 0, none⟩) s.size c2 w2 D2.out (bs_bytes s) (Sl.ne S2.out (fun a ha => by cases ha; show w1.heap.size ≠ w.heap.size + 1; have := HZ.out; omega)) (bs_length s) HC2.out (by have := H4.out; show 0 + s.size < _; omega) (HK.out.below BB.out HG.out) (by omega) HG.out).mono ?_
  rintro e w3 ⟨rfl, d3, t3, b3⟩
  rw [List.nil_append] at d3
  have M3 := Lib.hid (show MK9 w w3 (bs s) from ⟨R2.out.but t3 R2.out.lt (by omega), d3, BB.out.trans b3⟩)
  clear d3 t3 b3 K0 K1 BW BB D2 R2 S2 B2 HC2 HZ
  go_wp2_with fail
  go_loopw [15] (fun t wr => ∃ j : Nat, j ≤ n ∧ t = .int .i64 (j : Int) ∧ MK9 w wr (bs s ++ ((l.take j).map (·.X)).flatten)) (fun t _ => n - (intOf t).toNat)
  case atStart => exact ⟨0, by omega, rfl, by rw [List.take_zero, List.map_nil, List.flatten_nil, List.append_nil]; exact M3.out⟩
  case round =>
    clear M3
    obtain ⟨j, hj, rfl, mj⟩ := hrel
    have MJ := Lib.hid mj
    clear mj
    have LJ := Lib.hid (show (bs s ++ ((l.take j).map (·.X)).flatten).length ≤ 10000100 from by
      rw [List.length_append, bs_length]
      have h1 := FL.out j
      have h2 := H4.out
      omega)
    by_cases hlt : j < n
    · obtain ⟨y, hy⟩ : ∃ y, l[j]? = some y := ⟨_, List.getElem?_eq_getElem (by rw [HLN.out]; exact hlt)⟩
      obtain ⟨bq, o, hpe, hbl, rg⟩ := (HR.out.below MJ.out.bel) j y hy
      subst hpe
      have c1 : wr.cell? ⟨bq, o + j, none⟩ = some (.slice y.A y.X.length y.c) := by have := rg 0 _ rfl; rw [Nat.mul_one, Nat.add_zero] at this; exact this
      have j1 : (j : Int) < (n : Int) := by omega
      have HY := Lib.hid hy
      have HM := List.mem_of_getElem? hy
      obtain ⟨ds, dr, dd⟩ := MJ.out.dig
      have W_ := Lib.hid (write_u w.heap.size (w.heap.size + 1) ds dr _ y.X y.A y.X.length y.c wr dd (HB.out y HM) (Sl.old (HS.out y HM) MJ.out.bel (by omega)) rfl (HC.out y HM).1 (by have h1 := LJ.out; have h2 := (HC.out y HM).2; omega) (HK.out.below MJ.out.bel HG.out) (by omega) HG.out)
      clear rg hbl hy HM dd
      go_wp2_with fail
      refine W_.out.mono ?_
      rintro e w7 ⟨rfl, d7, t7, b7⟩
      have M7 := Lib.hid (show MK9 w w7 ((bs s ++ ((l.take j).map (·.X)).flatten) ++ y.X) from ⟨MJ.out.res.but t7 MJ.out.res.lt (by omega), d7, MJ.out.bel.trans b7⟩)
      clear d7 t7 b7 W_ MJ c1
      go_wp2_with fail
      go_roundw
      case rel => exact ⟨j + 1, by omega, by go_num, by rw [flatten_snoc HY.out, ← List.append_assoc]; exact M7.out⟩
      case measure => simp [intOf]; omega
    · obtain rfl : j = n := by omega
      clear hlt
      rw [List.take_of_length_le (by rw [HLN.out]; exact Nat.le_refl _)] at MJ LJ
      obtain ⟨ds, dr, dd⟩ := MJ.out.dig
      have DS := Lib.hid (dsum_t (w.heap.size + 1) ds dr _ wr dd (by have := LJ.out; omega) (HK.out.below MJ.out.bel HG.out))
      clear dd
      rw [HSS.out] at DS
      go_wp2_with fail
      refine DS.out.mono ?_
      rintro e w5 ⟨rfl, b5⟩
      have B5 := Lib.hid (MJ.out.bel.trans (b5.mono MJ.out.bel.size)); have K5 := Lib.hid (MJ.out.res.below b5 MJ.out.res.lt)
      clear b5 MJ DS
      have HZL := Lib.hid (show (u8s zH).length = (u8s S).length by rw [u8s_length, u8s_length, HSL.out]; rfl)
      go_wp2_with ((with_reducible refine at_op (.store 23 (.tmp 4) (.tmp 24)) rfl ?_); go_must (refine store_blk 23 (.tmp 4) (.tmp 24) w.heap.size 23 (u8s zH) (u8s S) rfl rfl K5.out HZL.out (hash_size _ HSL.out) (u8s_oneD _) rfl rfl ?_))
      exact ret_blk (p := 4) (ty := 23) rfl rfl w.heap.size 23 _ _ rfl (K5.out.setRow _) Tryz.underlying23 rfl (hash_size _ HSL.out) ⟨rfl, below_setRow B5.out (Nat.le_refl _) _⟩
def anM : ByteArray := { data := #[71, 69, 78, 69] }
def anE (x : Gv) : List Nat := sum (bs anM ++ pg x)
theorem pg_le {x : Gv} (hm : begB x = true) (hs : x.st.length ≤ 1000000) : (pg x).length ≤ 1000400 := by
  have m := begB_h hm
  have h1 := flatten_le (C := 56) (l := x.ks) fun y hy => Nat.le_of_eq (formN_len (m.k y hy))
  have h2 := m.n
  have h3 := m.f2
  unfold pg putG
  simp only [List.length_append, beN_length, txtN]
  omega
theorem pg_bytes {x : Gv} (hb : ∀ y ∈ x.ks, Bytes y.X) (hs : Bytes x.st) : Bytes (pg x) := putE_bytes (e := x.ge) (fun z hz => by
  obtain ⟨y, hy, rfl⟩ := List.mem_map.1 hz
  exact hb y hy) hs
theorem rowL_one (y : Ky) (w : World) (e : TypeId) : RowL (w.alloc (.cells #[.slice y.A y.X.length y.c] e)) (some ⟨w.heap.size, 0, none⟩) 1 kyv [y] := row_one kyv 1 y w e
set_option maxRecDepth 100000 in
set_option maxHeartbeats 1000000 in
theorem ganch_t (x : Gv) (w : World) (h : GvW w x) (hm : begB x = true) (hk : KAt w) :
    Calls Tryz.prog 48 #[.agg (gv x).toArray] w fun e w' => e = .returned (.agg (u8s (anE x)).toArray) ∧ Below w.heap.size w w' := by
  have S0 := Lib.hid (HG9.new h)
  have HK := Lib.hid hk; have HG := Lib.hid hk.lt; have FG := Lib.hid (gv_size x); have HM := Lib.hid hm
  have LX := Lib.hid (pg_le hm h.sl); have BX := Lib.hid (pg_bytes h.kb h.sb)
  clear h hk hm
  obtain ⟨S, hS⟩ : ∃ S, anE x = S := ⟨_, rfl⟩
  have HSL := Lib.hid (show S.length = 32 from by rw [← hS]; rfl); have HSS := Lib.hid hS
  rw [hS]
  clear hS
  go_enter Tryz.func48, Tryz.ntmps48
  go_upto_region 1 with (fail)
  refine world_at (fun Y => HG9 w Y x zH) S0.out ?_
  rintro V s1
  have S1 := Lib.hid s1
  clear s1 S0
  have WT := Lib.hid (written_t x V S1.out.gb.rx HM.out)
  have GA := Lib.hid S1.out.gb.a
  go_wp2_with ((with_reducible refine load_blk 41 (.tmp 1) w.heap.size 41 (gv x) _ rfl rfl ?_ Tryz.underlying41 ?_ ?_ ?_ ?_); exact GA.out; exact rfl; exact FG.out; exact rfl)
  refine WT.out.mono ?_
  rintro e w1 ⟨u, rfl, fr⟩
  obtain ⟨A, c, rfl, hc⟩ := own_form fr.1
  have S2 := Lib.hid (S1.out.below fr.2); have R2 := Lib.hid (Sr.of_own fr.1)
  clear S1 WT GA fr
  have BZ := Lib.hid (show Below w1.heap.size w1 (w1.alloc (.cells #[.slice A (pg x).length c] 24)) from (Below.refl _ _).alloc (Nat.le_refl _) _)
  have S3 := Lib.hid (S2.out.below BZ.out)
  have MT := Lib.hid (marked_t anM [⟨A, c, pg x⟩] (some ⟨w1.heap.size, 0, none⟩) 1 1 (w1.alloc (.cells #[.slice A (pg x).length c] 24)) rfl (rowL_one ⟨A, c, pg x⟩ w1 24)
    (fun y hy => by rw [List.mem_singleton.1 hy]; exact R2.out.below BZ.out) (fun y hy => by rw [List.mem_singleton.1 hy]; exact BX.out) (fun y hy => by rw [List.mem_singleton.1 hy]; exact ⟨hc, by have := LX.out; show (pg x).length ≤ _; omega⟩) (by decide) (by decide) (HK.out.below S3.out.gb.bel HG.out))
  rw [show bs anM ++ (List.map (fun y => y.X) [(⟨A, c, pg x⟩ : Ky)]).flatten = bs anM ++ pg x by simp, show sum (bs anM ++ pg x) = S from HSS.out] at MT
  clear hc R2 BZ S2 LX BX
  unfold anM at MT
  go_wp2_with fail
  refine MT.out.mono ?_
  rintro e w2 ⟨rfl, b2⟩
  have S4 := Lib.hid (S3.out.below b2)
  clear S3 MT b2
  have RES := Lib.hid S4.out.res
  have RZ := Lib.hid (S4.out.res.setRow (u8s S))
  have BF := Lib.hid (below_setRow S4.out.gb.bel (g := w.heap.size + 1) (by omega) (u8s S).toArray)
  have FZ := Lib.hid (hash_size S HSL.out)
  have HZL := Lib.hid (show (u8s zH).length = (u8s S).length by rw [u8s_length, u8s_length, HSL.out]; rfl)
  go_wp2_with ((with_reducible refine at_op (.store 23 (.tmp 2) (.tmp 6)) rfl ?_); go_must (refine store_blk 23 (.tmp 2) (.tmp 6) (w.heap.size + 1) 23 (u8s zH) (u8s S) rfl rfl RES.out HZL.out FZ.out (u8s_oneD _) rfl rfl ?_))
  exact ret_blk (p := 2) (ty := 23) rfl rfl (w.heap.size + 1) 23 _ _ rfl RZ.out Tryz.underlying23 rfl FZ.out ⟨rfl, BF.out⟩
set_option maxRecDepth 100000 in
set_option maxHeartbeats 1000000 in
theorem gAnchor_yes (x : Gv) (w : World) (h : GvW w x) (hi : KI w) (hm : begB x = true) (hk : KAt w) :
    Calls Tryz.prog 38 #[.agg (gv x).toArray] w fun e w' => e = .returned (.agg (u8s (anE x)).toArray) ∧ Below w.heap.size w w' := by
  have S0 := Lib.hid (HG9.new h)
  have HI := Lib.hid hi; have HK := Lib.hid hk; have HG := Lib.hid hk.lt; have FG := Lib.hid (gv_size x); have HM := Lib.hid hm
  clear h hk hm hi
  obtain ⟨S, hS⟩ : ∃ S, anE x = S := ⟨_, rfl⟩
  have HSL := Lib.hid (show S.length = 32 from by rw [← hS]; rfl); have HSS := Lib.hid hS
  rw [hS]
  clear hS
  go_enter Tryz.func38, Tryz.ntmps38
  go_upto_region 1 with (fail)
  refine world_at (fun Y => HG9 w Y x zH) S0.out ?_
  rintro V s1
  have S1 := Lib.hid s1
  clear s1 S0
  have MT := Lib.hid (gMay_t x V S1.out.gb.rx (HI.out.kept S1.out.gb.bel))
  rw [HM.out] at MT
  have GA := Lib.hid S1.out.gb.a
  go_wp2_with ((with_reducible refine load_blk 41 (.tmp 1) w.heap.size 41 (gv x) _ rfl rfl ?_ Tryz.underlying41 ?_ ?_ ?_ ?_); exact GA.out; exact rfl; exact FG.out; exact rfl)
  refine MT.out.mono ?_
  rintro e w1 ⟨rfl, b1⟩
  have S2 := Lib.hid (S1.out.below b1)
  clear S1 MT b1 GA
  have AT := Lib.hid (ganch_t x w1 S2.out.gb.rx HM.out (HK.out.below S2.out.gb.bel HG.out))
  rw [HSS.out] at AT
  have GA := Lib.hid S2.out.gb.a
  go_wp2_with ((with_reducible refine load_blk 41 (.tmp 1) w.heap.size 41 (gv x) _ rfl rfl ?_ Tryz.underlying41 ?_ ?_ ?_ ?_); exact GA.out; exact rfl; exact FG.out; exact rfl)
  refine AT.out.mono ?_
  rintro e w2 ⟨rfl, b2⟩
  have S4 := Lib.hid (S2.out.below b2)
  clear S2 AT b2 GA
  have RES := Lib.hid S4.out.res
  have RZ := Lib.hid (S4.out.res.setRow (u8s S))
  have BF := Lib.hid (below_setRow S4.out.gb.bel (g := w.heap.size + 1) (by omega) (u8s S).toArray)
  have FZ := Lib.hid (hash_size S HSL.out)
  have HZL := Lib.hid (show (u8s zH).length = (u8s S).length by rw [u8s_length, u8s_length, HSL.out]; rfl)
  go_wp2_with ((with_reducible refine at_op (.store 23 (.tmp 2) (.tmp 8)) rfl ?_); go_must (refine store_blk 23 (.tmp 2) (.tmp 8) (w.heap.size + 1) 23 (u8s zH) (u8s S) rfl rfl RES.out HZL.out FZ.out (u8s_oneD _) rfl rfl ?_))
  exact ret_blk (p := 2) (ty := 23) rfl rfl (w.heap.size + 1) 23 _ _ rfl RZ.out Tryz.underlying23 rfl FZ.out ⟨rfl, BF.out⟩
end Go.Proofs.YtidklgicmhdapaaGreatDoor
