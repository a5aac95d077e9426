/-
  FEW
  StateAsks walked
  THE REFERENCE OF CHAPTER 10
  THE REFERENCE OF CHAPTER 10
  THE REFERENCE
  THE REFERENCE
  THE REFERENCE
-/
import Derived.Test.YtlipjglehongeaaGreatDoorGa41
import Derived.Test.YtlipjglehongeaaGreatDoorGa10
import Derived.Test.YtlipjglehongeaaGreatDoorGa34
import Derived.Test.YtlipjglehongeaaGreatDoorGa37
import Derived.Test.YtlipjglehongeaaGreatDoorGa40
import Derived.Test.YtlipjglehongeaaGreatDoorGa19
import Derived.Test.YtlipjglehongeaaGreatDoorGa36
import Derived.Test.YtlipjglehongeaaGreatDoorGa32
namespace Go.Proofs.YtlipjglehongeaaGreatDoor
open Go Go.RowKit Sh

end Go.Proofs.YtlipjglehongeaaGreatDoor
namespace Go.Proofs.YtlipjglehongeaaGreatDoor
open Go Go.RowKit Sh

theorem refDigS_t (x : Spv) (w : World) (hx : SpW w x) (hm : spMay x.sp = true) :
    Calls Tryz.prog 70 #[.agg (sv x).toArray] w fun e w' => e = .returned (.agg (u8s (sum (stM ++ putS x.sp))).toArray) ∧ Below w.heap.size w w' := by
  have B0 := Lib.hid ((Blk.new w 46 (sv x)).alloc (.cells (u8s zH).toArray 36))
  have R0 := Lib.hid (Blk.new2 w (.cells (sv x).toArray 46) 36 (u8s zH))
  have BW := Lib.hid (((Below.refl w.heap.size w).alloc (Nat.le_refl _) (.cells (sv x).toArray 46)).alloc (by simp) (.cells (u8s zH).toArray 36))
  have FX := Lib.hid (sv_size x hx.l4)
  have PY := Lib.hid (refPutS_t x _ (hx.below BW.out) hm)
  have HL := Lib.hid (putS_le hm (by show (x.last.map (·.r)).length = 4; rw [List.length_map]; exact hx.l4))
  have HB := Lib.hid (putS_bytes x.sp)
  obtain ⟨xs, hxs⟩ : ∃ l, putS x.sp = l := ⟨_, rfl⟩
  rw [hxs] at PY HL HB ⊢
  clear hx hm hxs
  go_enter Tryz.func70, Tryz.ntmps70
  go_wp2_with ((with_reducible refine load_blk 46 (.tmp 1) w.heap.size 46 (sv x) _ rfl rfl ?_ Tryz.underlying46 ?_ ?_ ?_ ?_); exact B0.out; exact rfl; exact FX.out; exact rfl)
  refine PY.out.mono ?_
  rintro e w2 ⟨u, rfl, fr⟩
  obtain ⟨A, c, rfl, hc, sr2, b2⟩ := fresh_opO fr
  have S2 := Lib.hid sr2
  have R2 := Lib.hid (R0.out.below b2 R0.out.lt); have B2 := Lib.hid (BW.out.trans (b2.mono BW.out.size))
  have OB_ := Lib.hid (refOfB_t xs A xs.length c w2 rfl S2.out HB.out (by have := HL.out; omega))
  clear b2 sr2 fr PY B0 R0 BW hc
  go_wp2_with fail
  refine OB_.out.mono ?_
  rintro e w3 ⟨rfl, b3⟩
  have R3 := Lib.hid (R2.out.below b3 R2.out.lt); have B3 := Lib.hid (B2.out.trans (b3.mono B2.out.size))
  obtain ⟨S, hS⟩ : ∃ S, sum (stM ++ xs) = S := ⟨_, rfl⟩
  have hSl : S.length = 32 := by rw [← hS]; rfl
  rw [hS]
  have HSS := Lib.hid hS; have HSL := Lib.hid hSl
  have HZL := Lib.hid (show (u8s zH).length = (u8s S).length by rw [u8s_length, u8s_length, hSl]; rfl)
  have R4 := Lib.hid (R3.out.setRow (u8s S)); have B4 := Lib.hid (below_setRow B3.out (by omega) (u8s S).toArray (g := w.heap.size + 1))
  clear b3 OB_ hS hSl R2 B2 S2
  go_wp2_with ((with_reducible refine at_op (.store 36 (.tmp 2) (.tmp 5)) rfl ?_); go_must (refine store_blk 36 (.tmp 2) (.tmp 5) (w.heap.size + 1) 36 (u8s zH) (u8s S) rfl rfl R3.out HZL.out (hash_size _ HSL.out) (u8s_oneD _) rfl rfl ?_))
  exact ret_blk (p := 2) (ty := 36) rfl rfl (w.heap.size + 1) 36 _ _ rfl R4.out Tryz.underlying36 rfl (hash_size _ HSL.out) ⟨by rw [HSS.out], B4.out⟩
end Go.Proofs.YtlipjglehongeaaGreatDoor
namespace Go.Proofs.YtlipjglehongeaaGreatDoor
open Go Go.RowKit Sh

structure PR9 (w0 W : World) (x : Gv) (v : Value) (l : List Nat) : Prop where
  a : Blk W w0.heap.size 25 (gv x)
  ow : W.ownsRow w0.heap.size 5 1 v l.length (u8s l)
  bel : Below w0.heap.size w0 W
theorem PR9.below {w0 W W' : World} {x : Gv} {v : Value} {l : List Nat} (h : PR9 w0 W x v l) (hb : Below W.heap.size W W') : PR9 w0 W' x v l := ⟨h.a.below hb h.a.lt, own_below h.ow hb, h.bel.trans (hb.mono h.bel.size)⟩
theorem PR9.grow {w0 W W' : World} {x : Gv} {v v' : Value} {l ys : List Nat} {m : Nat} (h : PR9 w0 W x v l) (hm : ys.length = m) (a1 : W'.ownsRow w0.heap.size 5 1 v' (l.length + m) (u8s (l ++ ys))) (a2 : W.grownBy W' v.ownBlock) : PR9 w0 W' x v' (l ++ ys) :=
  ⟨(a2.block _ h.a.lt (fun q => own_apart h.ow h.a (by decide) q.symm)).trans h.a, by rw [List.length_append, hm]; exact a1, h.bel.grown a2 h.bel.size fun k e => (h.ow.lt k e).1⟩
theorem beN_one (n : Nat) (h : n < 256) : beN n 1 = [n] := by
  unfold beN
  simp
  omega
set_option maxRecDepth 100000 in
set_option maxHeartbeats 1000000 in
theorem gPutR_t (x : Gv) (w : World) (h : GvW w x) (hm : begB x = true) :
    Calls Tryz.prog 15 #[.agg (gv x).toArray] w fun e w' => ∃ u, e = .returned u ∧ Fresh 5 w w' u (pg x) := by
  have m := begB_h hm
  obtain ⟨a, ha⟩ : ∃ a : Nat, x.f = (a : Int) := ⟨x.f.toNat, by have := m.f0; omega⟩
  obtain ⟨b, hb⟩ : ∃ a : Nat, x.rd = (a : Int) := ⟨x.rd.toNat, by have := m.r0; omega⟩
  obtain ⟨k, hk⟩ : ∃ a : Nat, x.wr = (a : Int) := ⟨x.wr.toNat, by have := m.w0; omega⟩
  obtain ⟨n, hn⟩ : ∃ n, x.ks.length = n := ⟨_, rfl⟩
  obtain ⟨kp, hkp⟩ : ∃ n, x.kp = n := ⟨_, rfl⟩
  have a9 : a ≤ 2 := by have := m.f2; omega
  have b9 : b ≤ 15 := by have := m.r1; omega
  have k9 : k ≤ 15 := by have := m.w1; omega
  have n9 : n ≤ 7 := by have := m.n; omega
  have KL := Lib.hid (fun (y : Ky) (hy : y ∈ x.ks) => formN_len (m.k y hy))
  have E := Lib.hid (show pg x = [a, b, k] ++ (x.ks.map (·.X)).flatten ++ txtN x.st from by
    unfold pg putG
    rw [ha, hb, hk]
    simp only [Int.toNat_natCast, beN_one a (by omega), beN_one b (by omega), beN_one k (by omega)]
    simp only [List.cons_append, List.nil_append])
  obtain ⟨xs, hxs⟩ : ∃ l, pg x = l := ⟨_, rfl⟩
  rw [hxs] at E ⊢
  have RC := Lib.hid (fun (W : World) (hb : Blk W w.heap.size 25 (gv x)) => gv_cells hb)
  rw [ha, hb, hk, hn, hkp] at RC
  have i1 : IntKind.u8.wrap (a : Int) = (a : Int) := IntWalk.u8_in _ (by omega)
  have i2 : IntKind.u8.wrap (b : Int) = (b : Int) := IntWalk.u8_in _ (by omega)
  have i3 : IntKind.u8.wrap (k : Int) = (k : Int) := IntWalk.u8_in _ (by omega)
  have HN := Lib.hid hn; have HKP := Lib.hid hkp; have HX := Lib.hid h
  have P0 := Lib.hid (show PR9 w ((w.alloc (.cells (gv x).toArray 25)).alloc (.cells #[.int .u8 (a : Int), .int .u8 (b : Int), .int .u8 (k : Int)] 5)) x (.slice (some ⟨(w.alloc (.cells (gv x).toArray 25)).heap.size, 0, none⟩) 3 3) [a, b, k] from by
    have g0 := GB9.new h
    have bz : Below (w.alloc (.cells (gv x).toArray 25)).heap.size (w.alloc (.cells (gv x).toArray 25)) ((w.alloc (.cells (gv x).toArray 25)).alloc (.cells #[.int .u8 (a : Int), .int .u8 (b : Int), .int .u8 (k : Int)] 5)) := (Below.refl _ _).alloc (Nat.le_refl _) _
    exact ⟨g0.a.below bz g0.a.lt, World.ownsRow_lit (w.alloc (.cells (gv x).toArray 25)) (e := 5) (size := 1) (base := w.heap.size) #[.int .u8 (a : Int), .int .u8 (b : Int), .int .u8 (k : Int)] 3 g0.bel.size (by decide) rfl, g0.bel.trans (bz.mono g0.bel.size)⟩)
  have c := RC.out _ (GB9.new h).a
  obtain ⟨c0, c1, c2, _, _⟩ := c
  clear h hm m ha hb hk hn hkp hxs
  go_enter Tryz.func15, Tryz.ntmps15
  go_upto_region 2 with (fail)
  clear c0 c1 c2 i1 i2 i3
  refine world_at (fun Y => PR9 w Y x (.slice (some ⟨w.heap.size + 1, 0, none⟩) 3 3) [a, b, k]) (by have h := P0.out; simpa using h) ?_
  rintro Y p1
  have P1 := Lib.hid p1
  clear p1 P0 a9 b9 k9
  obtain ⟨pre, hpre⟩ : ∃ l, [a, b, k] = l := ⟨_, rfl⟩
  have LP := Lib.hid (show pre.length = 3 from by rw [← hpre]; rfl)
  rw [hpre] at P1 E
  clear hpre
  go_wp2_with fail
  go_loopw [3, 4] (fun v t wr => ∃ j : Nat, j ≤ n ∧ t = .int .i64 (j : Int) ∧ PR9 w wr x v (pre ++ ((x.ks.take j).map (·.X)).flatten)) (fun _ t _ => n - (intOf t).toNat)
  case atStart => exact ⟨0, by omega, rfl, by rw [List.take_zero, List.map_nil, List.flatten_nil, List.append_nil]; exact P1.out⟩
  case round =>
    clear P1
    obtain ⟨j, hj, rfl, pj⟩ := hrel
    have PJ := Lib.hid pj
    clear pj
    have LJ := Lib.hid (show (pre ++ ((x.ks.take j).map (·.X)).flatten).length ≤ 3 + 56 * 7 from by
      have h1 := flatten_le (C := 56) (l := x.ks.take j) (fun y hy => Nat.le_of_eq (KL.out y (List.mem_of_mem_take hy)))
      have h2 : (x.ks.take j).length ≤ 7 := by rw [List.length_take]; omega
      rw [List.length_append, LP.out]
      omega)
    obtain ⟨_, _, _, c3, c4⟩ := RC.out _ PJ.out.a
    by_cases hlt : j < n
    · obtain ⟨y, hy⟩ : ∃ y, x.ks[j]? = some y := ⟨_, List.getElem?_eq_getElem (by rw [HN.out]; exact hlt)⟩
      obtain ⟨bq, o, hpe, hbl, rg⟩ := (HX.out.below PJ.out.bel).ks j y hy
      obtain rfl : kp = some ⟨bq, o, none⟩ := HKP.out.symm.trans hpe
      have c1 : wr.cell? ⟨bq, o + j, none⟩ = some (.slice y.A y.X.length y.c) := by have := rg 0 _ rfl; rw [Nat.mul_one, Nat.add_zero] at this; exact this
      have j1 : (j : Int) < (n : Int) := by omega
      have HY := Lib.hid hy
      have HM := List.mem_of_getElem? hy
      have SK := Lib.hid ((HX.out.k y HM).below PJ.out.bel)
      have L63 := Lib.hid (show (pre ++ ((x.ks.take j).map (·.X)).flatten).length + y.X.length ≤ 70368744177664 from by have h1 := LJ.out; have h2 := KL.out y HM; omega)
      clear rg hpe hbl hy HM c4
      go_wp2_with ((with_reducible refine at_op (.call { callee := .builtin .append, args := #[.tmp 22, .tmp 27], argTypes := #[23, 23] }) rfl ?_); go_must (refine append_bytes (.tmp 22) (.tmp 27) 23 rfl rfl 5 Tryz.underlying23 byte_info w.heap.size _ _ _ y.X rfl PJ.out.ow y.A y.X.length y.c rfl rfl SK.out L63.out PJ.out.bel.size ?_); intro v3 w11 a1 a2 a3)
      have P7 := Lib.hid (PJ.out.grow rfl a1.out a2.out)
      clear a1 a2 a3 PJ SK c1 c3
      go_wp2_with fail
      go_roundw
      case rel => exact ⟨j + 1, by omega, by go_num, by rw [flatten_snoc HY.out, ← List.append_assoc]; exact P7.out⟩
      case measure => simp [intOf]; omega
    · obtain rfl : j = n := by omega
      clear hlt
      rw [List.take_of_length_le (by rw [HN.out]; exact Nat.le_refl _)] at PJ LJ
      have TX := Lib.hid (reftext_t x.st x.sp x.st.length x.sc wr rfl (HX.out.st.below PJ.out.bel) (by have := HX.out.sl; omega))
      go_wp2_with fail
      refine TX.out.mono ?_
      rintro e w8 ⟨u, rfl, fr⟩
      obtain ⟨A8, c8, rfl, hc8, s8, b8⟩ := fresh_opO fr
      have P8 := Lib.hid (PJ.out.below b8); have S8 := Lib.hid s8
      have L63 := Lib.hid (show (pre ++ (x.ks.map (·.X)).flatten).length + (txtN x.st).length ≤ 70368744177664 from by have h1 := LJ.out; have h2 := HX.out.sl; rw [show (txtN x.st).length = 4 + x.st.length by unfold txtN; rw [List.length_append, beN_length]]; omega)
      clear fr hc8 s8 b8 PJ TX c3 c4
      go_wp2_with ((with_reducible refine at_op (.call { callee := .builtin .append, args := #[.tmp 29, .tmp 32], argTypes := #[23, 23] }) rfl ?_); go_must (refine append_bytes (.tmp 29) (.tmp 32) 23 rfl rfl 5 Tryz.underlying23 byte_info w.heap.size _ _ _ (txtN x.st) rfl P8.out.ow A8 (txtN x.st).length c8 rfl rfl S8.out L63.out P8.out.bel.size ?_); intro v3 w11 a1 a2 a3)
      have P9 := Lib.hid (P8.out.grow rfl a1.out a2.out)
      rw [← E.out] at P9
      clear a1 a2 a3 P8 S8
      go_wp2_with fail
      go_ret
      exact ⟨_, rfl, P9.out.ow, P9.out.bel⟩
end Go.Proofs.YtlipjglehongeaaGreatDoor
namespace Go.Proofs.YtlipjglehongeaaGreatDoor
open Go Go.RowKit Sh

def anL : List Nat := [71, 69, 78, 69]
def liL : List Nat := [76, 73, 78, 75]
theorem anL_eq : bs anM = anL := by decide +kernel
theorem liL_eq : bs liM = liL := by decide +kernel
theorem anL_bytes : Bytes anL := sl_bytes (by decide)
theorem liL_bytes : Bytes liL := sl_bytes (by decide)
theorem pg_leN {x : Gv} {N : Nat} (hm : begB x = true) (hs : x.st.length ≤ N) : (pg x).length ≤ N + 400 := by
  have m := begB_h hm
  have h1 := flatten_le (C := 56) (l := x.ks) fun y hy => Nat.le_of_eq (formN_len (m.k y hy))
  have h2 := m.n
  have h3 := m.f2
  unfold pg putG
  simp only [List.length_append, beN_length, txtN]
  omega
set_option maxRecDepth 100000 in
set_option maxHeartbeats 1000000 in
theorem gAnchorR_no (x : Gv) (w : World) (h : GvW w x) (hc : GvC x) (hm : begB x = false) :
    Calls Tryz.prog 21 #[.agg (gv x).toArray] w fun e w' => e = .returned (.agg (u8s zH).toArray) ∧ Below w.heap.size w w' := by
  have S0 := Lib.hid (HG9.new h)
  have HC := Lib.hid hc; have FG := Lib.hid (gv_size x); have HM := Lib.hid hm
  clear h hc hm
  go_enter Tryz.func21, Tryz.ntmps21
  go_upto_region 1 with (fail)
  refine world_at (fun Y => HG9 w Y x zH) S0.out ?_
  rintro V s1
  have S1 := Lib.hid s1
  clear s1 S0
  have MT := Lib.hid (gMayR_t x V S1.out.gb.rx HC.out)
  rw [HM.out] at MT
  have GA := Lib.hid S1.out.gb.a
  go_wp2_with ((with_reducible refine load_blk 25 (.tmp 1) w.heap.size 25 (gv x) _ rfl rfl ?_ Tryz.underlying25 ?_ ?_ ?_ ?_); exact GA.out; exact rfl; exact FG.out; exact rfl)
  refine MT.out.mono ?_
  rintro e w1 ⟨rfl, b1⟩
  have S2 := Lib.hid (S1.out.below b1)
  clear S1 MT b1 GA
  have RES := Lib.hid S2.out.res
  have RZ := Lib.hid (S2.out.res.setRow (u8s zH))
  have BF := Lib.hid (below_setRow S2.out.gb.bel (g := w.heap.size + 1) (by omega) (u8s zH).toArray)
  have BZ := built_hz
  have FZ := Lib.hid (hash_size zH rfl)
  go_wp2_with ((with_reducible refine at_op (.store 36 (.tmp 2) (.tmp 6)) rfl ?_); go_must (refine store_blk 36 (.tmp 2) (.tmp 6) (w.heap.size + 1) 36 (u8s zH) (u8s zH) rfl rfl RES.out rfl FZ.out (u8s_oneD _) rfl rfl ?_))
  exact ret_blk (p := 2) (ty := 36) rfl rfl (w.heap.size + 1) 36 _ _ rfl RZ.out Tryz.underlying36 rfl FZ.out ⟨rfl, BF.out⟩
set_option maxRecDepth 100000 in
set_option maxHeartbeats 1000000 in
theorem gAnchorR_yes (x : Gv) (w : World) (h : GvW w x) (hc : GvC x) (hm : begB x = true) (hs : x.st.length ≤ 900000) :
    Calls Tryz.prog 21 #[.agg (gv x).toArray] w fun e w' => e = .returned (.agg (u8s (anE x)).toArray) ∧ Below w.heap.size w w' := by
  have S0 := Lib.hid (HG9.new h)
  have HC := Lib.hid hc; have FG := Lib.hid (gv_size x); have HM := Lib.hid hm
  have PL := Lib.hid (pg_leN hm hs); have PB := Lib.hid (pg_bytes h.kb h.sb)
  clear h hc hm hs
  obtain ⟨S, hS⟩ : ∃ S, anE x = S := ⟨_, rfl⟩
  have HSL := Lib.hid (show S.length = 32 from by rw [← hS]; rfl)
  have HSS := Lib.hid (show sum (anL ++ pg x) = S from by rw [← hS, ← anL_eq]; rfl)
  rw [hS]
  clear hS
  go_enter Tryz.func21, Tryz.ntmps21
  go_upto_region 1 with (fail)
  refine world_at (fun Y => HG9 w Y x zH) S0.out ?_
  rintro V s1
  have S1 := Lib.hid s1
  clear s1 S0
  have MT := Lib.hid (gMayR_t x V S1.out.gb.rx HC.out)
  rw [HM.out] at MT
  have GA := Lib.hid S1.out.gb.a
  go_wp2_with ((with_reducible refine load_blk 25 (.tmp 1) w.heap.size 25 (gv x) _ rfl rfl ?_ Tryz.underlying25 ?_ ?_ ?_ ?_); exact GA.out; exact rfl; exact FG.out; exact rfl)
  refine MT.out.mono ?_
  rintro e w1 ⟨rfl, b1⟩
  have S2 := Lib.hid (S1.out.below b1)
  clear S1 MT b1 GA
  have S4 := Lib.hid (sr_frz anL w1 [] 5 (4, 5))
  have BA := Lib.hid (show Below w1.heap.size w1 (w1.alloc (.cells (u8s anL).toArray 5 (4, 5))) from (Below.refl _ _).alloc (Nat.le_refl _) _)
  rw [List.append_nil] at S4
  have S3 := Lib.hid (S2.out.below BA.out)
  have PT := Lib.hid (gPutR_t x _ S3.out.gb.rx HM.out)
  have GA := Lib.hid S3.out.gb.a
  have kc := fun (w : World) (C : Array Value) (n c : Nat) => Lib.run_convert_bytes_const (P := Tryz.prog) w 23 5 C n c Tryz.underlying23 Tryz.underlying5
  clear S2 BA
  go_wp2_with ((with_reducible refine load_blk 25 (.tmp 1) w.heap.size 25 (gv x) _ rfl rfl ?_ Tryz.underlying25 ?_ ?_ ?_ ?_); exact GA.out; exact rfl; exact FG.out; exact rfl)
  clear kc
  refine PT.out.mono ?_
  rintro e w2 ⟨u, rfl, fr⟩
  obtain ⟨A, c, rfl, _, s2, b2⟩ := fresh_opO fr
  have S5 := Lib.hid (S3.out.below b2); have SP := Lib.hid s2; have SA := Lib.hid (S4.out.below b2)
  obtain ⟨xs, hxs⟩ : ∃ l, pg x = l := ⟨_, rfl⟩
  rw [hxs] at PL PB HSS SP ⊢
  obtain ⟨ga, hga⟩ : ∃ g, w1.heap.size = g := ⟨_, rfl⟩
  rw [hga] at SA ⊢
  clear fr s2 b2 S3 S4 PT GA hxs hga
  have E := Lib.hid (show catO [⟨some ⟨ga, 0, none⟩, 4, anL⟩, ⟨A, c, xs⟩] = anL ++ xs by simp [catO])
  have BP := Lib.hid (Blk.new w2 23 (partsO [⟨some ⟨ga, 0, none⟩, 4, anL⟩, ⟨A, c, xs⟩]))
  have BW := Lib.hid (show Below w2.heap.size w2 (w2.alloc (.cells (partsO [⟨some ⟨ga, 0, none⟩, 4, anL⟩, ⟨A, c, xs⟩]).toArray 23)) from (Below.refl _ _).alloc (Nat.le_refl _) _)
  have CT := Lib.hid (catO_t [⟨some ⟨ga, 0, none⟩, 4, anL⟩, ⟨A, c, xs⟩] w2.heap.size 2 2 23 _ rfl BP.out (fun x hx => by
    simp only [List.mem_cons, List.not_mem_nil, or_false] at hx
    rcases hx with rfl | rfl
    · exact SA.out.below BW.out
    · exact SP.out.below BW.out) (by rw [E.out, List.length_append]; have := PL.out; show 4 + xs.length ≤ _; omega) (by decide))
  have S6 := Lib.hid (S5.out.below BW.out)
  go_wp2_with fail
  refine CT.out.mono ?_
  rintro e w4 ⟨u, rfl, fr⟩
  rw [E.out] at fr
  have YB := Lib.hid (app_bytes anL_bytes PB.out)
  have YL := Lib.hid (show (anL ++ xs).length ≤ 100000000 by rw [List.length_append]; have := PL.out; show 4 + xs.length ≤ _; omega)
  obtain ⟨ys, hys⟩ : ∃ l, anL ++ xs = l := ⟨_, rfl⟩
  rw [hys] at fr YB YL HSS
  clear hys
  obtain ⟨A4, c4, rfl, _, s4, b4⟩ := fresh_opO fr
  have S7 := Lib.hid (S6.out.below b4); have R4 := Lib.hid s4
  clear fr s4 b4 S5 S6 CT BW BP E SA SP PL PB
  have US := Lib.hid (refsum_t ys A4 ys.length c4 w4 rfl R4.out YB.out YL.out)
  rw [HSS.out] at US
  go_wp2_with fail
  refine US.out.mono ?_
  rintro e w5 ⟨rfl, b5⟩
  have S8 := Lib.hid (S7.out.below b5)
  clear S7 US b5 R4
  have RES := Lib.hid S8.out.res
  have RZ := Lib.hid (S8.out.res.setRow (u8s S))
  have BF := Lib.hid (below_setRow S8.out.gb.bel (g := w.heap.size + 1) (by omega) (u8s S).toArray)
  have FZ := Lib.hid (hash_size S HSL.out)
  have HZL := Lib.hid (show (u8s zH).length = (u8s S).length by rw [u8s_length, u8s_length, HSL.out]; rfl)
  go_wp2_with ((with_reducible refine at_op (.store 36 (.tmp 2) (.tmp 13)) rfl ?_); go_must (refine store_blk 36 (.tmp 2) (.tmp 13) (w.heap.size + 1) 36 (u8s zH) (u8s S) rfl rfl RES.out HZL.out FZ.out (u8s_oneD _) rfl rfl ?_))
  exact ret_blk (p := 2) (ty := 36) rfl rfl (w.heap.size + 1) 36 _ _ rfl RZ.out Tryz.underlying36 rfl FZ.out ⟨rfl, BF.out⟩
end Go.Proofs.YtlipjglehongeaaGreatDoor
namespace Go.Proofs.YtlipjglehongeaaGreatDoor
open Go Go.RowKit Sh

def gB (x : Spv) (q : Option Addr) (n c : Nat) : List Value := sv x ++ [.slice q n c]
section
variable {E : Nat → Prop}
end
end Go.Proofs.YtlipjglehongeaaGreatDoor
namespace Go.Proofs.YtlipjglehongeaaGreatDoor
open Go Go.RowKit Sh
variable {E : Nat → Prop}

end Go.Proofs.YtlipjglehongeaaGreatDoor
namespace Go.Proofs.YtlipjglehongeaaGreatDoor
open Go Go.RowKit Sh

set_option maxRecDepth 100000 in
set_option maxHeartbeats 1000000 in
theorem refNew_t (rd wx : Int) (w : World) : Calls Tryz.prog 28 #[.int .i64 rd, .int .i64 wx] w fun e w' => e = .returned (.agg (sv (nsp rd wx 0 1 2 3)).toArray) ∧ Below w.heap.size w w' := by
  have Y0 := Lib.hid (Blk.new2 w (.cells #[.int .i64 0, .slice none 0 0, .slice none 0 0, .int .i64 0, .int .i64 0, .int .i64 0, .int .i64 0, .int .i64 0, .slice none 0 0, .bool false, .int .i64 0, .int .i64 0, .int .i64 0, .slice none 0 0, .bool false, .int .i64 0, .int .i64 0, .int .i64 0, .slice none 0 0, .bool false, .int .i64 0, .int .i64 0, .int .i64 0, .slice none 0 0, .bool false] 46) 46 [.int .i64 0, .slice none 0 0, .slice none 0 0, .int .i64 0, .int .i64 0, .int .i64 0, .int .i64 0, .int .i64 0, .slice none 0 0, .bool false, .int .i64 0, .int .i64 0, .int .i64 0, .slice none 0 0, .bool false, .int .i64 0, .int .i64 0, .int .i64 0, .slice none 0 0, .bool false, .int .i64 0, .int .i64 0, .int .i64 0, .slice none 0 0, .bool false])
  have S0 := Lib.hid (show NW w (((w.alloc (.cells #[.int .i64 0, .slice none 0 0, .slice none 0 0, .int .i64 0, .int .i64 0, .int .i64 0, .int .i64 0, .int .i64 0, .slice none 0 0, .bool false, .int .i64 0, .int .i64 0, .int .i64 0, .slice none 0 0, .bool false, .int .i64 0, .int .i64 0, .int .i64 0, .slice none 0 0, .bool false, .int .i64 0, .int .i64 0, .int .i64 0, .slice none 0 0, .bool false] 46)).alloc (.cells #[.int .i64 0, .slice none 0 0, .slice none 0 0, .int .i64 0, .int .i64 0, .int .i64 0, .int .i64 0, .int .i64 0, .slice none 0 0, .bool false, .int .i64 0, .int .i64 0, .int .i64 0, .slice none 0 0, .bool false, .int .i64 0, .int .i64 0, .int .i64 0, .slice none 0 0, .bool false, .int .i64 0, .int .i64 0, .int .i64 0, .slice none 0 0, .bool false] 46)).setRow (w.heap.size + 1) (sv (nK rd wx 0)).toArray) rd wx 0 from by
    have b1 := (Below.refl w.heap.size w).alloc (Nat.le_refl _) (.cells #[.int .i64 0, .slice none 0 0, .slice none 0 0, .int .i64 0, .int .i64 0, .int .i64 0, .int .i64 0, .int .i64 0, .slice none 0 0, .bool false, .int .i64 0, .int .i64 0, .int .i64 0, .slice none 0 0, .bool false, .int .i64 0, .int .i64 0, .int .i64 0, .slice none 0 0, .bool false, .int .i64 0, .int .i64 0, .int .i64 0, .slice none 0 0, .bool false] 46)
    exact ⟨(Blk.new2 w _ _ _).setRow _, ((Blk.new w 46 [.int .i64 0, .slice none 0 0, .slice none 0 0, .int .i64 0, .int .i64 0, .int .i64 0, .int .i64 0, .int .i64 0, .slice none 0 0, .bool false, .int .i64 0, .int .i64 0, .int .i64 0, .slice none 0 0, .bool false, .int .i64 0, .int .i64 0, .int .i64 0, .slice none 0 0, .bool false, .int .i64 0, .int .i64 0, .int .i64 0, .slice none 0 0, .bool false]).alloc _).setRow_far (by omega) _, below_setRow (b1.alloc (by simp) _) (Nat.le_succ _) _⟩)
  have F0 := Lib.hid (sv_size (nK rd wx 0) rfl); have F10 := Lib.hid (sv_one (nK rd wx 0))
  have hl : sv (nK rd wx 0) = [.int .i64 0, .slice none 0 0, .slice none 0 0, .int .i64 (bits .and .i64 rd 15), .int .i64 (bits .and .i64 wx 15), .int .i64 0, .int .i64 0, .int .i64 0, .slice none 0 0, .bool false, .int .i64 0, .int .i64 0, .int .i64 0, .slice none 0 0, .bool false, .int .i64 0, .int .i64 0, .int .i64 0, .slice none 0 0, .bool false, .int .i64 0, .int .i64 0, .int .i64 0, .slice none 0 0, .bool false] := rfl
  rw [hl] at S0 F0 F10
  clear hl
  go_enter Tryz.func28, Tryz.ntmps28
  go_upto_region 3 with (((with_reducible refine store_blk 46 (.tmp 5) (.tmp 11) (w.heap.size + 1) 46 [.int .i64 0, .slice none 0 0, .slice none 0 0, .int .i64 0, .int .i64 0, .int .i64 0, .int .i64 0, .int .i64 0, .slice none 0 0, .bool false, .int .i64 0, .int .i64 0, .int .i64 0, .slice none 0 0, .bool false, .int .i64 0, .int .i64 0, .int .i64 0, .slice none 0 0, .bool false, .int .i64 0, .int .i64 0, .int .i64 0, .slice none 0 0, .bool false] [.int .i64 0, .slice none 0 0, .slice none 0 0, .int .i64 (bits .and .i64 rd 15), .int .i64 (bits .and .i64 wx 15), .int .i64 0, .int .i64 0, .int .i64 0, .slice none 0 0, .bool false, .int .i64 0, .int .i64 0, .int .i64 0, .slice none 0 0, .bool false, .int .i64 0, .int .i64 0, .int .i64 0, .slice none 0 0, .bool false, .int .i64 0, .int .i64 0, .int .i64 0, .slice none 0 0, .bool false] rfl rfl ?_ ?_ ?_ ?_ ?_ ?_ ?_); exact Y0.out; exact rfl; exact F0.out; exact F10.out; exact rfl; exact rfl))
  clear Y0 F0 F10
  go_loopw [6] (fun x wr => ∃ j : Nat, j ≤ 4 ∧ x = .int .i64 (j : Int) ∧ NW w wr rd wx j) (fun x _ => 4 - (intOf x).toNat)
  case atStart => exact ⟨0, by omega, rfl, S0.out⟩
  case round =>
    obtain ⟨j, hj, rfl, hS⟩ := hrel
    have S1 := Lib.hid hS
    clear hS S0
    by_cases hlt : j < 4
    · have j1 : (j : Int) < 4 := by omega
      have ct : ∃ v, wr.cell? ⟨w.heap.size + 1, 5 + j * 5, none⟩ = some v := by
        rw [S1.out.a.cell]
        exact ⟨_, List.getElem?_eq_getElem (by rw [sv_len _ rfl]; omega)⟩
      obtain ⟨v, ct⟩ := ct
      have fz := S1.out.a.frozen (5 + j * 5)
      have S2 := Lib.hid (show NW w (wr.setCell ⟨w.heap.size + 1, 5 + j * 5, none⟩ (.int .i64 (j : Int))) rd wx (j + 1) from by
        refine ⟨?_, S1.out.z.far (p := ⟨w.heap.size + 1, 5 + j * 5, none⟩) (by show w.heap.size ≠ w.heap.size + 1; omega) _, S1.out.bel.setCell (p := ⟨w.heap.size + 1, 5 + j * 5, none⟩) (Nat.le_succ _) _⟩
        rw [← nK_set rd wx j hlt]
        exact S1.out.a.store _ _)
      go_wp2_with fail
      go_roundw
      case rel => exact ⟨j + 1, hlt, by go_num, S2.out⟩
      case measure => simp [intOf]; omega
    · obtain rfl : j = 4 := by omega
      clear hlt
      have FS := Lib.hid (sv_size (nK rd wx 4) rfl); have F1 := Lib.hid (sv_one (nK rd wx 4))
      have A1 := Lib.hid S1.out.a; have Z1 := Lib.hid S1.out.z
      have Z2 := Lib.hid (S1.out.z.setRow (sv (nK rd wx 4)))
      have B2 := Lib.hid (below_setRow S1.out.bel (Nat.le_refl _) (sv (nK rd wx 4)).toArray)
      go_wp2_with (first
        | ((with_reducible refine load_blk 46 (.tmp 5) (w.heap.size + 1) 46 (sv (nK rd wx 4)) _ rfl rfl ?_ Tryz.underlying46 ?_ ?_ ?_ ?_); exact A1.out; exact rfl; exact FS.out; exact rfl)
        | ((with_reducible refine store_blk 46 (.tmp 4) (.tmp 21) w.heap.size 46 [.int .i64 0, .slice none 0 0, .slice none 0 0, .int .i64 0, .int .i64 0, .int .i64 0, .int .i64 0, .int .i64 0, .slice none 0 0, .bool false, .int .i64 0, .int .i64 0, .int .i64 0, .slice none 0 0, .bool false, .int .i64 0, .int .i64 0, .int .i64 0, .slice none 0 0, .bool false, .int .i64 0, .int .i64 0, .int .i64 0, .slice none 0 0, .bool false] (sv (nK rd wx 4)) rfl rfl ?_ ?_ ?_ ?_ ?_ ?_ ?_); exact Z1.out; exact rfl; exact FS.out; exact F1.out; exact rfl; exact rfl))
      exact ret_blk (p := 4) (ty := 46) rfl rfl w.heap.size 46 _ _ rfl Z2.out Tryz.underlying46 rfl FS.out ⟨rfl, B2.out⟩
end Go.Proofs.YtlipjglehongeaaGreatDoor
