/-
  PACKAGE space: the library's Delete of one element of a row of the call's own; count, owned.
-/
import Derived.Test.YtojianpbjckipaaGreatDoorSpI
import Derived.ArgAppend
namespace Go.Proofs.YtojianpbjckipaaGreatDoor
open Go Go.RowKit Sh

/-- 's[l:h]' up to a bound, its value unused. -/
theorem slice_three {P : Program} {t e : TypeId} {sz : Nat} (hu : P.underlying t = some (.slice e)) (hs : (P.info? e).map (·.size) = some sz) (p : Option Addr) (n c : Nat) (l h : Nat) (h1 : l ≤ h) (h2 : h ≤ n) (hc : n ≤ c) :
    ∃ v, ∀ W, (Instr.slice t (.slice p n c) (some (.int .i64 (l : Int))) (some (.int .i64 (h : Int))) (some (.int .i64 (n : Int)))).run P W = .ok v W := by
  have hz : ∀ W, (sizeOf e).run P W = .ok sz W := by
    cases hq : P.info? e with
    | none => simp [hq] at hs
    | some i => simp [hq] at hs; intro W; simp [sizeOf, typeInfo, hq, hs]
  have e0 : ∀ W, (Instr.sliceBound (.int .i64 (n : Int)) c .slice3Acap).run P W = .ok n W := fun W => by simp [Instr.sliceBound, asIntOf, hc]
  have e1 : ∀ W, (Instr.sliceBound (.int .i64 (h : Int)) n .slice3B).run P W = .ok h W := fun W => by simp [Instr.sliceBound, asIntOf, h2]
  have e2 : ∀ W, (Instr.sliceBound (.int .i64 (l : Int)) h .slice3C).run P W = .ok l W := fun W => by simp [Instr.sliceBound, asIntOf, h1]
  exact ⟨_, fun W => by simp [Instr.slice, run_underlying hu, Instr.sliceBounds, e0, e1, e2, hz, Result.andThen]; rfl⟩
/-- The count of the items of which B holds. -/
def cntI (B : Itv → Bool) (l : List Itv) : Nat := l.countP B
theorem cntI_snoc (B : Itv → Bool) (l : List Itv) (x : Itv) : cntI B (l ++ [x]) = cntI B l + if B x then 1 else 0 := by
  unfold cntI
  rw [List.countP_append, List.countP_singleton]
theorem cntI_own (c : Int) (l : List Itv) : cntI (fun x => x.i.own == c) l = ownN c (l.map (·.i)) := by
  unfold cntI ownN
  rw [List.countP_map]
  rfl
set_option maxRecDepth 100000 in
set_option maxHeartbeats 800000 in
theorem count_t (F : FuncId) (C : Array Value) (B : Itv → Bool) (l : List Itv) (n c : Nat) (p : Option Addr) (w : World) (hl : l.length = n) (hn : n ≤ 9223372036854775807) (hp : RowL w p 3 iv l)
    (hcf : ∀ args W, (callFunc F args).run Tryz.prog W = .ok (.enter F args) W)
    (hcall : ∀ x W, x ∈ l → Below w.heap.size w W → Calls Tryz.prog F (#[.agg (iv x).toArray] ++ C) W fun e W' => e = .returned (.bool (B x)) ∧ Below W.heap.size W W') :
    Calls Tryz.prog 156 #[.slice p n c, .func (.func F) #[] C] w fun e w' => e = .returned (.int .i64 (cntI B l : Nat)) ∧ Below w.heap.size w w' := by
  have HP := Lib.hid hp; have HC := Lib.hid hcall; have HL := Lib.hid hl
  clear hp hcall
  go_enter Tryz.func156, Tryz.ntmps156
  go_upto_region 3 with (fail)
  go_loopw [5, 10] (fun x y wr => ∃ j : Nat, j ≤ n ∧ y = .int .i64 (j : Int) ∧ x = .int .i64 (cntI B (l.take j) : Nat) ∧ Below w.heap.size w wr) (fun _ y _ => n - (intOf y).toNat)
  case atStart => exact ⟨0, by omega, rfl, rfl, Below.refl _ _⟩
  case round =>
    obtain ⟨j, hj, rfl, rfl, bw⟩ := hrel
    have BW := Lib.hid bw
    clear bw
    by_cases hlt : j < n
    · obtain ⟨x, hx⟩ : ∃ x, l[j]? = some x := ⟨_, List.getElem?_eq_getElem (by omega)⟩
      obtain ⟨b, o, rfl, hbl, rg⟩ := HP.out j x hx
      have RG := Lib.hid (rows_below rg BW.out hbl)
      have FS := Lib.hid (iv_size x); have F1 := Lib.hid (iv_oneA x)
      have j1 : (j : Int) < (n : Int) := by omega
      have nB : (n : Int) ≤ 9223372036854775807 := by omega
      have A0 := Lib.hid (Blk.new wr 62 [.int .i64 0, .int .i64 0, .slice none 0 0])
      have A1 := Lib.hid (A0.out.setRow (iv x))
      have W1 := Lib.hid (below_setRow ((Below.refl wr.heap.size wr).alloc (Nat.le_refl _) (.cells #[.int .i64 0, .int .i64 0, .slice none 0 0] 62)) (Nat.le_refl _) (iv x).toArray)
      have WX := Lib.hid (BW.out.trans (W1.out.mono BW.out.size))
      have CX := Lib.hid (HC.out x _ (List.mem_of_getElem? hx) WX.out)
      have sn := cntI_snoc B (l.take j) x
      rw [← take_snoc hx] at sn
      have le : cntI B (l.take j) ≤ n := by have h1 : cntI B (l.take j) ≤ (l.take j).length := List.countP_le_length; rw [List.length_take] at h1; omega
      obtain ⟨k, hk⟩ : ∃ k, cntI B (l.take j) = k := ⟨_, rfl⟩
      rw [hk] at sn le ⊢
      have k1 : k < n → IntKind.i64.wrap ((k : Int) + 1) = ((k + 1 : Nat) : Int) := fun h => by rw [IntWalk.i64_in _ (by omega)]; omega
      have hkn : k < n := by
        have h1 : cntI B (l.take j) ≤ (l.take j).length := List.countP_le_length
        rw [hk, List.length_take] at h1
        omega
      have k2 := k1 hkn
      have SN := Lib.hid sn
      have HLT := Lib.hid hlt
      clear rg hx hbl sn hk k1 hlt
      go_wp2_with (first
        | ((with_reducible refine at_op (.load 62 (.tmp 12)) rfl ?_); go_must (refine wpList_load_mid rfl 62 (.tmp 12) rfl b (o + j * 3) rfl (iv x) _ RG.out Tryz.underlying62 rfl FS.out ?_))
        | ((with_reducible refine store_blk 62 (.tmp 7) (.tmp 13) wr.heap.size 62 [.int .i64 0, .int .i64 0, .slice none 0 0] (iv x) rfl rfl ?_ ?_ ?_ ?_ ?_ ?_ ?_); exact A0.out; exact rfl; exact FS.out; exact F1.out; exact rfl; exact rfl)
        | ((with_reducible refine load_blk 62 (.tmp 7) wr.heap.size 62 (iv x) _ rfl rfl ?_ Tryz.underlying62 ?_ ?_ ?_ ?_); exact A1.out; exact rfl; exact FS.out; exact rfl))
      refine CX.out.mono ?_
      rintro e w2 ⟨rfl, b2⟩
      have B2 := Lib.hid (WX.out.trans (b2.mono WX.out.size))
      clear b2 BW RG FS F1 CX A0 A1 W1 WX
      cases hb : B x with
      | true =>
        have S2 := Lib.hid (show cntI B (l.take (j + 1)) = k + 1 from by rw [SN.out, hb]; rfl)
        clear hb SN
        go_wp2_with fail
        go_roundw
        case rel => exact ⟨j + 1, HLT.out, by go_num, by rw [S2.out]; exact congrArg (Value.int .i64) (by omega), B2.out⟩
        case measure => have := HLT.out; simp [intOf]; omega
      | false =>
        have S2 := Lib.hid (show cntI B (l.take (j + 1)) = k from by rw [SN.out, hb]; rfl)
        clear hb SN
        go_wp2_with fail
        go_roundw
        case rel => exact ⟨j + 1, HLT.out, by go_num, by rw [S2.out], B2.out⟩
        case measure => have := HLT.out; simp [intOf]; omega
    · obtain rfl : j = n := by omega
      clear hlt
      have ht : l.take j = l := by rw [← hl, List.take_length]
      rw [ht]
      go_wp2_with fail
      go_ret
      exact ⟨rfl, BW.out⟩
theorem owned1_t (cb : Nat) (c : Int) (x : Itv) (W : World) (hc : W.cell? ⟨cb, 0, none⟩ = some (.int .i64 c)) (hl : cb < W.heap.size) :
    Calls Tryz.prog 157 #[.agg (iv x).toArray, .pointer (some ⟨cb, 0, none⟩)] W fun e W' => e = .returned (.bool (x.i.own == c)) ∧ Below W.heap.size W W' := by
  have B0 := Lib.hid (Blk.new W 62 (iv x))
  have BW := Lib.hid ((Below.refl W.heap.size W).alloc (Nat.le_refl _) (.cells (iv x).toArray 62))
  have c0 := (BW.out.cell (p := ⟨cb, 0, none⟩) hl).trans hc
  have d0 := (iv_cells B0.out).1
  obtain ⟨ow, how⟩ : ∃ n, x.i.own = n := ⟨_, rfl⟩
  rw [how] at d0 ⊢
  clear how
  obtain ⟨xs, hx⟩ : ∃ l, iv x = l := ⟨_, rfl⟩
  rw [hx] at B0 BW c0 d0 ⊢
  clear hx hc hl B0
  go_enter Tryz.func157, Tryz.ntmps157
  go_wp2_with fail
  go_ret
  exact ⟨rfl, BW.out⟩
theorem owned_t (x : Spv) (c : Int) (w : World) (hx : SpW w x) :
    Calls Tryz.prog 150 #[.agg (sv x).toArray, .int .i64 c] w fun e w' => e = .returned (.int .i64 (ownN c x.sp.its : Nat)) ∧ Below w.heap.size w w' := by
  have b1 := (Below.refl w.heap.size w).alloc (Nat.le_refl _) (.cells (sv x).toArray 29)
  have BW := Lib.hid (b1.alloc (by simp) (.cells #[.int .i64 c] 3))
  have S0 := Lib.hid ((Blk.new w 29 (sv x)).alloc (.cells #[.int .i64 c] 3))
  have P0 := Lib.hid (Blk.new2 w (.cells (sv x).toArray 29) 3 [.int .i64 c])
  have c1 := (sv_cells S0.out).2.1
  have CT := Lib.hid (count_t 157 #[.pointer (some ⟨w.heap.size + 1, 0, none⟩)] (fun y => y.i.own == c) x.its x.its.length x.ic x.ip _ rfl hx.n (hx.below BW.out).its (enters_of Tryz.func157 (by kernel_rfl) rfl)
    (fun y W hy hb => owned1_t (w.heap.size + 1) c y W ((hb.cell (p := ⟨w.heap.size + 1, 0, none⟩) P0.out.lt).trans (P0.out.cell 0)) (Nat.lt_of_lt_of_le P0.out.lt hb.size)))
  rw [cntI_own] at CT
  show Calls _ _ _ _ fun e w' => e = .returned (.int .i64 (ownN c (x.its.map (·.i)) : Nat)) ∧ _
  obtain ⟨r, hr⟩ : ∃ n, ownN c (x.its.map (·.i)) = n := ⟨_, rfl⟩
  rw [hr] at CT ⊢
  clear hr
  obtain ⟨xs, hxs⟩ : ∃ l, sv x = l := ⟨_, rfl⟩
  rw [hxs] at S0 P0 BW CT c1 b1 ⊢
  obtain ⟨n, hn⟩ : ∃ n, x.its.length = n := ⟨_, rfl⟩
  rw [hn] at CT c1
  clear hn
  obtain ⟨ip, hip⟩ : ∃ n, x.ip = n := ⟨_, rfl⟩
  rw [hip] at CT c1
  clear hip
  obtain ⟨ic, hic⟩ : ∃ n, x.ic = n := ⟨_, rfl⟩
  rw [hic] at CT c1
  clear hic
  clear b1 hx hxs S0 P0
  go_enter Tryz.func150, Tryz.ntmps150
  go_wp2_with fail
  refine CT.out.mono ?_
  rintro e w2 ⟨rfl, b2⟩
  go_wp2_with fail
  go_ret
  exact ⟨rfl, BW.out.trans (b2.mono BW.out.size)⟩
set_option maxRecDepth 100000 in
/-- A reply with a tuple. -/
theorem give_t (x : Rv) (t : List Fld) (p : Option Addr) (c : Nat) (w : World) : Calls Tryz.prog 151 #[.agg (rv x).toArray, .slice p t.length c] w fun e w' => e = .returned (.agg (pv ⟨giveP (qp x.r) t, p, c⟩).toArray) ∧ Below w.heap.size w w' := by
  have B0 := Lib.hid ((Blk.new w 51 (rv x)).alloc (.cells #[.int .i64 0, .int .i64 0, .int .i64 0, .slice none 0 0, .bool false] 26))
  have B1 := Lib.hid (Blk.new2 w (.cells (rv x).toArray 51) 26 [.int .i64 0, .int .i64 0, .int .i64 0, .slice none 0 0, .bool false])
  have BW := Lib.hid (((Below.refl w.heap.size w).alloc (Nat.le_refl _) (.cells (rv x).toArray 51)).alloc (by simp) (.cells #[.int .i64 0, .int .i64 0, .int .i64 0, .slice none 0 0, .bool false] 26))
  have TT_ := Lib.hid (tell_t x 2 ((w.alloc (.cells (rv x).toArray 51)).alloc (.cells #[.int .i64 0, .int .i64 0, .int .i64 0, .slice none 0 0, .bool false] 26)))
  have FX := Lib.hid (rv_size x)
  obtain ⟨y, hy⟩ : ∃ y : Rpv, (⟨tellP (qp x.r) 2, none, 0⟩ : Rpv) = y := ⟨_, rfl⟩
  have hz : pv ⟨giveP (qp x.r) t, p, c⟩ = (pv y).set 3 (.slice p t.length c) := by rw [← hy]; rfl
  rw [hz]
  rw [hy] at TT_
  have FS := Lib.hid (pv_size y); have F1 := Lib.hid (pv_oneA y)
  obtain ⟨n, hn⟩ : ∃ n, t.length = n := ⟨_, rfl⟩
  rw [hn]
  have FS2 := Lib.hid (show (Tryz.prog.info? 26).map (·.size) = some ((pv y).set 3 (.slice p n c)).length from by rw [List.length_set]; exact pv_size y)
  have F12 := Lib.hid (show ((pv y).set 3 (.slice p n c)).toArray.all (·.oneCell') = true from by simp [pv, Value.oneCell'])
  obtain ⟨xs, hx⟩ : ∃ l, rv x = l := ⟨_, rfl⟩
  rw [hx] at B0 B1 BW TT_ FX ⊢
  clear hx hn hz hy
  go_enter Tryz.func151, Tryz.ntmps151
  go_wp2_with ((with_reducible refine load_blk 51 (.tmp 2) w.heap.size 51 xs _ rfl rfl ?_ Tryz.underlying51 ?_ ?_ ?_ ?_); exact B0.out; exact rfl; exact FX.out; exact rfl)
  refine TT_.out.mono ?_
  rintro e w1 ⟨rfl, b1⟩
  have Y1 := Lib.hid (B1.out.below b1 B1.out.lt)
  have W1 := Lib.hid (BW.out.trans (b1.mono BW.out.size))
  have HL := Lib.hid (show w.heap.size + 1 < w1.heap.size from Y1.out.lt)
  clear b1 B0 B1 BW TT_
  have A0 := Lib.hid (Blk.new w1 26 [.int .i64 0, .int .i64 0, .int .i64 0, .slice none 0 0, .bool false])
  have A1 := Lib.hid (A0.out.setRow (pv y))
  have Y2 := Lib.hid ((Y1.out.alloc (.cells #[.int .i64 0, .int .i64 0, .int .i64 0, .slice none 0 0, .bool false] 26)).setRow_far (g' := w1.heap.size) (by have := HL.out; omega) (pv y).toArray)
  have W2 := Lib.hid (below_setRow (g := w1.heap.size) (W1.out.alloc W1.out.size (.cells #[.int .i64 0, .int .i64 0, .int .i64 0, .slice none 0 0, .bool false] 26)) (by have := HL.out; omega) (pv y).toArray)
  go_upto_region 2 with ((with_reducible refine store_blk 26 (.tmp 5) (.tmp 7) w1.heap.size 26 [.int .i64 0, .int .i64 0, .int .i64 0, .slice none 0 0, .bool false] (pv y) rfl rfl ?_ ?_ ?_ ?_ ?_ ?_ ?_); exact A0.out; exact rfl; exact FS.out; exact F1.out; exact rfl; exact rfl)
  obtain ⟨V, hV⟩ : ∃ V, (w1.alloc (.cells #[.int .i64 0, .int .i64 0, .int .i64 0, .slice none 0 0, .bool false] 26)).setRow w1.heap.size (pv y).toArray = V := ⟨_, rfl⟩
  rw [hV] at A1 Y2 W2 ⊢
  clear hV A0
  have ct : V.cell? ⟨w1.heap.size, 3, none⟩ = some (.slice y.p y.r.t.length y.c) := A1.out.cell 3
  have fz := A1.out.frozen 3
  have A3 := Lib.hid (A1.out.store 3 (.slice p n c))
  have Y3 := Lib.hid (Y2.out.far (p := ⟨w1.heap.size, 3, none⟩) (by have := HL.out; show w.heap.size + 1 ≠ w1.heap.size; omega) (.slice p n c))
  have R3 := Lib.hid (Y3.out.setRow ((pv y).set 3 (.slice p n c)))
  have W3 := Lib.hid (below_setRow (g := w.heap.size + 1) (W2.out.setCell (p := ⟨w1.heap.size, 3, none⟩) (by have := HL.out; show w.heap.size ≤ w1.heap.size; omega) (.slice p n c)) (Nat.le_succ _) ((pv y).set 3 (.slice p n c)).toArray)
  clear A1 Y2 W2 W1
  go_wp2_with (first
    | ((with_reducible refine load_blk 26 (.tmp 5) w1.heap.size 26 ((pv y).set 3 (.slice p n c)) _ rfl rfl ?_ Tryz.underlying26 ?_ ?_ ?_ ?_); exact A3.out; exact rfl; exact FS2.out; exact rfl)
    | ((with_reducible refine at_op (.store 26 (.tmp 4) (.tmp 10)) rfl ?_); go_must (refine store_blk 26 (.tmp 4) (.tmp 10) (w.heap.size + 1) 26 _ ((pv y).set 3 (.slice p n c)) rfl rfl Y3.out rfl FS2.out F12.out rfl rfl ?_)))
  exact ret_blk (p := 4) (ty := 26) rfl rfl (w.heap.size + 1) 26 _ _ rfl R3.out Tryz.underlying26 rfl FS2.out ⟨rfl, W3.out⟩
set_option maxRecDepth 100000 in
set_option maxHeartbeats 2000000 in
theorem allowed_t (x : Spv) (r : Rv) (w : World) (hu : UT w) (hc : r.r.cl = 0 ∨ r.r.cl = 1 ∨ r.r.cl = 2 ∨ r.r.cl = 3) :
    Calls Tryz.prog 132 #[.agg (sv x).toArray, .agg (rv r).toArray] w fun e w' => e = .returned (.bool (allowP x.sp (qp r.r))) ∧ Below w.heap.size w w' := by
  have b1 := (Below.refl w.heap.size w).alloc (Nat.le_refl _) (.cells (sv x).toArray 29)
  have BW := Lib.hid (b1.alloc (by simp) (.cells (rv r).toArray 51))
  have S0 := Lib.hid ((Blk.new w 29 (sv x)).alloc (.cells (rv r).toArray 51))
  have P0 := Lib.hid (Blk.new2 w (.cells (sv x).toArray 29) 51 (rv r))
  have RD := Lib.hid (Reads_t r.r.kd _ (hu.below BW.out))
  have WR := Lib.hid (Writes_t r.r.kd _ (hu.below BW.out))
  obtain ⟨_, _, _, c3, c4⟩ := sv_cells S0.out
  obtain ⟨d0, _, d2, _, _, _⟩ := rv_cells P0.out
  have hf : allowP x.sp (qp r.r) = ((bits .and .i64 x.rd (2 ^ r.r.cl.toNat) != 0 || !rdK r.r.kd) && (bits .and .i64 x.wr (2 ^ r.r.cl.toNat) != 0 || !wrK r.r.kd)) := rfl
  rw [hf]
  obtain ⟨rk, hrk⟩ : ∃ n, rdK r.r.kd = n := ⟨_, rfl⟩
  rw [hrk] at RD ⊢
  clear hrk
  obtain ⟨wk, hwk⟩ : ∃ n, wrK r.r.kd = n := ⟨_, rfl⟩
  rw [hwk] at WR ⊢
  clear hwk
  obtain ⟨rd, hrd⟩ : ∃ n, x.rd = n := ⟨_, rfl⟩
  rw [hrd] at c3 ⊢
  clear hrd
  obtain ⟨wrt, hwrt⟩ : ∃ n, x.wr = n := ⟨_, rfl⟩
  rw [hwrt] at c4 ⊢
  clear hwrt
  obtain ⟨cl, hcl⟩ : ∃ n, r.r.cl = n := ⟨_, rfl⟩
  rw [hcl] at d0 hc ⊢
  clear hcl
  obtain ⟨xs, hxs⟩ : ∃ l, sv x = l := ⟨_, rfl⟩
  obtain ⟨ys, hys⟩ : ∃ l, rv r = l := ⟨_, rfl⟩
  rw [hxs, hys] at BW RD WR c3 c4 d0 d2 ⊢
  clear b1 hf hu hxs hys S0 P0
  rcases hc with rfl | rfl | rfl | rfl
  · rw [show (2 : Int) ^ (0 : Int).toNat = 1 from rfl]
    obtain ⟨b1, h1⟩ : ∃ b, (bits .and .i64 rd 1 != 0) = b := ⟨_, rfl⟩
    obtain ⟨b2, h2⟩ : ∃ b, (bits .and .i64 wrt 1 != 0) = b := ⟨_, rfl⟩
    rw [h1, h2]
    cases b1 with
    | true =>
      cases b2 with
      | true =>
        go_enter Tryz.func132, Tryz.ntmps132
        go_wp2_with fail
        go_ret
        exact ⟨rfl, BW.out⟩
      | false =>
        cases wk with
        | true =>
          go_enter Tryz.func132, Tryz.ntmps132
          go_wp2_with fail
          refine WR.out.mono ?_
          rintro e w1 ⟨rfl, rfl⟩
          go_wp2_with fail
          go_ret
          exact ⟨rfl, BW.out⟩
        | false =>
          go_enter Tryz.func132, Tryz.ntmps132
          go_wp2_with fail
          refine WR.out.mono ?_
          rintro e w1 ⟨rfl, rfl⟩
          go_wp2_with fail
          go_ret
          exact ⟨rfl, BW.out⟩
    | false =>
      cases rk with
      | true =>
        go_enter Tryz.func132, Tryz.ntmps132
        go_wp2_with fail
        refine RD.out.mono ?_
        rintro e w1 ⟨rfl, rfl⟩
        go_wp2_with fail
        go_ret
        exact ⟨rfl, BW.out⟩
      | false =>
        cases b2 with
        | true =>
          go_enter Tryz.func132, Tryz.ntmps132
          go_wp2_with fail
          refine RD.out.mono ?_
          rintro e w1 ⟨rfl, rfl⟩
          go_wp2_with fail
          go_ret
          exact ⟨rfl, BW.out⟩
        | false =>
          cases wk with
          | true =>
            go_enter Tryz.func132, Tryz.ntmps132
            go_wp2_with fail
            refine RD.out.mono ?_
            rintro e w1 ⟨rfl, rfl⟩
            go_wp2_with fail
            refine WR.out.mono ?_
            rintro e w1 ⟨rfl, rfl⟩
            go_wp2_with fail
            go_ret
            exact ⟨rfl, BW.out⟩
          | false =>
            go_enter Tryz.func132, Tryz.ntmps132
            go_wp2_with fail
            refine RD.out.mono ?_
            rintro e w1 ⟨rfl, rfl⟩
            go_wp2_with fail
            refine WR.out.mono ?_
            rintro e w1 ⟨rfl, rfl⟩
            go_wp2_with fail
            go_ret
            exact ⟨rfl, BW.out⟩
  · rw [show (2 : Int) ^ (1 : Int).toNat = 2 from rfl]
    obtain ⟨b1, h1⟩ : ∃ b, (bits .and .i64 rd 2 != 0) = b := ⟨_, rfl⟩
    obtain ⟨b2, h2⟩ : ∃ b, (bits .and .i64 wrt 2 != 0) = b := ⟨_, rfl⟩
    rw [h1, h2]
    cases b1 with
    | true =>
      cases b2 with
      | true =>
        go_enter Tryz.func132, Tryz.ntmps132
        go_wp2_with fail
        go_ret
        exact ⟨rfl, BW.out⟩
      | false =>
        cases wk with
        | true =>
          go_enter Tryz.func132, Tryz.ntmps132
          go_wp2_with fail
          refine WR.out.mono ?_
          rintro e w1 ⟨rfl, rfl⟩
          go_wp2_with fail
          go_ret
          exact ⟨rfl, BW.out⟩
        | false =>
          go_enter Tryz.func132, Tryz.ntmps132
          go_wp2_with fail
          refine WR.out.mono ?_
          rintro e w1 ⟨rfl, rfl⟩
          go_wp2_with fail
          go_ret
          exact ⟨rfl, BW.out⟩
    | false =>
      cases rk with
      | true =>
        go_enter Tryz.func132, Tryz.ntmps132
        go_wp2_with fail
        refine RD.out.mono ?_
        rintro e w1 ⟨rfl, rfl⟩
        go_wp2_with fail
        go_ret
        exact ⟨rfl, BW.out⟩
      | false =>
        cases b2 with
        | true =>
          go_enter Tryz.func132, Tryz.ntmps132
          go_wp2_with fail
          refine RD.out.mono ?_
          rintro e w1 ⟨rfl, rfl⟩
          go_wp2_with fail
          go_ret
          exact ⟨rfl, BW.out⟩
        | false =>
          cases wk with
          | true =>
            go_enter Tryz.func132, Tryz.ntmps132
            go_wp2_with fail
            refine RD.out.mono ?_
            rintro e w1 ⟨rfl, rfl⟩
            go_wp2_with fail
            refine WR.out.mono ?_
            rintro e w1 ⟨rfl, rfl⟩
            go_wp2_with fail
            go_ret
            exact ⟨rfl, BW.out⟩
          | false =>
            go_enter Tryz.func132, Tryz.ntmps132
            go_wp2_with fail
            refine RD.out.mono ?_
            rintro e w1 ⟨rfl, rfl⟩
            go_wp2_with fail
            refine WR.out.mono ?_
            rintro e w1 ⟨rfl, rfl⟩
            go_wp2_with fail
            go_ret
            exact ⟨rfl, BW.out⟩
  · rw [show (2 : Int) ^ (2 : Int).toNat = 4 from rfl]
    obtain ⟨b1, h1⟩ : ∃ b, (bits .and .i64 rd 4 != 0) = b := ⟨_, rfl⟩
    obtain ⟨b2, h2⟩ : ∃ b, (bits .and .i64 wrt 4 != 0) = b := ⟨_, rfl⟩
    rw [h1, h2]
    cases b1 with
    | true =>
      cases b2 with
      | true =>
        go_enter Tryz.func132, Tryz.ntmps132
        go_wp2_with fail
        go_ret
        exact ⟨rfl, BW.out⟩
      | false =>
        cases wk with
        | true =>
          go_enter Tryz.func132, Tryz.ntmps132
          go_wp2_with fail
          refine WR.out.mono ?_
          rintro e w1 ⟨rfl, rfl⟩
          go_wp2_with fail
          go_ret
          exact ⟨rfl, BW.out⟩
        | false =>
          go_enter Tryz.func132, Tryz.ntmps132
          go_wp2_with fail
          refine WR.out.mono ?_
          rintro e w1 ⟨rfl, rfl⟩
          go_wp2_with fail
          go_ret
          exact ⟨rfl, BW.out⟩
    | false =>
      cases rk with
      | true =>
        go_enter Tryz.func132, Tryz.ntmps132
        go_wp2_with fail
        refine RD.out.mono ?_
        rintro e w1 ⟨rfl, rfl⟩
        go_wp2_with fail
        go_ret
        exact ⟨rfl, BW.out⟩
      | false =>
        cases b2 with
        | true =>
          go_enter Tryz.func132, Tryz.ntmps132
          go_wp2_with fail
          refine RD.out.mono ?_
          rintro e w1 ⟨rfl, rfl⟩
          go_wp2_with fail
          go_ret
          exact ⟨rfl, BW.out⟩
        | false =>
          cases wk with
          | true =>
            go_enter Tryz.func132, Tryz.ntmps132
            go_wp2_with fail
            refine RD.out.mono ?_
            rintro e w1 ⟨rfl, rfl⟩
            go_wp2_with fail
            refine WR.out.mono ?_
            rintro e w1 ⟨rfl, rfl⟩
            go_wp2_with fail
            go_ret
            exact ⟨rfl, BW.out⟩
          | false =>
            go_enter Tryz.func132, Tryz.ntmps132
            go_wp2_with fail
            refine RD.out.mono ?_
            rintro e w1 ⟨rfl, rfl⟩
            go_wp2_with fail
            refine WR.out.mono ?_
            rintro e w1 ⟨rfl, rfl⟩
            go_wp2_with fail
            go_ret
            exact ⟨rfl, BW.out⟩
  · rw [show (2 : Int) ^ (3 : Int).toNat = 8 from rfl]
    obtain ⟨b1, h1⟩ : ∃ b, (bits .and .i64 rd 8 != 0) = b := ⟨_, rfl⟩
    obtain ⟨b2, h2⟩ : ∃ b, (bits .and .i64 wrt 8 != 0) = b := ⟨_, rfl⟩
    rw [h1, h2]
    cases b1 with
    | true =>
      cases b2 with
      | true =>
        go_enter Tryz.func132, Tryz.ntmps132
        go_wp2_with fail
        go_ret
        exact ⟨rfl, BW.out⟩
      | false =>
        cases wk with
        | true =>
          go_enter Tryz.func132, Tryz.ntmps132
          go_wp2_with fail
          refine WR.out.mono ?_
          rintro e w1 ⟨rfl, rfl⟩
          go_wp2_with fail
          go_ret
          exact ⟨rfl, BW.out⟩
        | false =>
          go_enter Tryz.func132, Tryz.ntmps132
          go_wp2_with fail
          refine WR.out.mono ?_
          rintro e w1 ⟨rfl, rfl⟩
          go_wp2_with fail
          go_ret
          exact ⟨rfl, BW.out⟩
    | false =>
      cases rk with
      | true =>
        go_enter Tryz.func132, Tryz.ntmps132
        go_wp2_with fail
        refine RD.out.mono ?_
        rintro e w1 ⟨rfl, rfl⟩
        go_wp2_with fail
        go_ret
        exact ⟨rfl, BW.out⟩
      | false =>
        cases b2 with
        | true =>
          go_enter Tryz.func132, Tryz.ntmps132
          go_wp2_with fail
          refine RD.out.mono ?_
          rintro e w1 ⟨rfl, rfl⟩
          go_wp2_with fail
          go_ret
          exact ⟨rfl, BW.out⟩
        | false =>
          cases wk with
          | true =>
            go_enter Tryz.func132, Tryz.ntmps132
            go_wp2_with fail
            refine RD.out.mono ?_
            rintro e w1 ⟨rfl, rfl⟩
            go_wp2_with fail
            refine WR.out.mono ?_
            rintro e w1 ⟨rfl, rfl⟩
            go_wp2_with fail
            go_ret
            exact ⟨rfl, BW.out⟩
          | false =>
            go_enter Tryz.func132, Tryz.ntmps132
            go_wp2_with fail
            refine RD.out.mono ?_
            rintro e w1 ⟨rfl, rfl⟩
            go_wp2_with fail
            refine WR.out.mono ?_
            rintro e w1 ⟨rfl, rfl⟩
            go_wp2_with fail
            go_ret
            exact ⟨rfl, BW.out⟩
end Go.Proofs.YtojianpbjckipaaGreatDoor
