/-
  PACKAGE space
-/
import Derived.Test.YtidklgicmhdapaaGreatDoorAv17
namespace Go.Proofs.YtidklgicmhdapaaGreatDoor
open Go Go.RowKit Sh

theorem list4 {α : Type} {l : List α} (h : l.length = 4) : ∃ a b c d, l = [a, b, c, d] := by
  match l, h with
  | [a, b, c, d], _ => exact ⟨a, b, c, d, rfl⟩
def rpOk (l : List Rpv) (j : Nat) : Bool := match l[j]? with
  | some x => (x.r.cl == (j : Int)) && rpB x.r
  | none => true
theorem las_all {l : List Rpv} (h : l.length = 4) : lasB 0 (l.map (·.r)) = allN (rpOk l) 4 := by
  obtain ⟨a, b, c, d, rfl⟩ := list4 h
  simp only [List.map_cons, List.map_nil, lasB, allN, rpOk, List.getElem?_cons_zero, List.getElem?_cons_succ, Bool.true_and, Bool.and_true]
  simp [Bool.and_assoc]
set_option maxRecDepth 100000 in
theorem index_pv (l : List Rpv) (h : l.length = 4) (j : Nat) (x : Rpv) (hx : l[j]? = some x) (k : IntKind) (W : World) : (Instr.index 80 (.agg (l.flatMap pv).toArray) (.int k (j : Int))).run Tryz.prog W = .ok (.agg (pv x).toArray) W := by
  obtain ⟨a, b, c, d, rfl⟩ := list4 h
  have i0 : ∀ k W, (Instr.index 80 (.agg ([a, b, c, d].flatMap pv).toArray) (.int k 0)).run Tryz.prog W = .ok (.agg (pv a).toArray) W := fun k W => by kernel_rfl
  have i1 : ∀ k W, (Instr.index 80 (.agg ([a, b, c, d].flatMap pv).toArray) (.int k 1)).run Tryz.prog W = .ok (.agg (pv b).toArray) W := fun k W => by kernel_rfl
  have i2 : ∀ k W, (Instr.index 80 (.agg ([a, b, c, d].flatMap pv).toArray) (.int k 2)).run Tryz.prog W = .ok (.agg (pv c).toArray) W := fun k W => by kernel_rfl
  have i3 : ∀ k W, (Instr.index 80 (.agg ([a, b, c, d].flatMap pv).toArray) (.int k 3)).run Tryz.prog W = .ok (.agg (pv d).toArray) W := fun k W => by kernel_rfl
  have hj : j = 0 ∨ j = 1 ∨ j = 2 ∨ j = 3 := by have := (List.getElem?_eq_some_iff.1 hx).1; simp at this; omega
  rcases hj with rfl | rfl | rfl | rfl <;> obtain rfl := Option.some.inj hx
  · exact i0 k W
  · exact i1 k W
  · exact i2 k W
  · exact i3 k W
theorem pvs_size (l : List Rpv) (h : l.length = 4) : (Tryz.prog.info? 80).map (·.size) = some (l.flatMap pv).length := by
  rw [flat_length pv_len, h]
  kernel_rfl
set_option maxRecDepth 100000 in
set_option maxHeartbeats 800000 in
theorem mayReplies_t (l : List Rpv) (w : World) (h4 : l.length = 4) (ht : ∀ y ∈ l, TR w y.p y.r.t) :
    Calls Tryz.prog 96 #[.agg (l.flatMap pv).toArray] w fun e w' => e = .returned (.bool (lasB 0 (l.map (·.r)))) ∧ Below w.heap.size w w' := by
  have IX := Lib.hid (fun j x hx k W => index_pv l h4 j x hx k W)
  have HT := Lib.hid ht
  have H4 := Lib.hid h4
  have B0 := Lib.hid (Blk.new w 80 (l.flatMap pv))
  have BW0 := Lib.hid ((Below.refl w.heap.size w).alloc (Nat.le_refl _) (.cells (l.flatMap pv).toArray 80))
  have PS := Lib.hid (pvs_size l h4)
  rw [las_all h4]
  have AY := Lib.hid (fun h => (allN_iff (rpOk l) 4).2 h); have AN := Lib.hid (fun j hj h => allN_no (B := rpOk l) (n := 4) (j := j) hj h)
  obtain ⟨r, hr⟩ : ∃ r, allN (rpOk l) 4 = r := ⟨_, rfl⟩
  rw [hr] at AY AN ⊢
  obtain ⟨cs, hcs⟩ : ∃ cs, l.flatMap pv = cs := ⟨_, rfl⟩
  rw [hcs] at IX B0 BW0 PS ⊢
  clear ht hr hcs h4
  go_enter Tryz.func96, Tryz.ntmps96
  go_upto_region 2 with (((with_reducible refine load_blk 80 (.tmp 1) w.heap.size 80 cs _ rfl rfl ?_ Tryz.underlying80 ?_ ?_ ?_ ?_); exact B0.out; exact rfl; exact PS.out; exact rfl))
  go_loopw [6] (fun x wr => ∃ j : Nat, j ≤ 4 ∧ x = .int .i64 (j : Int) ∧ (∀ i, i < j → rpOk l i = true) ∧ Below w.heap.size w wr) (fun x _ => 4 - (intOf x).toNat)
  case atStart => exact ⟨0, by omega, rfl, fun i hi => absurd hi (by omega), BW0.out⟩
  case round =>
    obtain ⟨j, hj, rfl, hb, bw⟩ := hrel
    have HB := Lib.hid hb; have BW := Lib.hid bw
    clear hb bw B0 BW0 PS
    by_cases hlt : j < 4
    · obtain ⟨x, hx⟩ : ∃ x, l[j]? = some x := by have := H4.out; exact ⟨_, List.getElem?_eq_getElem (by omega)⟩
      have ix := fun W => IX.out j x hx .i64 W
      have FS := Lib.hid (pv_size x); have F1 := Lib.hid (pv_oneA x)
      have j1 : (j : Int) < 4 := by omega
      have A0 := Lib.hid (Blk.new wr 79 [.int .i64 0, .int .i64 0, .int .i64 0, .slice none 0 0, .bool false])
      have A1 := Lib.hid (A0.out.setRow (pv x))
      have W1 := Lib.hid (below_setRow ((Below.refl wr.heap.size wr).alloc (Nat.le_refl _) (.cells #[.int .i64 0, .int .i64 0, .int .i64 0, .slice none 0 0, .bool false] 79)) (Nat.le_refl _) (pv x).toArray)
      have WX := Lib.hid (BW.out.trans (W1.out.mono BW.out.size))
      have MR := Lib.hid (mayReply_t x _ ((HT.out x (List.mem_of_getElem? hx)).below WX.out))
      have c0 := (pv_cells A1.out).1
      have hok : rpOk l j = ((x.r.cl == (j : Int)) && rpB x.r) := by unfold rpOk; rw [hx]
      obtain ⟨b1, hb1⟩ : ∃ n, rpB x.r = n := ⟨_, rfl⟩
      rw [hb1] at MR hok
      clear hb1
      obtain ⟨cl, hcl⟩ : ∃ n, x.r.cl = n := ⟨_, rfl⟩
      rw [hcl] at c0 hok
      clear hcl
      clear hx
      cases he : (cl == (j : Int)) with
      | false =>
        rw [he, Bool.false_and] at hok
        have hR := AN.out j hlt hok
        subst hR
        have e1 : (cl != (j : Int)) = true := by rw [bne, he]; rfl
        clear hok MR
        go_wp2_with (first
          | ((with_reducible refine store_blk 79 (.tmp 4) (.tmp 9) wr.heap.size 79 [.int .i64 0, .int .i64 0, .int .i64 0, .slice none 0 0, .bool false] (pv x) rfl rfl ?_ ?_ ?_ ?_ ?_ ?_ ?_); exact A0.out; exact rfl; exact FS.out; exact F1.out; exact rfl; exact rfl)
          | fail)
        go_ret
        exact ⟨rfl, WX.out⟩
      | true =>
        rw [he, Bool.true_and] at hok
        have e1 : (cl != (j : Int)) = false := by rw [bne, he]; rfl
        have HOK := Lib.hid hok
        clear hok
        go_wp2_with (first
          | ((with_reducible refine store_blk 79 (.tmp 4) (.tmp 9) wr.heap.size 79 [.int .i64 0, .int .i64 0, .int .i64 0, .slice none 0 0, .bool false] (pv x) rfl rfl ?_ ?_ ?_ ?_ ?_ ?_ ?_); exact A0.out; exact rfl; exact FS.out; exact F1.out; exact rfl; exact rfl)
          | ((with_reducible refine load_blk_gdO 15 79 (.tmp 4) wr.heap.size 79 (pv x) _ ?_ ?_ rfl ?_ Tryz.underlying79 ?_ ?_ ?_ ?_); exact rfl; kernel_rfl; exact A1.out; exact rfl; exact FS.out; exact rfl))
        refine MR.out.mono ?_
        rintro e w2 ⟨rfl, b2⟩
        have B2 := Lib.hid (WX.out.trans (b2.mono WX.out.size))
        clear b2 A0 A1 FS F1 W1 WX BW MR
        cases b1 with
        | false =>
          have hR := AN.out j hlt HOK.out
          subst hR
          clear HOK
          go_wp2_with fail
          go_ret
          exact ⟨rfl, B2.out⟩
        | true =>
          have HB2 := Lib.hid (show ∀ i, i < j + 1 → rpOk l i = true from fun i hi => by
            rcases Nat.lt_or_ge i j with h | h
            · exact HB.out i h
            · obtain rfl : i = j := by omega
              exact HOK.out)
          clear HOK c0 ix
          go_wp2_with fail
          go_roundw
          case rel => exact ⟨j + 1, hlt, by go_num, HB2.out, B2.out⟩
          case measure => simp [intOf]; omega
    · obtain rfl : j = 4 := by omega
      have hR := AY.out HB.out
      subst hR
      clear hlt
      go_wp2_with fail
      go_ret
      exact ⟨rfl, BW.out⟩
theorem load_part_gdO {P : Program} {ops : Array Oper} {rest : List Oper} {o : Oper} {a : Act} {w : World} {Q : Exit → Act → World → Prop} (D : Nat) (ty : TypeId) (x : Operand) (g off : Nat) (t : TypeId) (A M C : List Value) (d : TypeDesc)
    (_hD : o.dst = some D) (hw : Region.wanted o (yielded ops a.tmps) = true) (ho : o.op = .load ty x) (hg : Blk w g t (A ++ (M ++ C))) (hoff : off = A.length) (hu : P.underlying ty = some d) (hd : d.isRow = true) (hi : (P.info? ty).map (·.size) = some M.length)
    (hx : a.eval x = .pointer (some ⟨g, off, none⟩)) (h : wpList P ops Q rest (a.put o.dst (.agg M.toArray)) w) : wpList P ops Q (o :: rest) a w :=
  BigFrame.wpList_want hw fun _ hK => wload_part ty x g off t A M C d ho hg hoff hu hd hi hx (hK _ _ h)
def svA (x : Spv) : List Value := [.int .i64 x.now, .slice x.ip x.its.length x.ic, .slice x.wp x.wts.length x.wc, .int .i64 x.rd, .int .i64 x.wr]
theorem sv_split (x : Spv) : sv x = svA x ++ (x.last.flatMap pv ++ []) := by rw [List.append_nil]; rfl
structure SB (w0 W : World) (x : Spv) : Prop where
  a : Blk W w0.heap.size 82 (sv x)
  rx : SpW W x
  bel : Below w0.heap.size w0 W
theorem SB.below {w0 W W' : World} {x : Spv} (h : SB w0 W x) (hb : Below W.heap.size W W') : SB w0 W' x := ⟨h.a.below hb h.a.lt, h.rx.below hb, h.bel.trans (hb.mono h.bel.size)⟩
theorem SB.new {w : World} {x : Spv} (hx : SpW w x) : SB w (w.alloc (.cells (sv x).toArray 82)) x := by
  have b1 := (Below.refl w.heap.size w).alloc (Nat.le_refl _) (.cells (sv x).toArray 82)
  exact ⟨Blk.new w 82 (sv x), hx.below b1, b1⟩
set_option maxRecDepth 100000 in
set_option maxHeartbeats 1000000 in
theorem SpMay_t (x : Spv) (w : World) (hx : SpW w x) :
    Calls Tryz.prog 73 #[.agg (sv x).toArray] w fun e w' => e = .returned (.bool (spMay x.sp)) ∧ Below w.heap.size w w' := by
  have S0 := Lib.hid (SB.new hx)
  have PS := Lib.hid (pvs_size x.last hx.l4)
  have AR := Lib.hid (mayAllow_t x.rd (w.alloc (.cells (sv x).toArray 82)))
  have AW := Lib.hid (mayAllow_t x.wr (w.alloc (.cells (sv x).toArray 82)))
  have MI_ := Lib.hid (fun W (h : SB w W x) => mayItems_t x.its x.ip x.ic x.now W h.rx.n h.rx.its h.rx.it)
  have MW_ := Lib.hid (fun W (h : SB w W x) => mayWaiters_t x.wts x.wp x.wc W h.rx.m h.rx.wts h.rx.wt)
  have MR_ := Lib.hid (fun W (h : SB w W x) => mayReplies_t x.last W h.rx.l4 h.rx.la)
  have hf : spMay x.sp = (decide (0 ≤ x.now) && (decide (x.now ≤ 1099511627776) && (alB x.rd && (alB x.wr && (itsB x.now (x.its.map (·.i)) && (wtsB (x.wts.map (·.x)) && lasB 0 (x.last.map (·.r)))))))) := rfl
  rw [hf]
  clear hf hx
  obtain ⟨b1, hb1⟩ : ∃ n, alB x.rd = n := ⟨_, rfl⟩
  rw [hb1] at AR ⊢
  clear hb1
  obtain ⟨b2, hb2⟩ : ∃ n, alB x.wr = n := ⟨_, rfl⟩
  rw [hb2] at AW ⊢
  clear hb2
  obtain ⟨b3, hb3⟩ : ∃ n, itsB x.now (x.its.map (·.i)) = n := ⟨_, rfl⟩
  rw [hb3] at MI_ ⊢
  clear hb3
  obtain ⟨b4, hb4⟩ : ∃ n, wtsB (x.wts.map (·.x)) = n := ⟨_, rfl⟩
  rw [hb4] at MW_ ⊢
  clear hb4
  obtain ⟨b5, hb5⟩ : ∃ n, lasB 0 (x.last.map (·.r)) = n := ⟨_, rfl⟩
  rw [hb5] at MR_ ⊢
  clear hb5
  by_cases h1 : 0 ≤ x.now
  · rw [decide_eq_true h1, Bool.true_and]
    by_cases h2 : x.now ≤ 1099511627776
    · rw [decide_eq_true h2, Bool.true_and]
      cases b1 with
      | false =>
        go_enter Tryz.func73, Tryz.ntmps73
        obtain ⟨c0, c1, c2, c3, c4⟩ := sv_cells S0.out.a
        go_wp2_with fail
        refine AR.out.mono ?_
        rintro e w1 ⟨rfl, rfl⟩
        go_wp2_with fail
        go_ret
        exact ⟨rfl, S0.out.bel⟩
      | true =>
      cases b2 with
      | false =>
        go_enter Tryz.func73, Tryz.ntmps73
        obtain ⟨c0, c1, c2, c3, c4⟩ := sv_cells S0.out.a
        go_wp2_with fail
        refine AR.out.mono ?_
        rintro e w1 ⟨rfl, rfl⟩
        go_wp2_with fail
        refine AW.out.mono ?_
        rintro e w1 ⟨rfl, rfl⟩
        go_wp2_with fail
        go_ret
        exact ⟨rfl, S0.out.bel⟩
      | true =>
      cases b3 with
      | false =>
        go_enter Tryz.func73, Tryz.ntmps73
        obtain ⟨c0, c1, c2, c3, c4⟩ := sv_cells S0.out.a
        go_wp2_with fail
        refine AR.out.mono ?_
        rintro e w1 ⟨rfl, rfl⟩
        go_wp2_with fail
        refine AW.out.mono ?_
        rintro e w1 ⟨rfl, rfl⟩
        go_wp2_with fail
        refine (MI_.out _ S0.out).mono ?_
        rintro e w1 ⟨rfl, b1⟩
        have S1 := Lib.hid (S0.out.below b1)
        clear b1 c0 c1 c2 c3 c4
        obtain ⟨c0, c1, c2, c3, c4⟩ := sv_cells S1.out.a
        go_wp2_with fail
        go_ret
        exact ⟨rfl, S1.out.bel⟩
      | true =>
      cases b4 with
      | false =>
        go_enter Tryz.func73, Tryz.ntmps73
        obtain ⟨c0, c1, c2, c3, c4⟩ := sv_cells S0.out.a
        go_wp2_with fail
        refine AR.out.mono ?_
        rintro e w1 ⟨rfl, rfl⟩
        go_wp2_with fail
        refine AW.out.mono ?_
        rintro e w1 ⟨rfl, rfl⟩
        go_wp2_with fail
        refine (MI_.out _ S0.out).mono ?_
        rintro e w1 ⟨rfl, b1⟩
        have S1 := Lib.hid (S0.out.below b1)
        clear b1 c0 c1 c2 c3 c4
        obtain ⟨c0, c1, c2, c3, c4⟩ := sv_cells S1.out.a
        go_wp2_with fail
        refine (MW_.out _ S1.out).mono ?_
        rintro e w2 ⟨rfl, b2⟩
        have S2 := Lib.hid (S1.out.below b2)
        clear b2
        go_wp2_with fail
        go_ret
        exact ⟨rfl, S2.out.bel⟩
      | true =>
        go_enter Tryz.func73, Tryz.ntmps73
        obtain ⟨c0, c1, c2, c3, c4⟩ := sv_cells S0.out.a
        go_wp2_with fail
        refine AR.out.mono ?_
        rintro e w1 ⟨rfl, rfl⟩
        go_wp2_with fail
        refine AW.out.mono ?_
        rintro e w1 ⟨rfl, rfl⟩
        go_wp2_with fail
        refine (MI_.out _ S0.out).mono ?_
        rintro e w1 ⟨rfl, b1⟩
        have S1 := Lib.hid (S0.out.below b1)
        clear b1 c0 c1 c2 c3 c4
        obtain ⟨c0, c1, c2, c3, c4⟩ := sv_cells S1.out.a
        go_wp2_with fail
        refine (MW_.out _ S1.out).mono ?_
        rintro e w2 ⟨rfl, b2⟩
        have S2 := Lib.hid (S1.out.below b2)
        have S2A := Lib.hid (show Blk w2 w.heap.size 82 (svA x ++ (x.last.flatMap pv ++ [])) from by rw [← sv_split]; exact S2.out.a)
        clear b2 c0 c1 c2 c3 c4
        go_wp2_with ((with_reducible refine load_part_gdO 35 80 (.tmp 34) w.heap.size 5 82 (svA x) (x.last.flatMap pv) [] _ ?_ ?_ rfl ?_ ?_ Tryz.underlying80 ?_ ?_ ?_ ?_); exact rfl; kernel_rfl; exact S2A.out; exact rfl; exact rfl; exact PS.out; exact rfl)
        refine (MR_.out _ S2.out).mono ?_
        rintro e w3 ⟨rfl, b3⟩
        have S3 := Lib.hid (S2.out.below b3)
        clear b3
        go_wp2_with fail
        go_ret
        exact ⟨rfl, S3.out.bel⟩
    · rw [decide_eq_false h2, Bool.false_and]
      have h3 : 1099511627776 < x.now := by omega
      go_enter Tryz.func73, Tryz.ntmps73
      obtain ⟨c0, c1, c2, c3, c4⟩ := sv_cells S0.out.a
      go_wp2_with fail
      go_ret
      exact ⟨rfl, S0.out.bel⟩
  · rw [decide_eq_false h1, Bool.false_and]
    have h3 : x.now < 0 := by omega
    go_enter Tryz.func73, Tryz.ntmps73
    obtain ⟨c0, c1, c2, c3, c4⟩ := sv_cells S0.out.a
    go_wp2_with fail
    go_ret
    exact ⟨rfl, S0.out.bel⟩
end Go.Proofs.YtidklgicmhdapaaGreatDoor
