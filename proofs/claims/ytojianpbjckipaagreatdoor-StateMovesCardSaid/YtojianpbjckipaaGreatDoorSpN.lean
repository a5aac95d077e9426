/-
  PACKAGE space: put.
-/
import Derived.Test.YtojianpbjckipaaGreatDoorSpM
import Derived.Test.YtojianpbjckipaaGreatDoorSpD
namespace Go.Proofs.YtojianpbjckipaaGreatDoor
open Go Go.RowKit Sh

/-- A row of another kind stays. -/
theorem Mv.row {wB W W' : World} {g : Nat} {x x' : Spv} {B sz n : Nat} {e : TypeId} {v : Value} {xs : List Value} (m : Mv g x x' W W') (h : SM wB W g x) (ho : W.ownsRow B e sz v n xs) (h0 : e ≠ 29) (h1 : 62 ≠ e) (h2 : 64 ≠ e) : W'.ownsRow B e sz v n xs :=
  own_kept ho m.kept (fun k hk hf => by
    rcases hf with e' | e' | e'
    · exact own_apart ho h.box h0 (by rw [hk, e'])
    · exact own_two h.sf.its ho h1 e'.own hk
    · exact own_two h.sf.wts ho h2 e'.own hk)
theorem Mv.size {g : Nat} {x x' : Spv} {W W' : World} (m : Mv g x x' W W') : W.heap.size ≤ W'.heap.size := m.kept.size
theorem fold_snoc (s : Sp) (R : List Rp) (y : Rp) : (R ++ [y]).foldl lateS s = lateS (R.foldl lateS s) y := by rw [List.foldl_append]; rfl
theorem lateS_last (s : Sp) (y : Rp) : (lateS s y).last.length = s.last.length := by
  unfold lateS noteP
  split
  · exact List.length_set
  · rfl
theorem lateS_its (s : Sp) (y : Rp) : (lateS s y).its = s.its ∧ (lateS s y).wts = s.wts ∧ (lateS s y).now = s.now := by
  unfold lateS noteP
  split <;> exact ⟨rfl, rfl, rfl⟩
theorem fold_its (R : List Rp) : ∀ s : Sp, (R.foldl lateS s).its = s.its ∧ (R.foldl lateS s).wts = s.wts ∧ (R.foldl lateS s).now = s.now := by
  induction R with
  | nil => exact fun s => ⟨rfl, rfl, rfl⟩
  | cons y R ih =>
    intro s
    rw [List.foldl_cons]
    obtain ⟨h1, h2, h3⟩ := ih (lateS s y)
    obtain ⟨k1, k2, k3⟩ := lateS_its s y
    exact ⟨h1.trans k1, h2.trans k2, h3.trans k3⟩
/-- Who waits is a client; so is who is told. -/
theorem wake_cl (t : List Fld) : ∀ (l : List Wt), (∀ x ∈ l, clB x.cl = true) → ∀ y ∈ (wakeP t l).2.1, clB y.cl = true ∧ y.t = t
  | [], _, y, hy => by simp [wakeP] at hy
  | x :: l, h, y, hy => by
    have h0 := h x (List.mem_cons_self ..)
    have ih := wake_cl t l (fun z hz => h z (List.mem_cons_of_mem _ hz))
    unfold wakeP at hy
    split at hy
    · split at hy
      · rw [List.mem_singleton.1 hy]; exact ⟨h0, rfl⟩
      · rcases List.mem_cons.1 hy with rfl | hy
        · exact ⟨h0, rfl⟩
        · exact ih y hy
    · exact ih y hy
theorem wake_le (t : List Fld) : ∀ (l : List Wt), (wakeP t l).2.1.length ≤ l.length ∧ (wakeP t l).1.length ≤ l.length
  | [] => by simp [wakeP]
  | x :: l => by
    obtain ⟨h1, h2⟩ := wake_le t l
    unfold wakeP
    split
    · split
      · simp
      · simp; omega
    · simp; omega
theorem below_drewN' {B : Nat} {a w : World} (h : Below B a w) (n : Nat) : Below B a (w.drewN n) := ⟨h.os, h.tape, h.output, h.size, h.block⟩
theorem ob_own {q : Option Addr} {n c k : Nat} (h : Value.ownBlock (.slice q n c) = some k) : OB q k := by
  cases q with
  | none => cases h
  | some a => exact ⟨a, rfl, by simpa [Value.ownBlock] using h⟩
theorem tr_fl {w : World} {p : Option Addr} {n : Nat} {G : Nat → Fld} (h : Rw w p n G) (hn : n ≤ 9223372036854775807) : TR w p (fl n G) := by
  refine ⟨?_, by rw [fl_length]; exact hn⟩
  rw [fl_length]
  exact h.congr fun j hj => (gl_fl hj).symm
theorem lastOf_at {x : Spv} {k : Nat} {z : Rpv} (h : x.last[k]? = some z) : lastOf x.sp (k : Int) = z.r := by
  unfold lastOf Spv.sp
  dsimp only
  rw [Int.toNat_natCast, List.getD_eq_getElem?_getD, List.getElem?_map, h]
  rfl
theorem clB_nat {c : Int} (h : clB c = true) : ∃ k : Nat, c = (k : Int) ∧ k < 4 := by
  rcases clB_cases h with rfl | rfl | rfl | rfl
  · exact ⟨0, rfl, by omega⟩
  · exact ⟨1, rfl, by omega⟩
  · exact ⟨2, rfl, by omega⟩
  · exact ⟨3, rfl, by omega⟩
theorem built_item (a : Int) (t : List Fld) (q : Option Addr) (d : Nat) : Tryz.prog.built 62 [(0, .int .i64 a), (2, .slice q t.length d)] = some (iv ⟨⟨a, 0, t⟩, q, d⟩).toArray := by kernel_rfl
theorem putP_yes {s : Sp} {r : Qp} (h : (wakeP r.t s.wts).2.2 = true) : putP s r = ((wakeP r.t s.wts).2.1.foldl lateS { s with wts := (wakeP r.t s.wts).1 }, (wakeP r.t s.wts).2.1) := by
  unfold putP
  simp [h]
theorem putP_no {s : Sp} {r : Qp} (h : (wakeP r.t s.wts).2.2 = false) : putP s r = ({ (wakeP r.t s.wts).2.1.foldl lateS { s with wts := (wakeP r.t s.wts).1 } with its := ((wakeP r.t s.wts).2.1.foldl lateS { s with wts := (wakeP r.t s.wts).1 }).its ++ [⟨r.cl, if r.le = 0 then 0 else s.now + r.le, r.t⟩] }, (wakeP r.t s.wts).2.1) := by
  unfold putP
  simp [h]
set_option maxRecDepth 100000 in
set_option maxHeartbeats 4000000 in
theorem put_t (wB : World) (g : Nat) (x : Spv) (r : Rv) (W : World) (h : SM wB W g x) (hs : Small x.sp) (hcl : ∀ y ∈ x.sp.wts, clB y.cl = true) (hr : RvW wB r) (hm : r.r.m ≤ 1000) (hw : IntKind.i64.wrap (x.now + r.r.le) = x.now + r.r.le) :
    Calls Tryz.prog 104 #[.pointer (some ⟨g, 0, none⟩), .agg (rv r).toArray] W fun e W' => ∃ (x' : Spv) (R : List Rpv) (q : Option Addr) (c : Nat), e = .returned (.slice q R.length c) ∧ SM wB W' g x' ∧ Mv g x x' W W' ∧ x'.sp = (putP x.sp (qp r.r)).1 ∧ R.map (·.r) = (putP x.sp (qp r.r)).2 ∧ W'.ownsRow W.heap.size 26 5 (.slice q R.length c) R.length (R.flatMap pv) ∧ (∀ y ∈ R, FT W' W.heap.size y.p y.c y.r.t) := by
  have hn : x.wts.length ≤ 1000 := by have := hs.m; rwa [show x.sp.wts = x.wts.map (·.x) from rfl, List.length_map] at this
  have hni : x.its.length ≤ 1000 := by have := hs.n; rwa [show x.sp.its = x.its.map (·.i) from rfl, List.length_map] at this
  obtain ⟨V0, hV0⟩ : ∃ V, W.alloc (.cells (rv r).toArray 51) = V := ⟨_, rfl⟩
  have B0 : Below W.heap.size W V0 := by rw [← hV0]; exact (Below.refl _ _).alloc (Nat.le_refl _) _
  have M0 := h.below B0
  have RB : Blk V0 W.heap.size 51 (rv r) := by rw [← hV0]; exact Blk.new W 51 (rv r)
  have TT := tr_fl hr.t hr.m
  have hg : g < W.heap.size := h.box.lt
  have hne : W.heap.size ≠ g := by omega
  have ml := fl_length r.r.m r.r.H
  obtain ⟨_, _, _, _, c4, _⟩ := rv_cells RB
  have hq : (qp r.r).t = fl r.r.m r.r.H := rfl
  obtain ⟨t, ht⟩ : ∃ t, fl r.r.m r.r.H = t := ⟨_, rfl⟩
  rw [ht] at TT ml hq
  rw [← ml] at c4
  have ML := Lib.hid ml; have HQ := Lib.hid hq; have HSM := Lib.hid hs.m
  have WK_ := Lib.hid (wake_t wB g x t r.t r.d V0 M0 hn (fun y hy => hs.wt y.x (List.mem_map_of_mem hy)) (TT.below M0.bel) (by omega))
  have CLS := Lib.hid (wake_cl t x.sp.wts hcl)
  have HM0 := Lib.hid M0; have HRB := Lib.hid RB; have HB0 := Lib.hid B0; have HTT := Lib.hid TT; have HNE := Lib.hid hne
  have hmt : t.length ≤ 1000 := by omega
  have hni' := Lib.hid hni
  clear h hs hcl hr ht hq hn hni M0 TT B0 ml
  go_enter Tryz.func104, Tryz.ntmps104
  go_upto_region 1 with (fail)
  clear hV0
  go_wp2_with fail
  refine WK_.out.mono ?_
  rintro e w1 ⟨x1, R, q, c, rfl, m1, v1, s1, o1, t1, r1⟩
  have M1 := Lib.hid m1; have V1 := Lib.hid v1; have S1 := Lib.hid s1; have O1 := Lib.hid o1; have T1 := Lib.hid t1
  have RB1 := Lib.hid (v1.blk HM0.out RB (by decide) (by decide) hne)
  have HCR := Lib.hid (fun (y : Rpv) (hy : y ∈ R) => CLS.out y.r (by rw [← r1]; exact List.mem_map_of_mem hy))
  have R1 := Lib.hid r1
  have RL := Lib.hid (show R.length ≤ 1000 from by have h1 := (wake_le t x.sp.wts).1; rw [← r1, List.length_map] at h1; have := HSM.out; omega)
  clear m1 v1 s1 o1 t1 RB hne WK_ CLS r1 c4
  go_upto_region 3 with (fail)
  go_loopw [19] (fun i wr => ∃ j : Nat, j ≤ R.length ∧ i = .int .i64 (j : Int) ∧ ∃ X, SM wB wr g X ∧ Mv g x1 X w1 wr ∧ X.sp = ((R.take j).map (·.r)).foldl lateS x1.sp) (fun i _ => R.length - (intOf i).toNat)
  case atStart => exact ⟨0, by omega, rfl, x1, M1.out, Mv.of_below (Below.refl _ _), rfl⟩
  case round =>
    obtain ⟨j, hj, rfl, X, mx, vx, sx⟩ := hrel
    have MX := Lib.hid mx; have VX := Lib.hid vx; have SX := Lib.hid sx
    clear mx vx sx
    by_cases hlt : j < R.length
    · obtain ⟨y, hy⟩ : ∃ y, R[j]? = some y := ⟨_, List.getElem?_eq_getElem hlt⟩
      obtain ⟨b, o, rfl, hbl, rg⟩ := RowL.of_own pv_len rfl (VX.out.row M1.out O1.out (by decide) (by decide) (by decide)) j y hy
      obtain ⟨⟨k, hk, hk4⟩, hyt⟩ := (show (∃ k : Nat, y.r.cl = (k : Int) ∧ k < 4) ∧ y.r.t = t from ⟨clB_nat (HCR.out y (List.mem_of_getElem? hy)).1, (HCR.out y (List.mem_of_getElem? hy)).2⟩)
      obtain ⟨z, hz⟩ : ∃ z, X.last[k]? = some z := ⟨_, List.getElem?_eq_getElem (by have := MX.out.sf.l4; omega)⟩
      have RG := Lib.hid rg
      have FS := Lib.hid (pv_size y); have F1 := Lib.hid (pv_oneA y)
      have j1 : (j : Int) < (R.length : Int) := by omega
      have nB : (R.length : Int) ≤ 9223372036854775807 := by have := RL.out; omega
      have A0 := Lib.hid (Blk.new wr 26 [.int .i64 0, .int .i64 0, .int .i64 0, .slice none 0 0, .bool false])
      have A1 := Lib.hid (A0.out.setRow (pv y))
      have W1 := Lib.hid (below_setRow ((Below.refl wr.heap.size wr).alloc (Nat.le_refl _) (.cells #[.int .i64 0, .int .i64 0, .int .i64 0, .slice none 0 0, .bool false] 26)) (Nat.le_refl _) (pv y).toArray)
      have sn : ((R.take (j + 1)).map (·.r)).foldl lateS x1.sp = lateS X.sp y.r := by rw [take_snoc hy, List.map_append, List.map_singleton, fold_snoc, ← SX.out]
      have lz := lastOf_at hz
      rw [← hk] at lz
      have SN := Lib.hid sn; have HY := Lib.hid hy; have HLT := Lib.hid hlt; have HZ := Lib.hid hz; have LZ := Lib.hid lz
      have FTY := Lib.hid (VX.out.ft M1.out (T1.out y (List.mem_of_getElem? hy)))
      have HK := Lib.hid hk; have HYT := Lib.hid hyt
      clear hy rg hbl hlt hz hk sn lz SX hyt
      go_upto_region 5 with (first
        | ((with_reducible refine at_op (.load 26 (.tmp 21)) rfl ?_); go_must (refine wpList_load_mid rfl 26 (.tmp 21) rfl b (o + j * 5) rfl (pv y) _ RG.out Tryz.underlying26 rfl FS.out ?_))
        | ((with_reducible refine store_blk 26 (.tmp 8) (.tmp 22) wr.heap.size 26 [.int .i64 0, .int .i64 0, .int .i64 0, .slice none 0 0, .bool false] (pv y) rfl rfl ?_ ?_ ?_ ?_ ?_ ?_ ?_); exact A0.out; exact rfl; exact FS.out; exact F1.out; exact rfl; exact rfl))
      obtain ⟨V, hV⟩ : ∃ V, (wr.alloc (.cells #[.int .i64 0, .int .i64 0, .int .i64 0, .slice none 0 0, .bool false] 26)).setRow wr.heap.size (pv y).toArray = V := ⟨_, rfl⟩
      rw [hV] at A1 W1 ⊢
      have MV := Lib.hid (MX.out.below W1.out)
      have VV := Lib.hid (VX.out.trans (Mv.of_below (x := X) (g := g) W1.out))
      have FTV := Lib.hid (FTY.out.below W1.out)
      clear hV A0 RG MX VX FTY
      have d0 := (pv_cells A1.out).1
      rw [HK.out] at d0
      have d1 := (pv_cells A1.out).2.1
      have e1 : V.cell? ⟨g, 5 + k * 5 + 1, none⟩ = some (.int .i64 z.r.sq) := by
        obtain ⟨b', o', eb, _, rz⟩ := sv_row MV.out.box k z HZ.out
        injection eb with eb
        injection eb with e1 e2
        subst e1
        subst e2
        exact rz 1 _ rfl
      have k4 : (k : Int) < 4 := by omega
      go_quiet (fail)
      obtain ⟨U, hU⟩ : ∃ U, V.drewN nq = U := ⟨_, rfl⟩
      have BU : Below V.heap.size V U := by rw [← hU]; exact below_drewN' (Below.refl _ _) nq
      rw [hU]
      have MU := Lib.hid (MV.out.below BU)
      have VU := Lib.hid (VV.out.trans (Mv.of_below (x := X) (g := g) BU))
      have AU := Lib.hid (A1.out.below BU A1.out.lt)
      have FTU := Lib.hid (FTV.out.below BU)
      clear hU BU MV VV A1 FTV d0 d1 e1
      by_cases hsq : z.r.sq = y.r.sq
      · have NT := Lib.hid (note_t wB g k X y U MU.out HK.out hk4 (FTU.out.tr (by rw [HYT.out]; omega)) (by rw [HYT.out]; exact hmt))
        have LS := Lib.hid (show lateS X.sp y.r = noteP X.sp y.r from by unfold lateS; rw [LZ.out, if_pos hsq])
        have eb : (z.r.sq == y.r.sq) = true := by rw [hsq]; exact beq_self_eq_true _
        go_wp2_with ((with_reducible refine load_blk 26 (.tmp 8) wr.heap.size 26 (pv y) _ rfl rfl ?_ Tryz.underlying26 ?_ ?_ ?_ ?_); exact AU.out; exact rfl; exact FS.out; exact rfl)
        refine NT.out.mono ?_
        rintro e w4 ⟨rfl, X', mx, vx, sx⟩
        have HX := Lib.hid (And.intro mx (And.intro (VU.out.trans vx) sx))
        clear mx vx sx NT MU VU AU FTU
        go_wp2_with fail
        go_roundw
        case rel => exact ⟨j + 1, HLT.out, by go_num, X', HX.out.1, HX.out.2.1, by rw [SN.out, LS.out]; exact HX.out.2.2⟩
        case measure => have := HLT.out; simp [intOf]; omega
      · have LS := Lib.hid (show lateS X.sp y.r = X.sp from by unfold lateS; rw [LZ.out, if_neg hsq])
        have eb : (z.r.sq == y.r.sq) = false := by rw [beq_eq_false_iff_ne]; exact hsq
        go_wp2_with fail
        go_roundw
        case rel => exact ⟨j + 1, HLT.out, by go_num, X, MU.out, VU.out, by rw [SN.out, LS.out]⟩
        case measure => have := HLT.out; simp [intOf]; omega
    · obtain rfl : j = R.length := by omega
      rw [List.take_length, R1.out] at SX
      have HSX := Lib.hid (show X.sp = (wakeP t x.sp.wts).2.1.foldl lateS { x.sp with wts := (wakeP t x.sp.wts).1 } from by rw [SX.out, S1.out])
      have OW := Lib.hid (VX.out.row M1.out O1.out (by decide) (by decide) (by decide))
      have HV := Lib.hid (V1.out.trans VX.out)
      cases htk : (wakeP t x.sp.wts).2.2 with
      | true =>
        have HP := Lib.hid (putP_yes (s := x.sp) (r := qp r.r) (by rw [HQ.out]; exact htk))
        rw [HQ.out] at HP
        clear htk SX
        go_wp2_with fail
        go_ret
        exact ⟨X, R, q, c, rfl, MX.out, (Mv.of_below HB0.out).trans HV.out, by rw [HP.out]; exact HSX.out, by rw [HP.out]; exact R1.out, own_base OW.out (fun k hk => Nat.le_trans HB0.out.size ((O1.out.lt k hk).1)), fun y hy => (VX.out.ft M1.out (T1.out y hy)).low HB0.out.size⟩
      | false =>
        have HP := Lib.hid (putP_no (s := x.sp) (r := qp r.r) (by rw [HQ.out]; exact htk))
        rw [HQ.out] at HP
        clear htk SX
        have RBW := Lib.hid (VX.out.blk M1.out RB1.out (by decide) (by decide) HNE.out)
        have hlen : X.its.length ≤ 1000 := by
          have h1 := congrArg (fun z : Sp => z.its.length) HSX.out
          dsimp only at h1
          rw [(fold_its _ _).1] at h1
          have h2 : X.its.length = x.its.length := by rw [show X.its.length = X.sp.its.length from (List.length_map _).symm, h1]; exact List.length_map _
          have := hni'.out
          omega
        have hnow : X.now = x.now := by
          have h1 := congrArg (fun z : Sp => z.now) HSX.out
          dsimp only at h1
          rw [(fold_its _ _).2.2] at h1
          exact h1
        go_upto_region 10 with (fail)
        go_cut [9] (fun s9 wx => ∃ (gi : Nat) (q' : Option Addr) (d : Nat), s9 = .pointer (some ⟨gi, 0, none⟩) ∧ wr.heap.size ≤ gi ∧ Blk wx gi 62 (iv ⟨⟨r.r.cl, 0, t⟩, q', d⟩) ∧ FT wx wB.heap.size q' d t ∧ Below wr.heap.size wr wx)
        case first =>
          obtain ⟨U, hU⟩ : ∃ U, wr.drew = U := ⟨_, rfl⟩
          have BU := Lib.hid (show Below wr.heap.size wr U from by rw [← hU]; exact (Below.refl _ _).drew)
          have HUS := Lib.hid (show U.heap.size = wr.heap.size by rw [← hU]; rfl)
          have G1 : Blk U W.heap.size 51 (rv r) := RBW.out.below BU.out RBW.out.lt
          have GS := Lib.hid (fun (Y : World) (hb : Below U.heap.size U Y) => G1.below hb G1.lt)
          have TU := Lib.hid ((HTT.out.below MX.out.bel).below BU.out)
          have CF := Lib.hid (fun (Y : World) (hb : Below U.heap.size U Y) => cloneF_t t r.t t.length r.d Y rfl (rw_row.1 ((TU.out.below hb).t)) (by omega))
          have HWU := Lib.hid (show wB.heap.size ≤ U.heap.size from Nat.le_trans MX.out.bel.size BU.out.size)
          have BI := fun (q' : Option Addr) (d : Nat) => built_item r.r.cl t q' d
          refine wp_region_held (S := fun Y => Blk Y W.heap.size 51 (rv r)) (by kernel_rfl) ?_
          change wpAnyH _ _ _ _ _ _ _ _ wr.drew
          rw [hU]
          clear hU
          have C0 := Lib.hid (Below.refl U.heap.size U)
          refine wpAnyH_take (i := 0) (v := ?_) rfl (by kernel_rfl) (by kernel_rfl) (by kernel_rfl) (fun _ _ _ h => h) (Or.inl ⟨by kernel_rfl, ?_⟩) G1 ?_
          rotate_left 1
          · (intro w hS; clear hS; go_simp; try (with_reducible rfl))
          refine wpAnyH_take (i := 1) (v := ?_) rfl (by kernel_rfl) (by kernel_rfl) (by kernel_rfl) (fun _ _ _ h => h) (Or.inl ⟨by kernel_rfl, ?_⟩) G1 ?_
          rotate_left 1
          · (intro w hS; have hs := (rv_cells hS).1; clear hS; go_simp; try (with_reducible rfl))
          refine wpAnyH_take (i := 2) (v := ?_) rfl (by kernel_rfl) (by kernel_rfl) (by kernel_rfl) (fun _ _ _ h => h) (Or.inl ⟨by kernel_rfl, ?_⟩) G1 ?_
          rotate_left 1
          · (intro w hS; clear hS; go_simp; try (with_reducible rfl))
          refine wpAnyH_take (i := 3) (v := ?_) rfl (by kernel_rfl) (by kernel_rfl) (by kernel_rfl) (fun _ _ _ h => h) (Or.inl ⟨by kernel_rfl, ?_⟩) G1 ?_
          rotate_left 1
          · (intro w hS; have hs := ((rv_cells hS).2.2.2.2.1.trans (by rw [← ML.out])); clear hS; go_simp; try (with_reducible rfl))
          refine wpAnyH_ready (rs := [4, 6]) (by kernel_rfl) (by simp) ?_
          refine AllReadyH.cons rfl (fun K hK => ?_) (AllReadyH.cons rfl (fun K hK => ?_) AllReadyH.nil)
          · skip
            go_simp
            refine (CF.out _ C0.out).mono ?_
            rintro e wa ⟨q', d, rfl, oa, bq⟩
            have Ca := Lib.hid (C0.out.trans (bq.mono C0.out.size))
            have FQ := Lib.hid (FT.low (base' := wB.heap.size) oa (Nat.le_trans HWU.out C0.out.size))
            refine hK.out _ _ (GS.out _ Ca.out) (fun _ => ?_)
            clear hK K oa
            have BI' := BI q' d
            refine wpAnyH_take (i := 5) (v := ?_) rfl (by kernel_rfl) (by kernel_rfl) (by kernel_rfl) (fun _ _ _ h => h) (Or.inl ⟨by kernel_rfl, ?_⟩) (GS.out _ Ca.out) ?_
            rotate_left 1
            · (intro w hS; clear hS; go_simp; try (with_reducible rfl))
            refine wpAnyH_ready (rs := [6]) (by kernel_rfl) (by simp) ?_
            refine AllReadyH.cons rfl (fun K hK => ?_) AllReadyH.nil
            rw [if_pos (by kernel_rfl)]
            go_simp
            have ba := (Below.refl (wa).heap.size wa).alloc (Nat.le_refl _) (.cells #[.int .i64 0, .int .i64 0, .slice none 0 0] 62)
            have Z0 := Lib.hid (Blk.new wa 62 [.int .i64 0, .int .i64 0, .slice none 0 0])
            have Cb := Lib.hid (Ca.out.trans (ba.mono Ca.out.size))
            have gz0 : U.heap.size ≤ (wa).heap.size := Ca.out.size
            obtain ⟨gz, hgz⟩ : ∃ g, (wa).heap.size = g := ⟨_, rfl⟩
            have gz1 : U.heap.size ≤ gz := by rw [← hgz]; exact gz0
            rw [hgz] at Z0 ⊢
            clear hgz gz0
            refine hK.out _ _ (GS.out _ Cb.out) (fun _ => ?_)
            clear hK K
            have FR := Lib.hid (FQ.out.below ba)
            refine wpAnyH_ready (rs := [7]) (by kernel_rfl) (by simp) ?_
            refine AllReadyH.cons rfl (fun K hK => ?_) AllReadyH.nil
            rw [if_pos (by kernel_rfl)]
            refine wstore_part 62 (.tmp 9) (.tmp 45) gz 0 62 [] [.int .i64 0, .int .i64 0, .slice none 0 0] [] (iv ⟨⟨r.r.cl, 0, t⟩, q', d⟩) rfl (by rw [List.nil_append, List.append_nil]; exact Z0.out) rfl rfl (iv_size _) (iv_oneA _) rfl rfl ?_
            intro wz a1 a2 a3
            have DZ0 := Lib.hid (show Blk wz gz 62 (iv ⟨⟨r.r.cl, 0, t⟩, q', d⟩) by have := a1.out; rwa [List.nil_append, List.append_nil] at this)
            have FZ := Lib.hid (show FT wz wB.heap.size q' d t from own_kept FR.out (⟨a2.out.os, a2.out.tape, a2.out.output, a2.out.size, fun b h1 h2 => a2.out.block b h1 h2⟩ : Kept (fun b => b = gz) _ wz) (fun k hk e => own_apart FR.out Z0.out (by decide) (by rw [hk, e])))
            have CZ := Lib.hid (show Below U.heap.size U wz from Cb.out.trans (a2.out.below gz1 Cb.out.size))
            refine hK.out _ _ (GS.out _ CZ.out) (fun _ => ?_)
            clear hK K
            refine wpAnyH_done (by kernel_rfl) ?_ _
            go_simp
            go_wp2_with fail
            go_meet
            exact ⟨gz, q', d, rfl, by have := HUS.out; omega, DZ0.out, FZ.out, BU.out.trans (CZ.out.mono BU.out.size)⟩
          · skip
            go_simp
            have ba := (Below.refl (U).heap.size U).alloc (Nat.le_refl _) (.cells #[.int .i64 0, .int .i64 0, .slice none 0 0] 62)
            have Z0 := Lib.hid (Blk.new U 62 [.int .i64 0, .int .i64 0, .slice none 0 0])
            have Ca := Lib.hid (C0.out.trans (ba.mono C0.out.size))
            have gz0 : U.heap.size ≤ (U).heap.size := C0.out.size
            obtain ⟨gz, hgz⟩ : ∃ g, (U).heap.size = g := ⟨_, rfl⟩
            have gz1 : U.heap.size ≤ gz := by rw [← hgz]; exact gz0
            rw [hgz] at Z0 ⊢
            clear hgz gz0
            refine hK.out _ _ (GS.out _ Ca.out) (fun _ => ?_)
            clear hK K
            refine wpAnyH_ready (rs := [4]) (by kernel_rfl) (by simp) ?_
            refine AllReadyH.cons rfl (fun K hK => ?_) AllReadyH.nil
            go_simp
            refine (CF.out _ Ca.out).mono ?_
            rintro e wb ⟨q', d, rfl, oa, bq⟩
            have Cb := Lib.hid (Ca.out.trans (bq.mono Ca.out.size))
            have FQ := Lib.hid (FT.low (base' := wB.heap.size) oa (Nat.le_trans HWU.out Ca.out.size))
            refine hK.out _ _ (GS.out _ Cb.out) (fun _ => ?_)
            clear hK K oa
            have BI' := BI q' d
            have Z1 := Lib.hid (Z0.out.below bq Z0.out.lt)
            clear Z0
            have Z0 := Z1
            clear Z1
            refine wpAnyH_take (i := 5) (v := ?_) rfl (by kernel_rfl) (by kernel_rfl) (by kernel_rfl) (fun _ _ _ h => h) (Or.inl ⟨by kernel_rfl, ?_⟩) (GS.out _ Cb.out) ?_
            rotate_left 1
            · (intro w hS; clear hS; go_simp; try (with_reducible rfl))
            refine wpAnyH_ready (rs := [7]) (by kernel_rfl) (by simp) ?_
            refine AllReadyH.cons rfl (fun K hK => ?_) AllReadyH.nil
            rw [if_pos (by kernel_rfl)]
            refine wstore_part 62 (.tmp 9) (.tmp 45) gz 0 62 [] [.int .i64 0, .int .i64 0, .slice none 0 0] [] (iv ⟨⟨r.r.cl, 0, t⟩, q', d⟩) rfl (by rw [List.nil_append, List.append_nil]; exact Z0.out) rfl rfl (iv_size _) (iv_oneA _) rfl rfl ?_
            intro wz a1 a2 a3
            have DZ0 := Lib.hid (show Blk wz gz 62 (iv ⟨⟨r.r.cl, 0, t⟩, q', d⟩) by have := a1.out; rwa [List.nil_append, List.append_nil] at this)
            have FZ := Lib.hid (show FT wz wB.heap.size q' d t from own_kept FQ.out (⟨a2.out.os, a2.out.tape, a2.out.output, a2.out.size, fun b h1 h2 => a2.out.block b h1 h2⟩ : Kept (fun b => b = gz) _ wz) (fun k hk e => own_apart FQ.out Z0.out (by decide) (by rw [hk, e])))
            have CZ := Lib.hid (show Below U.heap.size U wz from Cb.out.trans (a2.out.below gz1 Cb.out.size))
            refine hK.out _ _ (GS.out _ CZ.out) (fun _ => ?_)
            clear hK K
            refine wpAnyH_done (by kernel_rfl) ?_ _
            go_simp
            go_wp2_with fail
            go_meet
            exact ⟨gz, q', d, rfl, by have := HUS.out; omega, DZ0.out, FZ.out, BU.out.trans (CZ.out.mono BU.out.size)⟩
        case rest =>
          obtain ⟨gi, q', d, rfl, hgi, iz, fz', bz⟩ := hcut
          obtain ⟨wx, hwx⟩ : ∃ X : World, wc = X := ⟨_, rfl⟩
          have c5 := (rv_cells (RBW.out.below bz RBW.out.lt)).2.2.2.2.2
          have ct : wc.cell? ⟨g, 0, none⟩ = some (.int .i64 x.now) := by rw [← hnow]; exact (sv_cells (MX.out.below bz).box).1
          have ci := (iv_cells iz).2.1
          have fi := iz.frozen 1
          have IZ := Lib.hid iz; have FZ := Lib.hid fz'; have BZ := Lib.hid bz; have HGI := Lib.hid hgi; have HLEN := Lib.hid hlen
          clear iz fz' bz hwx wx hnow hlen hgi
          by_cases hle : r.r.le = 0
          · have en : (r.r.le != 0) = false := by rw [hle]; rfl
            have UN := Lib.hid (show (0 : Int) = (if (qp r.r).le = 0 then 0 else x.now + (qp r.r).le) from (if_pos hle).symm)
            go_upto_region 13 with (fail)
            obtain ⟨U, hU⟩ : ∃ U, (wc).drew = U := ⟨_, rfl⟩
            have BU := Lib.hid (show Below (wc).heap.size wc U from by rw [← hU]; exact (Below.refl _ _).drew)
            have BX := Lib.hid (BZ.out.trans (BU.out.mono BZ.out.size))
            have M3 := Lib.hid (MX.out.below BX.out)
            have I3 := Lib.hid (IZ.out.below BU.out IZ.out.lt)
            have F3 := Lib.hid (FZ.out.below BU.out)
            have V3 := Lib.hid (VX.out.trans (Mv.of_below (x := X) (g := g) BX.out))
            have HGX := Lib.hid (fun (e : Value.ownBlock (.slice X.ip X.its.length X.ic) = some gi) => show False from absurd (MX.out.sf.its.lt gi e).2 (by have := HGI.out; omega))
            obtain ⟨y3, hy3⟩ : ∃ y : Itv, ⟨⟨r.r.cl, 0, t⟩, q', d⟩ = y := ⟨_, rfl⟩
            have HY3 := Lib.hid hy3
            have hyi : y3.i = ⟨r.r.cl, 0, t⟩ := by rw [← hy3]
            have hyp : FT U wB.heap.size y3.p y3.c y3.i.t := by rw [← hy3]; exact F3.out
            have HYI := Lib.hid hyi; have HYP := Lib.hid hyp
            rw [hy3] at I3
            have FS := Lib.hid (iv_size y3)
            clear hy3 hyi hyp F3
            have s0 : U.cell? ⟨g, 1, none⟩ = some (.slice X.ip X.its.length X.ic) ∧ Blk U gi 62 (iv y3) := ⟨(sv_cells M3.out.box).2.1, I3.out⟩
            refine wp_region_E (fun Y => Y.cell? ⟨g, 1, none⟩ = some (.slice X.ip X.its.length X.ic) ∧ Blk Y gi 62 (iv y3)) (fun i => i == 10) (by kernel_rfl) ?_
            change wpAnyE _ _ _ _ _ _ _ _ _ (wc).drew
            rw [hU]
            clear hU
            refine wpAnyE_take (i := 0) (v := ?_) rfl (by kernel_rfl) (by kernel_rfl) (by kernel_rfl) (by kernel_rfl) (fun _ _ _ h => h) (Or.inl ⟨by kernel_rfl, ?_⟩) s0 ?_
            rotate_left 1
            · (intro w hS; clear hS; go_simp; try (with_reducible rfl))
            refine wpAnyE_take (i := 1) (v := ?_) rfl (by kernel_rfl) (by kernel_rfl) (by kernel_rfl) (by kernel_rfl) (fun _ _ _ h => h) (Or.inl ⟨by kernel_rfl, ?_⟩) s0 ?_
            rotate_left 1
            · (intro w hS; clear hS; go_simp; try (with_reducible rfl))
            refine wpAnyE_take (i := 2) (v := ?_) rfl (by kernel_rfl) (by kernel_rfl) (by kernel_rfl) (by kernel_rfl) (fun _ _ _ h => h) (Or.inl ⟨by kernel_rfl, ?_⟩) s0 ?_
            rotate_left 1
            · (intro w hS; clear hS; go_simp; try (with_reducible rfl))
            refine wpAnyE_take (i := 3) (v := ?_) rfl (by kernel_rfl) (by kernel_rfl) (by kernel_rfl) (by kernel_rfl) (fun _ _ _ h => h) (Or.inl ⟨by kernel_rfl, ?_⟩) s0 ?_
            rotate_left 1
            · (intro w hS; clear hS; go_simp; try (with_reducible rfl))
            refine wpAnyE_take (i := 4) (v := ?_) rfl (by kernel_rfl) (by kernel_rfl) (by kernel_rfl) (by kernel_rfl) (fun _ _ _ h => h) (Or.inl ⟨by kernel_rfl, ?_⟩) s0 ?_
            rotate_left 1
            · (intro w hS; have hs := hS.1; clear hS; go_simp; try (with_reducible rfl))
            refine wpAnyE_take (i := 5) (v := .agg (iv y3).toArray) rfl (by kernel_rfl) (by kernel_rfl) (by kernel_rfl) (by kernel_rfl) (fun _ _ _ h => h) (yieldsIf_load_mid (by kernel_rfl) 62 (.tmp 9) rfl gi 0 (by go_simp) (iv y3) _ (fun _ h => rows_of_blk h.2) Tryz.underlying62 rfl (FS.out)) s0 ?_
            have BA := Lib.hid ((Below.refl U.heap.size U).alloc (Nat.le_refl _) (.cells (iv y3).toArray 62))
            have M4 := Lib.hid (M3.out.below BA.out)
            have R1' := Lib.hid (row_one iv 3 y3 U 62)
            have s1 : (U.alloc (.cells (iv y3).toArray 62)).cell? ⟨g, 1, none⟩ = some (.slice X.ip X.its.length X.ic) ∧ Blk (U.alloc (.cells (iv y3).toArray 62)) gi 62 (iv y3) := ⟨(sv_cells M4.out.box).2.1, s0.2.alloc _⟩
            refine wpAnyE_one (i := 6) (by kernel_rfl) rfl (by kernel_rfl) (fun K hK => ?_)
            refine wp_build1 22 62 (.tmp 62) rfl (iv y3) rfl (build_iv y3 _) ?_
            refine hK.out _ _ (.inr s1) ?_
            clear hK K
            have F4 := Lib.hid (HYP.out.below BA.out)
            obtain ⟨U4, hU4⟩ : ∃ U', U.alloc (.cells (iv y3).toArray 62) = U' := ⟨_, rfl⟩
            rw [hU4] at BA M4 R1' s1 F4 ⊢
            clear hU4 s0
            refine wpAnyE_one (i := 7) (by kernel_rfl) rfl (by kernel_rfl) (fun K hK => ?_)
            refine wp_append_rows (.tmp 61) (.tmp 63) 22 ?_ 62 Tryz.underlying22 infoI rfl (by decide) (by decide) iv_len iv_one wB.heap.size (.slice X.ip X.its.length X.ic) X.its.length (X.its.flatMap iv) ?_ M4.out.sf.its (some ⟨U.heap.size, 0, none⟩) 1 1 ?_ [y3] rfl R1'.out (by have := HLEN.out; omega) M4.out.bel.size ?_
            · rfl
            · go_simp
            · go_simp
            intro v1 w5 h2 h3 h5 h6
            obtain ⟨q9, c9, hv, _⟩ := own_form h2.out
            subst hv
            have hkp : Kept (OB X.ip) U4 w5 := (Kept.refl (OB X.ip) U4).grown h3.out (fun k e => .inl (ob_own e))
            obtain ⟨M6, V6⟩ := M4.out.items (X.its ++ [y3]) q9 c9 hkp (fun k hk => by
              have ek := hk.own (n := X.its.length + 1) (c := c9)
              rcases h5.out with e | e
              · exact .inl (ob_own (n := X.its.length) (c := X.ic) (by rw [← e]; exact ek))
              · rw [e] at ek
                injection ek with ek
                exact .inr (by omega)) (by rw [List.length_append, List.flatMap_append]; exact h2.out) (fun z hz => by
              rcases List.mem_append.1 hz with hz | hz
              · exact own_kept (M4.out.sf.it z hz) hkp (fun k hk e => own_two M4.out.sf.its (M4.out.sf.it z hz) (by decide) e.own hk)
              · rw [List.mem_singleton.1 hz]
                exact own_kept F4.out hkp (fun k hk e => own_two M4.out.sf.its F4.out (by decide) e.own hk))
            rw [List.length_append, List.length_singleton] at M6 V6
            have V7 := Lib.hid (V3.out.trans ((Mv.of_below (x := X) (g := g) BA.out).trans V6))
            have M6H := Lib.hid M6
            have ct5 : w5.cell? ⟨g, 1, none⟩ = some (.slice X.ip X.its.length X.ic) := (hkp.cell (p := ⟨g, 1, none⟩) M4.out.box.lt M4.out.apartI).trans s1.1
            have fg5 := (M4.out.box.kept hkp M4.out.apartI).frozen 1
            have s5 : w5.cell? ⟨g, 1, none⟩ = some (.slice X.ip X.its.length X.ic) ∧ Blk w5 gi 62 (iv y3) := ⟨ct5, (h3.out.block gi s1.2.lt (fun e => HGX.out e.symm)).trans s1.2⟩
            refine hK.out _ _ (.inr s5) ?_
            clear hK K M6 V6 h2 h3 h5 h6 hkp s1 M4 M3 BA R1' F4 V3 I3
            refine wpAnyE_one (i := 8) (by kernel_rfl) rfl (by kernel_rfl) (fun K hK => ?_)
            go_simp
            refine hK.out _ _ (.inr s5) ?_
            clear hK K
            refine wpAnyE_one (i := 9) (by kernel_rfl) rfl (by kernel_rfl) (fun K hK => ?_)
            go_simp
            refine hK.out _ _ (.inr s5) ?_
            clear hK K
            refine wpAnyE_one (i := 10) (by kernel_rfl) rfl (by kernel_rfl) (fun K hK => ?_)
            go_simp
            refine hK.out _ _ (.inl rfl) ?_
            clear hK K
            refine wpAnyE_done (by kernel_rfl) ?_ _
            go_simp
            go_wp2_with fail
            go_ret
            refine ⟨_, R, q, c, rfl, M6H.out, (Mv.of_below HB0.out).trans (V1.out.trans V7.out), ?_, by rw [HP.out]; exact R1.out, own_base (V7.out.row M1.out O1.out (by decide) (by decide) (by decide)) (fun k hk => Nat.le_trans HB0.out.size ((O1.out.lt k hk).1)), fun y hy => (V7.out.ft M1.out (T1.out y hy)).low HB0.out.size⟩
            rw [HP.out]
            show Spv.sp { X with its := X.its ++ [y3], ip := q9, ic := c9 } = _
            rw [← HSX.out]
            unfold Spv.sp
            dsimp only
            rw [List.map_append, List.map_singleton, HYI.out, ← UN.out]
            rfl
          · have en : (r.r.le != 0) = true := by rw [bne_iff_ne]; exact hle
            have UN := Lib.hid (show x.now + r.r.le = (if (qp r.r).le = 0 then 0 else x.now + (qp r.r).le) from (if_neg hle).symm)
            go_upto_region 12 with (fail)
            obtain ⟨U2, hU2⟩ : ∃ U, wc.drew = U := ⟨_, rfl⟩
            have BU2 := Lib.hid (show Below wc.heap.size wc U2 from by rw [← hU2]; exact (Below.refl _ _).drew)
            have B2 := Lib.hid (BZ.out.trans (BU2.out.mono BZ.out.size))
            have I2 := Lib.hid (IZ.out.below BU2.out IZ.out.lt)
            have F2 := Lib.hid (FZ.out.below BU2.out)
            have s2 : U2.cell? ⟨g, 0, none⟩ = some (.int .i64 x.now) ∧ U2.cell? ⟨W.heap.size, 5, none⟩ = some (.int .i64 r.r.le) := by rw [← hU2]; exact ⟨ct, c5⟩
            have ci2 : U2.cell? ⟨gi, 1, none⟩ = some (.int .i64 0) := by rw [← hU2]; exact ci
            have fi2 : U2.frozen? ⟨gi, 1, none⟩ = false := by rw [← hU2]; exact fi
            refine wp_region_E (fun Y => Y.cell? ⟨g, 0, none⟩ = some (.int .i64 x.now) ∧ Y.cell? ⟨W.heap.size, 5, none⟩ = some (.int .i64 r.r.le)) (fun i => i == 8) (by kernel_rfl) ?_
            change wpAnyE _ _ _ _ _ _ _ _ _ wc.drew
            rw [hU2]
            clear hU2 ct c5 ci fi
            refine wpAnyE_take (i := 0) (v := ?_) rfl (by kernel_rfl) (by kernel_rfl) (by kernel_rfl) (by kernel_rfl) (fun _ _ _ h => h) (Or.inl ⟨by kernel_rfl, ?_⟩) s2 ?_
            rotate_left 1
            · (intro w hS; clear hS; go_simp; try (with_reducible rfl))
            refine wpAnyE_take (i := 1) (v := ?_) rfl (by kernel_rfl) (by kernel_rfl) (by kernel_rfl) (by kernel_rfl) (fun _ _ _ h => h) (Or.inl ⟨by kernel_rfl, ?_⟩) s2 ?_
            rotate_left 1
            · (intro w hS; clear hS; go_simp; try (with_reducible rfl))
            refine wpAnyE_take (i := 2) (v := ?_) rfl (by kernel_rfl) (by kernel_rfl) (by kernel_rfl) (by kernel_rfl) (fun _ _ _ h => h) (Or.inl ⟨by kernel_rfl, ?_⟩) s2 ?_
            rotate_left 1
            · (intro w hS; clear hS; go_simp; try (with_reducible rfl))
            refine wpAnyE_take (i := 3) (v := ?_) rfl (by kernel_rfl) (by kernel_rfl) (by kernel_rfl) (by kernel_rfl) (fun _ _ _ h => h) (Or.inl ⟨by kernel_rfl, ?_⟩) s2 ?_
            rotate_left 1
            · (intro w hS; have hs := hS.1; clear hS; go_simp; try (with_reducible rfl))
            refine wpAnyE_take (i := 4) (v := ?_) rfl (by kernel_rfl) (by kernel_rfl) (by kernel_rfl) (by kernel_rfl) (fun _ _ _ h => h) (Or.inl ⟨by kernel_rfl, ?_⟩) s2 ?_
            rotate_left 1
            · (intro w hS; clear hS; go_simp; try (with_reducible rfl))
            refine wpAnyE_take (i := 5) (v := ?_) rfl (by kernel_rfl) (by kernel_rfl) (by kernel_rfl) (by kernel_rfl) (fun _ _ _ h => h) (Or.inl ⟨by kernel_rfl, ?_⟩) s2 ?_
            rotate_left 1
            · (intro w hS; have hs := hS.2; clear hS; go_simp; try (with_reducible rfl))
            refine wpAnyE_take (i := 6) (v := ?_) rfl (by kernel_rfl) (by kernel_rfl) (by kernel_rfl) (by kernel_rfl) (fun _ _ _ h => h) (Or.inl ⟨by kernel_rfl, ?_⟩) s2 ?_
            rotate_left 1
            · (intro w hS; clear hS; go_simp; try (with_reducible rfl))
            refine wpAnyE_one (i := 7) (by kernel_rfl) rfl (by kernel_rfl) (fun K hK => ?_)
            go_simp
            refine hK.out _ _ (.inr s2) ?_
            clear hK K
            refine wpAnyE_one (i := 8) (by kernel_rfl) rfl (by kernel_rfl) (fun K hK => ?_)
            go_simp
            refine hK.out _ _ (.inl rfl) ?_
            clear hK K
            refine wpAnyE_done (by kernel_rfl) ?_ _
            go_simp
            obtain ⟨U3, hU3⟩ : ∃ U, U2.setCell ⟨gi, 1, none⟩ (.int .i64 (x.now + r.r.le)) = U := ⟨_, rfl⟩
            have I3 := Lib.hid (show Blk U3 gi 62 (iv ⟨⟨r.r.cl, x.now + r.r.le, t⟩, q', d⟩) from by rw [← hU3]; exact I2.out.store 1 _)
            have F3 := Lib.hid (show FT U3 wB.heap.size q' d t from by rw [← hU3]; exact own_kept F2.out ((Kept.refl (fun b => b = gi) U2).setCell (p := ⟨gi, 1, none⟩) (.inl rfl) _) (fun k hk e => own_apart F2.out I2.out (by decide) (by rw [hk, e])))
            have B3 := Lib.hid (show Below wr.heap.size wr U3 from by rw [← hU3]; exact B2.out.setCell (p := ⟨gi, 1, none⟩) HGI.out _)
            rw [hU3]
            clear hU3 I2 F2 B2 s2 ci2 fi2 IZ FZ BZ
            go_upto_region 13 with (fail)
            obtain ⟨U, hU⟩ : ∃ U, (U3).drew = U := ⟨_, rfl⟩
            have BU := Lib.hid (show Below (U3).heap.size U3 U from by rw [← hU]; exact (Below.refl _ _).drew)
            have BX := Lib.hid (B3.out.trans (BU.out.mono B3.out.size))
            have M3 := Lib.hid (MX.out.below BX.out)
            have I3 := Lib.hid (I3.out.below BU.out I3.out.lt)
            have F3 := Lib.hid (F3.out.below BU.out)
            have V3 := Lib.hid (VX.out.trans (Mv.of_below (x := X) (g := g) BX.out))
            have HGX := Lib.hid (fun (e : Value.ownBlock (.slice X.ip X.its.length X.ic) = some gi) => show False from absurd (MX.out.sf.its.lt gi e).2 (by have := HGI.out; omega))
            obtain ⟨y3, hy3⟩ : ∃ y : Itv, ⟨⟨r.r.cl, (x.now + r.r.le), t⟩, q', d⟩ = y := ⟨_, rfl⟩
            have HY3 := Lib.hid hy3
            have hyi : y3.i = ⟨r.r.cl, (x.now + r.r.le), t⟩ := by rw [← hy3]
            have hyp : FT U wB.heap.size y3.p y3.c y3.i.t := by rw [← hy3]; exact F3.out
            have HYI := Lib.hid hyi; have HYP := Lib.hid hyp
            rw [hy3] at I3
            have FS := Lib.hid (iv_size y3)
            clear hy3 hyi hyp F3
            have s0 : U.cell? ⟨g, 1, none⟩ = some (.slice X.ip X.its.length X.ic) ∧ Blk U gi 62 (iv y3) := ⟨(sv_cells M3.out.box).2.1, I3.out⟩
            refine wp_region_E (fun Y => Y.cell? ⟨g, 1, none⟩ = some (.slice X.ip X.its.length X.ic) ∧ Blk Y gi 62 (iv y3)) (fun i => i == 10) (by kernel_rfl) ?_
            change wpAnyE _ _ _ _ _ _ _ _ _ (U3).drew
            rw [hU]
            clear hU
            refine wpAnyE_take (i := 0) (v := ?_) rfl (by kernel_rfl) (by kernel_rfl) (by kernel_rfl) (by kernel_rfl) (fun _ _ _ h => h) (Or.inl ⟨by kernel_rfl, ?_⟩) s0 ?_
            rotate_left 1
            · (intro w hS; clear hS; go_simp; try (with_reducible rfl))
            refine wpAnyE_take (i := 1) (v := ?_) rfl (by kernel_rfl) (by kernel_rfl) (by kernel_rfl) (by kernel_rfl) (fun _ _ _ h => h) (Or.inl ⟨by kernel_rfl, ?_⟩) s0 ?_
            rotate_left 1
            · (intro w hS; clear hS; go_simp; try (with_reducible rfl))
            refine wpAnyE_take (i := 2) (v := ?_) rfl (by kernel_rfl) (by kernel_rfl) (by kernel_rfl) (by kernel_rfl) (fun _ _ _ h => h) (Or.inl ⟨by kernel_rfl, ?_⟩) s0 ?_
            rotate_left 1
            · (intro w hS; clear hS; go_simp; try (with_reducible rfl))
            refine wpAnyE_take (i := 3) (v := ?_) rfl (by kernel_rfl) (by kernel_rfl) (by kernel_rfl) (by kernel_rfl) (fun _ _ _ h => h) (Or.inl ⟨by kernel_rfl, ?_⟩) s0 ?_
            rotate_left 1
            · (intro w hS; clear hS; go_simp; try (with_reducible rfl))
            refine wpAnyE_take (i := 4) (v := ?_) rfl (by kernel_rfl) (by kernel_rfl) (by kernel_rfl) (by kernel_rfl) (fun _ _ _ h => h) (Or.inl ⟨by kernel_rfl, ?_⟩) s0 ?_
            rotate_left 1
            · (intro w hS; have hs := hS.1; clear hS; go_simp; try (with_reducible rfl))
            refine wpAnyE_take (i := 5) (v := .agg (iv y3).toArray) rfl (by kernel_rfl) (by kernel_rfl) (by kernel_rfl) (by kernel_rfl) (fun _ _ _ h => h) (yieldsIf_load_mid (by kernel_rfl) 62 (.tmp 9) rfl gi 0 (by go_simp) (iv y3) _ (fun _ h => rows_of_blk h.2) Tryz.underlying62 rfl (FS.out)) s0 ?_
            have BA := Lib.hid ((Below.refl U.heap.size U).alloc (Nat.le_refl _) (.cells (iv y3).toArray 62))
            have M4 := Lib.hid (M3.out.below BA.out)
            have R1' := Lib.hid (row_one iv 3 y3 U 62)
            have s1 : (U.alloc (.cells (iv y3).toArray 62)).cell? ⟨g, 1, none⟩ = some (.slice X.ip X.its.length X.ic) ∧ Blk (U.alloc (.cells (iv y3).toArray 62)) gi 62 (iv y3) := ⟨(sv_cells M4.out.box).2.1, s0.2.alloc _⟩
            refine wpAnyE_one (i := 6) (by kernel_rfl) rfl (by kernel_rfl) (fun K hK => ?_)
            refine wp_build1 22 62 (.tmp 62) rfl (iv y3) rfl (build_iv y3 _) ?_
            refine hK.out _ _ (.inr s1) ?_
            clear hK K
            have F4 := Lib.hid (HYP.out.below BA.out)
            obtain ⟨U4, hU4⟩ : ∃ U', U.alloc (.cells (iv y3).toArray 62) = U' := ⟨_, rfl⟩
            rw [hU4] at BA M4 R1' s1 F4 ⊢
            clear hU4 s0
            refine wpAnyE_one (i := 7) (by kernel_rfl) rfl (by kernel_rfl) (fun K hK => ?_)
            refine wp_append_rows (.tmp 61) (.tmp 63) 22 ?_ 62 Tryz.underlying22 infoI rfl (by decide) (by decide) iv_len iv_one wB.heap.size (.slice X.ip X.its.length X.ic) X.its.length (X.its.flatMap iv) ?_ M4.out.sf.its (some ⟨U.heap.size, 0, none⟩) 1 1 ?_ [y3] rfl R1'.out (by have := HLEN.out; omega) M4.out.bel.size ?_
            · rfl
            · go_simp
            · go_simp
            intro v1 w5 h2 h3 h5 h6
            obtain ⟨q9, c9, hv, _⟩ := own_form h2.out
            subst hv
            have hkp : Kept (OB X.ip) U4 w5 := (Kept.refl (OB X.ip) U4).grown h3.out (fun k e => .inl (ob_own e))
            obtain ⟨M6, V6⟩ := M4.out.items (X.its ++ [y3]) q9 c9 hkp (fun k hk => by
              have ek := hk.own (n := X.its.length + 1) (c := c9)
              rcases h5.out with e | e
              · exact .inl (ob_own (n := X.its.length) (c := X.ic) (by rw [← e]; exact ek))
              · rw [e] at ek
                injection ek with ek
                exact .inr (by omega)) (by rw [List.length_append, List.flatMap_append]; exact h2.out) (fun z hz => by
              rcases List.mem_append.1 hz with hz | hz
              · exact own_kept (M4.out.sf.it z hz) hkp (fun k hk e => own_two M4.out.sf.its (M4.out.sf.it z hz) (by decide) e.own hk)
              · rw [List.mem_singleton.1 hz]
                exact own_kept F4.out hkp (fun k hk e => own_two M4.out.sf.its F4.out (by decide) e.own hk))
            rw [List.length_append, List.length_singleton] at M6 V6
            have V7 := Lib.hid (V3.out.trans ((Mv.of_below (x := X) (g := g) BA.out).trans V6))
            have M6H := Lib.hid M6
            have ct5 : w5.cell? ⟨g, 1, none⟩ = some (.slice X.ip X.its.length X.ic) := (hkp.cell (p := ⟨g, 1, none⟩) M4.out.box.lt M4.out.apartI).trans s1.1
            have fg5 := (M4.out.box.kept hkp M4.out.apartI).frozen 1
            have s5 : w5.cell? ⟨g, 1, none⟩ = some (.slice X.ip X.its.length X.ic) ∧ Blk w5 gi 62 (iv y3) := ⟨ct5, (h3.out.block gi s1.2.lt (fun e => HGX.out e.symm)).trans s1.2⟩
            refine hK.out _ _ (.inr s5) ?_
            clear hK K M6 V6 h2 h3 h5 h6 hkp s1 M4 M3 BA R1' F4 V3 I3
            refine wpAnyE_one (i := 8) (by kernel_rfl) rfl (by kernel_rfl) (fun K hK => ?_)
            go_simp
            refine hK.out _ _ (.inr s5) ?_
            clear hK K
            refine wpAnyE_one (i := 9) (by kernel_rfl) rfl (by kernel_rfl) (fun K hK => ?_)
            go_simp
            refine hK.out _ _ (.inr s5) ?_
            clear hK K
            refine wpAnyE_one (i := 10) (by kernel_rfl) rfl (by kernel_rfl) (fun K hK => ?_)
            go_simp
            refine hK.out _ _ (.inl rfl) ?_
            clear hK K
            refine wpAnyE_done (by kernel_rfl) ?_ _
            go_simp
            go_wp2_with fail
            go_ret
            refine ⟨_, R, q, c, rfl, M6H.out, (Mv.of_below HB0.out).trans (V1.out.trans V7.out), ?_, by rw [HP.out]; exact R1.out, own_base (V7.out.row M1.out O1.out (by decide) (by decide) (by decide)) (fun k hk => Nat.le_trans HB0.out.size ((O1.out.lt k hk).1)), fun y hy => (V7.out.ft M1.out (T1.out y hy)).low HB0.out.size⟩
            rw [HP.out]
            show Spv.sp { X with its := X.its ++ [y3], ip := q9, ic := c9 } = _
            rw [← HSX.out]
            unfold Spv.sp
            dsimp only
            rw [List.map_append, List.map_singleton, HYI.out, ← UN.out]
            rfl
end Go.Proofs.YtojianpbjckipaaGreatDoor
