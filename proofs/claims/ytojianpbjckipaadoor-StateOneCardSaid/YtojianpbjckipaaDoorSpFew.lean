/-
  FEW: a space that is few is small.
-/
import Derived.Test.YtojianpbjckipaaDoorSrM
import Derived.Test.YtojianpbjckipaaDoorSpH
namespace Go.Proofs.YtojianpbjckipaaDoor
open Go Go.RowKit Sh

theorem few_smallA {y : Rv} (h : fewR y = true) : y.r.n ≤ 1000 ∧ y.r.m ≤ 1000 := by
  unfold fewR fewL at h
  simp only [Bool.and_eq_true, decide_eq_true_eq] at h
  omega
def zFw : Nat → Fld := fun _ => f0
theorem built_few4 (p : Option Addr) (n c : Nat) (F G : Nat → Fld) : Tryd.prog.built 35 [(4, .slice p n c)] = some (rv ⟨⟨0, 0, 0, 0, 0, F, n, G⟩, none, 0, p, c⟩).toArray := by kernel_rfl
theorem built_few3 (p : Option Addr) (n c : Nat) (F G : Nat → Fld) : Tryd.prog.built 35 [(3, .slice p n c)] = some (rv ⟨⟨0, 0, 0, 0, n, G, 0, F⟩, p, c, none, 0⟩).toArray := by kernel_rfl
set_option maxRecDepth 100000 in
set_option maxHeartbeats 2000000 in
theorem fewS_t (x : Spv) (w : World) (hx : SpW w x) :
    Calls Tryd.prog 15 #[.agg (sv x).toArray] w fun e w' => ∃ b, e = .returned (.bool b) ∧ (b = true → Small x.sp) ∧ Below w.heap.size w w' := by
  have S0 := Lib.hid (SB.new hx)
  have HN := Lib.hid (And.intro hx.n hx.m)
  clear hx
  go_enter Tryd.func15, Tryd.ntmps15
  go_upto_region 1 with (fail)
  change Code.wp _ _ _ _ (w.alloc (.cells (sv x).toArray 31))
  obtain ⟨V, hV⟩ : ∃ V, w.alloc (.cells (sv x).toArray 31) = V := ⟨_, rfl⟩
  rw [hV] at S0 ⊢
  clear hV
  by_cases h1 : 100 < x.its.length
  · have c1 := (sv_cells S0.out.a).2.1
    have e1 : decide ((100 : Int) < (x.its.length : Int)) = true := decide_eq_true (by omega)
    go_wp2_with fail
    go_ret
    exact ⟨false, rfl, (fun h => by cases h), S0.out.bel⟩
  by_cases h2 : 100 < x.wts.length
  · have c1 := (sv_cells S0.out.a).2.1
    have c2 := (sv_cells S0.out.a).2.2.1
    have e1 : decide ((100 : Int) < (x.wts.length : Int)) = true := decide_eq_true (by omega)
    go_wp2_with fail
    go_ret
    exact ⟨false, rfl, (fun h => by cases h), S0.out.bel⟩
  have c1 := (sv_cells S0.out.a).2.1
  have c2 := (sv_cells S0.out.a).2.2.1
  have H1 := Lib.hid h1; have H2 := Lib.hid h2
  go_upto_region 4 with (fail)
  clear c1 c2 h1 h2
  obtain ⟨ip, hip⟩ : ∃ p, x.ip = p := ⟨_, rfl⟩
  obtain ⟨n, hn⟩ : ∃ n, x.its.length = n := ⟨_, rfl⟩
  have HL := Lib.hid hn; have HIP := Lib.hid hip
  have nB : (n : Int) ≤ 9223372036854775807 := by have := HN.out.1; omega
  clear hip hn
  go_loopw [3] (fun t wr => ∃ j : Nat, j ≤ n ∧ t = .int .i64 (j : Int) ∧ SB w wr x ∧ ∀ y, y ∈ x.its.take j → y.i.t.length ≤ 1000) (fun t _ => n - (intOf t).toNat)
  case atStart => exact ⟨0, by omega, rfl, S0.out, fun y hy => by simp at hy⟩
  case round =>
    clear S0
    obtain ⟨j, hj, rfl, s0, hb⟩ := hrel
    have S0 := Lib.hid s0; have HB := Lib.hid hb
    clear s0 hb
    have c1 := (sv_cells S0.out.a).2.1
    rw [HIP.out, HL.out] at c1
    by_cases hlt : j < n
    · obtain ⟨y, hy⟩ : ∃ y, x.its[j]? = some y := ⟨_, List.getElem?_eq_getElem (by rw [HL.out]; exact hlt)⟩
      obtain ⟨b, o, hpe, hbl, rg⟩ := S0.out.rx.its j y hy
      obtain rfl : ip = some ⟨b, o, none⟩ := HIP.out.symm.trans hpe
      have y0 : wr.cell? ⟨b, o + j * 3 + 2, none⟩ = some (.slice y.p y.i.t.length y.c) := rg 2 _ rfl
      have j1 : (j : Int) < (n : Int) := by omega
      have TY := Lib.hid (S0.out.rx.it y (List.mem_of_getElem? hy))
      have RZ := Lib.hid (show RvW wr (⟨⟨0, 0, 0, 0, 0, zFw, y.i.t.length, gl y.i.t⟩, none, 0, y.p, y.c⟩ : Rv) from ⟨fun j hj => absurd hj (Nat.not_lt_zero j), TY.out.t, Nat.zero_le _, TY.out.n⟩)
      have LZ := Lib.hid (show fewR (⟨⟨0, 0, 0, 0, 0, zFw, y.i.t.length, gl y.i.t⟩, none, 0, y.p, y.c⟩ : Rv) = true → y.i.t.length ≤ 1000 from fun h => by have := few_smallA h; exact this.2)
      have FW := Lib.hid (fewR_t (⟨⟨0, 0, 0, 0, 0, zFw, y.i.t.length, gl y.i.t⟩, none, 0, y.p, y.c⟩ : Rv) wr RZ.out)
      have BT := built_few4 y.p y.i.t.length y.c zFw (gl y.i.t)
      obtain ⟨bb, hbb⟩ : ∃ b, fewR (⟨⟨0, 0, 0, 0, 0, zFw, y.i.t.length, gl y.i.t⟩, none, 0, y.p, y.c⟩ : Rv) = b := ⟨_, rfl⟩
      rw [hbb] at FW LZ
      have TK := Lib.hid (take_snoc hy)
      clear hbb hy rg hbl hpe
      go_wp2_with fail
      refine FW.out.mono ?_
      rintro e w2 ⟨rfl, b2⟩
      have S2 := Lib.hid (S0.out.below b2)
      clear b2 FW S0 c1 y0 BT
      cases bb with
      | false =>
        go_wp2_with fail
        go_ret
        exact ⟨false, rfl, (fun h => by cases h), S2.out.bel⟩
      | true =>
        have HB2 := Lib.hid (show ∀ v, v ∈ x.its.take (j + 1) → v.i.t.length ≤ 1000 from fun v hv => by
          rw [TK.out] at hv
          rcases List.mem_append.1 hv with h | h
          · exact HB.out v h
          · rw [List.mem_singleton.1 h]; exact LZ.out rfl)
        go_wp2_with fail
        go_roundw
        case rel => exact ⟨j + 1, hlt, by go_num, S2.out, HB2.out⟩
        case measure => simp [intOf]; omega
    · obtain rfl : j = n := by omega
      have A_its := Lib.hid (show ∀ y ∈ x.its, y.i.t.length ≤ 1000 from fun y hy => HB.out y (by rw [← HL.out, List.take_length]; exact hy))
      clear hlt
      go_upto_region 9 with (fail)
      clear c1 HB HL HIP nB hj
      obtain ⟨ip, hip⟩ : ∃ p, x.wp = p := ⟨_, rfl⟩
      obtain ⟨n, hn⟩ : ∃ n, x.wts.length = n := ⟨_, rfl⟩
      have HL := Lib.hid hn; have HIP := Lib.hid hip
      have nB : (n : Int) ≤ 9223372036854775807 := by have := HN.out.2; omega
      clear hip hn
      go_loopw [4] (fun t wr => ∃ j : Nat, j ≤ n ∧ t = .int .i64 (j : Int) ∧ SB w wr x ∧ ∀ y, y ∈ x.wts.take j → y.x.p.length ≤ 1000) (fun t _ => n - (intOf t).toNat)
      case atStart => exact ⟨0, by omega, rfl, S0.out, fun y hy => by simp at hy⟩
      case round =>
        clear S0
        obtain ⟨j, hj, rfl, s0, hb⟩ := hrel
        have S0 := Lib.hid s0; have HB := Lib.hid hb
        clear s0 hb
        have c1 := (sv_cells S0.out.a).2.2.1
        rw [HIP.out, HL.out] at c1
        by_cases hlt : j < n
        · obtain ⟨y, hy⟩ : ∃ y, x.wts[j]? = some y := ⟨_, List.getElem?_eq_getElem (by rw [HL.out]; exact hlt)⟩
          obtain ⟨b, o, hpe, hbl, rg⟩ := S0.out.rx.wts j y hy
          obtain rfl : ip = some ⟨b, o, none⟩ := HIP.out.symm.trans hpe
          have y0 : wr.cell? ⟨b, o + j * 4 + 3, none⟩ = some (.slice y.p y.x.p.length y.c) := rg 3 _ rfl
          have j1 : (j : Int) < (n : Int) := by omega
          have TY := Lib.hid (S0.out.rx.wt y (List.mem_of_getElem? hy))
          have RZ := Lib.hid (show RvW wr (⟨⟨0, 0, 0, 0, y.x.p.length, gl y.x.p, 0, zFw⟩, y.p, y.c, none, 0⟩ : Rv) from ⟨TY.out.t, fun j hj => absurd hj (Nat.not_lt_zero j), TY.out.n, Nat.zero_le _⟩)
          have LZ := Lib.hid (show fewR (⟨⟨0, 0, 0, 0, y.x.p.length, gl y.x.p, 0, zFw⟩, y.p, y.c, none, 0⟩ : Rv) = true → y.x.p.length ≤ 1000 from fun h => by have := few_smallA h; exact this.1)
          have FW := Lib.hid (fewR_t (⟨⟨0, 0, 0, 0, y.x.p.length, gl y.x.p, 0, zFw⟩, y.p, y.c, none, 0⟩ : Rv) wr RZ.out)
          have BT := built_few3 y.p y.x.p.length y.c zFw (gl y.x.p)
          obtain ⟨bb, hbb⟩ : ∃ b, fewR (⟨⟨0, 0, 0, 0, y.x.p.length, gl y.x.p, 0, zFw⟩, y.p, y.c, none, 0⟩ : Rv) = b := ⟨_, rfl⟩
          rw [hbb] at FW LZ
          have TK := Lib.hid (take_snoc hy)
          clear hbb hy rg hbl hpe
          go_wp2_with fail
          refine FW.out.mono ?_
          rintro e w2 ⟨rfl, b2⟩
          have S2 := Lib.hid (S0.out.below b2)
          clear b2 FW S0 c1 y0 BT
          cases bb with
          | false =>
            go_wp2_with fail
            go_ret
            exact ⟨false, rfl, (fun h => by cases h), S2.out.bel⟩
          | true =>
            have HB2 := Lib.hid (show ∀ v, v ∈ x.wts.take (j + 1) → v.x.p.length ≤ 1000 from fun v hv => by
              rw [TK.out] at hv
              rcases List.mem_append.1 hv with h | h
              · exact HB.out v h
              · rw [List.mem_singleton.1 h]; exact LZ.out rfl)
            go_wp2_with fail
            go_roundw
            case rel => exact ⟨j + 1, hlt, by go_num, S2.out, HB2.out⟩
            case measure => simp [intOf]; omega
        · obtain rfl : j = n := by omega
          have A_wts := Lib.hid (show ∀ y ∈ x.wts, y.x.p.length ≤ 1000 from fun y hy => HB.out y (by rw [← HL.out, List.take_length]; exact hy))
          clear hlt
          go_upto_region 14 with (fail)
          clear c1 HB HL HIP nB hj
          go_loopw [5] (fun t wr => ∃ j : Nat, j ≤ 4 ∧ t = .int .i64 (j : Int) ∧ SB w wr x ∧ ∀ y, y ∈ x.last.take j → y.r.t.length ≤ 1000) (fun t _ => 4 - (intOf t).toNat)
          case atStart => exact ⟨0, by omega, rfl, S0.out, fun y hy => by simp at hy⟩
          case round =>
            clear S0
            obtain ⟨j, hj, rfl, s0, hb⟩ := hrel
            have S0 := Lib.hid s0; have HB := Lib.hid hb
            clear s0 hb
            by_cases hlt : j < 4
            · obtain ⟨y, hy⟩ : ∃ y, x.last[j]? = some y := ⟨_, List.getElem?_eq_getElem (by rw [S0.out.rx.l4]; exact hlt)⟩
              obtain ⟨A1, C1, h1, k1⟩ := sv_cut hy
              have RG := part_rng (W := wr) (g := w.heap.size) (T := 31) (A := A1) (B := pv y) (C := C1) (by rw [← h1]; exact S0.out.a) k1
              have y0 : wr.cell? ⟨w.heap.size, 5 + j * 5 + 3, none⟩ = some (.slice y.p y.r.t.length y.c) := RG 3 _ rfl
              have j0 : (0 : Int) ≤ (j : Int) := by omega
              have j1 : (j : Int) < 4 := by omega
              have TY := Lib.hid (S0.out.rx.la y (List.mem_of_getElem? hy))
              have RZ := Lib.hid (show RvW wr (⟨⟨0, 0, 0, 0, 0, zFw, y.r.t.length, gl y.r.t⟩, none, 0, y.p, y.c⟩ : Rv) from ⟨fun j hj => absurd hj (Nat.not_lt_zero j), TY.out.t, Nat.zero_le _, TY.out.n⟩)
              have LZ := Lib.hid (show fewR (⟨⟨0, 0, 0, 0, 0, zFw, y.r.t.length, gl y.r.t⟩, none, 0, y.p, y.c⟩ : Rv) = true → y.r.t.length ≤ 1000 from fun h => by have := few_smallA h; exact this.2)
              have FW := Lib.hid (fewR_t (⟨⟨0, 0, 0, 0, 0, zFw, y.r.t.length, gl y.r.t⟩, none, 0, y.p, y.c⟩ : Rv) wr RZ.out)
              have BT := built_few4 y.p y.r.t.length y.c zFw (gl y.r.t)
              obtain ⟨bb, hbb⟩ : ∃ b, fewR (⟨⟨0, 0, 0, 0, 0, zFw, y.r.t.length, gl y.r.t⟩, none, 0, y.p, y.c⟩ : Rv) = b := ⟨_, rfl⟩
              rw [hbb] at FW LZ
              have TK := Lib.hid (take_snoc hy)
              clear hbb hy h1 k1 RG
              go_wp2_with fail
              refine FW.out.mono ?_
              rintro e w2 ⟨rfl, b2⟩
              have S2 := Lib.hid (S0.out.below b2)
              clear b2 FW S0 y0 BT
              cases bb with
              | false =>
                go_wp2_with fail
                go_ret
                exact ⟨false, rfl, (fun h => by cases h), S2.out.bel⟩
              | true =>
                have HB2 := Lib.hid (show ∀ v, v ∈ x.last.take (j + 1) → v.r.t.length ≤ 1000 from fun v hv => by
                  rw [TK.out] at hv
                  rcases List.mem_append.1 hv with h | h
                  · exact HB.out v h
                  · rw [List.mem_singleton.1 h]; exact LZ.out rfl)
                go_wp2_with fail
                go_roundw
                case rel => exact ⟨j + 1, hlt, by go_num, S2.out, HB2.out⟩
                case measure => simp [intOf]; omega
            · obtain rfl : j = 4 := by omega
              have A_l := Lib.hid (show ∀ y ∈ x.last, y.r.t.length ≤ 1000 from fun y hy => HB.out y (by rw [← S0.out.rx.l4, List.take_length]; exact hy))
              have SML := Lib.hid (show Small x.sp from by
                refine ⟨by rw [show x.sp.its.length = x.its.length from List.length_map _]; have := H1.out; omega, fun y hy => ?_, by rw [show x.sp.wts.length = x.wts.length from List.length_map _]; have := H2.out; omega, fun y hy => ?_, fun y hy => ?_⟩
                · obtain ⟨v, hv, rfl⟩ := List.mem_map.1 hy; exact A_its.out v hv
                · obtain ⟨v, hv, rfl⟩ := List.mem_map.1 hy; exact A_wts.out v hv
                · obtain ⟨v, hv, rfl⟩ := List.mem_map.1 hy; exact A_l.out v hv)
              clear hlt
              go_wp2_with fail
              go_ret
              exact ⟨true, rfl, (fun _ => SML.out), S0.out.bel⟩
end Go.Proofs.YtojianpbjckipaaDoor
