import Derived.Test.YthcebaegijlbdaaDoorSched
import Derived.Deep.QuietTactic
import Derived.BigQuiet
namespace Go.Proofs.YthcebaegijlbdaaDoor
open Go.RowKit Sh

set_option maxRecDepth 100000 in
set_option maxHeartbeats 600000 in
theorem mixed_t (s : S8) (hs : s.ok) (l : List Nat) (bb ob : Nat) (w : World) (hl : l.length = 64) (hb : Bytes l) (hc : BytesAt w bb ob l) (hbb : bb < w.heap.size) (hk : KAt w) :
    Calls Tryd.prog 73 #[.agg (u32s s.list).toArray, .pointer (some ⟨bb, ob, none⟩)] w fun e w' => e = .returned (.agg (u32s (Sh.cmp s (Sh.sched l 0)).list).toArray) ∧ Below w.heap.size w w' := by
  have HL := Lib.hid hl; have HB := Lib.hid hb; have HC := Lib.hid hc; have HK := Lib.hid hk; have HS := Lib.hid hs
  have hws : ∀ i, gt (sched l 0) i < 4294967296 := sch_words l hb 48
  have hwl : (u32s (sched l 0)).length = 64 := by rw [u32s_length, sched, sch_length, first_length]
  have HW := Lib.hid hws; have HWL := Lib.hid hwl
  clear hl hb hc hk hs hws hwl
  rw [show (u32s s.list).toArray = #[.int .u32 (s.a : Int), .int .u32 (s.b : Int), .int .u32 (s.c : Int), .int .u32 (s.d : Int), .int .u32 (s.e : Int), .int .u32 (s.f : Int), .int .u32 (s.g : Int), .int .u32 (s.h : Int)] from rfl]
  go_enter Tryd.func73, Tryd.ntmps73
  go_wp2_with fail
  go_quiet (fail)
  have h1 := ((Blk.new w 125 (u32s s.list)).alloc (.cells (u32s [0,0,0,0,0,0,0,0]).toArray 125)).drewN nq
  have h2 := (Blk.new2 w (.cells (u32s s.list).toArray 125) 125 (u32s [0,0,0,0,0,0,0,0])).drewN nq
  have h3 : Below w.heap.size w (((w.alloc (.cells (u32s s.list).toArray 125)).alloc (.cells (u32s [0,0,0,0,0,0,0,0]).toArray 125)).drewN nq) := ⟨rfl, rfl, rfl, by simp [World.drewN]; omega, fun k hk => (((Below.refl _ w).alloc (Nat.le_refl _) _).alloc (by simp) _).block k hk⟩
  have h4 : (((w.alloc (.cells (u32s s.list).toArray 125)).alloc (.cells (u32s [0,0,0,0,0,0,0,0]).toArray 125)).drewN nq).heap.size = w.heap.size + 2 := by simp [World.drewN]
  change Exit.then _ _ _ _ (((w.alloc (.cells (u32s s.list).toArray 125)).alloc (.cells (u32s [0,0,0,0,0,0,0,0]).toArray 125)).drewN nq)
  generalize (((w.alloc (.cells (u32s s.list).toArray 125)).alloc (.cells (u32s [0,0,0,0,0,0,0,0]).toArray 125)).drewN nq) = W1 at *
  have H1 := Lib.hid h1; have H2 := Lib.hid h2; have H3 := Lib.hid h3; have H4 := Lib.hid h4
  clear h1 h2 h3 h4
  go_wp2_with fail
  refine (schedule_t l bb ob W1 HL.out HB.out (HC.out.below H3.out hbb) (by have := H4.out; omega)).mono ?_
  rintro e w1 ⟨rfl, hb1⟩
  have h1 := H1.out.below hb1 H1.out.lt
  have h2 := H2.out.below hb1 H2.out.lt
  have h3 : Below w.heap.size w w1 := H3.out.trans (hb1.mono (by have := H4.out; omega))
  have h4 : w.heap.size + 2 ≤ w1.heap.size := by have := hb1.size; have := H4.out; omega
  clear H1 H2 H3 H4 hb1
  have H1 := Lib.hid h1; have H2 := Lib.hid h2; have H3 := Lib.hid h3; have H4 := Lib.hid h4
  clear h1 h2 h3 h4
  have z : (u32s (List.replicate 64 0)).length = (u32s (sched l 0)).length := by rw [HWL.out]; rfl
  have Z := Lib.hid z
  clear z
  go_wp2_with ((with_reducible refine store_blk 141 (.tmp 13) (.tmp 34) w1.heap.size 141 (u32s (List.replicate 64 0)) (u32s (Sh.sched l 0)) rfl rfl ?_ ?_ ?_ ?_ ?_ ?_ ?_); exact Blk.new w1 141 _; exact Z.out; (rw [HWL.out]; kernel_rfl); exact u32s_one _; exact rfl; exact rfl)
  go_loopw [35, 5, 6, 7, 8, 9, 10, 11, 12] (fun i a b c d e f g h wr => ∃ k : Nat, k ≤ 64 ∧ i = .int .i64 k ∧ a = .int .u32 ((Sh.rounds s (Sh.sched l 0) k).a : Nat) ∧ b = .int .u32 ((Sh.rounds s (Sh.sched l 0) k).b : Nat) ∧ c = .int .u32 ((Sh.rounds s (Sh.sched l 0) k).c : Nat) ∧ d = .int .u32 ((Sh.rounds s (Sh.sched l 0) k).d : Nat) ∧ e = .int .u32 ((Sh.rounds s (Sh.sched l 0) k).e : Nat) ∧ f = .int .u32 ((Sh.rounds s (Sh.sched l 0) k).f : Nat) ∧ g = .int .u32 ((Sh.rounds s (Sh.sched l 0) k).g : Nat) ∧ h = .int .u32 ((Sh.rounds s (Sh.sched l 0) k).h : Nat) ∧
      Blk wr w.heap.size 125 (u32s s.list) ∧ Blk wr (w.heap.size + 1) 125 (u32s [0,0,0,0,0,0,0,0]) ∧ Blk wr w1.heap.size 141 (u32s (Sh.sched l 0)) ∧ Below w.heap.size w wr) (fun i _ _ _ _ _ _ _ _ _ => 64 - (intOf i).toNat)
  case atStart =>
    exact ⟨0, by omega, rfl, rfl, rfl, rfl, rfl, rfl, rfl, rfl, rfl, (H1.out.alloc _).setRow_far (by have := H4.out; omega) _, (H2.out.alloc _).setRow_far (by have := H4.out; omega) _, (Blk.new w1 141 _).setRow _, below_setRow (H3.out.alloc (by have := H4.out; omega) _) (by have := H4.out; omega) _⟩
  case round =>
    obtain ⟨k, hk, rfl, rfl, rfl, rfl, rfl, rfl, rfl, rfl, rfl, h1, h2, h3, h4⟩ := hrel
    have ok := rounds_ok HS.out (sched l 0) k
    by_cases hlt : k < 64
    · have hK := HK.out.below h4 HK.out.lt
      have c1 := hK.cell k hlt
      have c2 : wr.cell? ⟨w1.heap.size, k, none⟩ = some (.int .u32 ((gt (sched l 0) k : Nat) : Int)) := by
        rw [h3.cell, u32s_get _ _ (by rw [← u32s_length, HWL.out]; exact hlt)]
      have i0 : (k : Int) < 64 := by omega
      have hr : rounds s (sched l 0) (k + 1) = rnd (rounds s (sched l 0) k) (gt ks k) (gt (sched l 0) k) := rfl
      have HR := Lib.hid hr
      generalize hrs : rounds s (sched l 0) k = r at *
      clear hrs
      obtain ⟨a, b, c, d, e, f, g, h⟩ := r
      obtain ⟨oa, ob_, oc, od, oe, of_, og, oh⟩ := ok
      have H1 := Lib.hid h1; have H2 := Lib.hid h2; have H3 := Lib.hid h3; have H4' := Lib.hid h4
      clear h1 h2 h3 h4 hK hr
      simp only [] at oa ob_ oc od oe of_ og oh
      go_wp2_with fail
      go_quiet ((go_at_call 87; exact Calls.quiet_of_same (flip (bigSigma1_t _ _ oe))))
      have e0 : (if IntKind.u32.signed = true then (-1 : Int) else IntKind.u32.max) = 4294967295 := by kernel_rfl
      simp only [e0, Int.emod_add_emod, ch_int e f g oe of_ og, add5_int]
      clear e0
      have ht : t1 ⟨a, b, c, d, e, f, g, h⟩ (gt ks k) (gt (sched l 0) k) = add (add (add (add h (bS1 e)) (ch e f g)) (gt ks k)) (gt (sched l 0) k) := rfl
      rw [← ht]
      have HT := Lib.hid ht
      clear ht
      generalize hT : t1 ⟨a, b, c, d, e, f, g, h⟩ (gt ks k) (gt (sched l 0) k) = T
      have HTT := Lib.hid hT
      clear hT
      go_wp2_with (go_at_call 88; refine (bigSigma0_t _ _ oa).mono ?_; rintro e' w' ⟨rfl, rfl⟩)
      go_roundw
      case rel =>
        refine ⟨k + 1, by omega, by go_num, ?_, ?_, ?_, ?_, ?_, ?_, ?_, ?_, H1.out.drewN _, H2.out.drewN _, H3.out.drewN _, H4'.out.trans ⟨rfl, rfl, rfl, Nat.le_refl _, fun _ _ => rfl⟩⟩
        all_goals rw [HR.out]
        · rw [mj_int a b c oa ob_ oc, add_int, add_int, ← HTT.out]; rfl
        · rfl
        · rfl
        · rfl
        · rw [add_int, ← HTT.out]; rfl
        · rfl
        · rfl
        · rfl
      case measure => simp [intOf]; omega
    · obtain rfl : k = 64 := by omega
      have HR : Hid (cmp s (sched l 0) = s.plus (rounds s (sched l 0) 64)) := rfl
      clear hk hlt
      generalize hrs : rounds s (sched l 0) 64 = r at *
      clear hrs
      obtain ⟨a, b, c, d, e, f, g, h⟩ := r
      have c0 := h1.cell 0
      have c1 := h1.cell 1
      have c2 := h1.cell 2
      have c3 := h1.cell 3
      have c4 := h1.cell 4
      have c5 := h1.cell 5
      have c6 := h1.cell 6
      have c7 := h1.cell 7
      simp only [u32s, S8.list, List.map_cons, List.map_nil, List.getElem?_cons_zero, List.getElem?_cons_succ] at c0 c1 c2 c3 c4 c5 c6 c7
      have H2 := Lib.hid h2; have H4' := Lib.hid h4
      clear h1 h2 h3 h4 ok
      have hL : [Value.int .u32 (((s.a : Int) + (a : Int)) % 4294967296), Value.int .u32 (((s.b : Int) + (b : Int)) % 4294967296), Value.int .u32 (((s.c : Int) + (c : Int)) % 4294967296), Value.int .u32 (((s.d : Int) + (d : Int)) % 4294967296), Value.int .u32 (((s.e : Int) + (e : Int)) % 4294967296), Value.int .u32 (((s.f : Int) + (f : Int)) % 4294967296), Value.int .u32 (((s.g : Int) + (g : Int)) % 4294967296), Value.int .u32 (((s.h : Int) + (h : Int)) % 4294967296)] = u32s (s.plus ⟨a, b, c, d, e, f, g, h⟩).list := by
        simp only [add_int]; rfl
      have HLL := Lib.hid hL
      clear hL
      have z1 : (Tryd.prog.info? 125).map (·.size) = some (u32s (s.plus ⟨a, b, c, d, e, f, g, h⟩).list).length := (show (Tryd.prog.info? 125).map (·.size) = some 8 by kernel_rfl)
      have Z1 := Lib.hid z1
      clear z1
      go_wp2_with ((with_reducible refine store_blk 125 (.tmp 4) (.tmp 118) (w.heap.size + 1) 125 (u32s [0,0,0,0,0,0,0,0]) (u32s (s.plus ⟨a, b, c, d, e, f, g, h⟩).list) rfl rfl ?_ ?_ ?_ ?_ ?_ ?_ ?_); exact H2.out; exact rfl; exact Z1.out; exact u32s_one _; exact rfl; exact congrArg (fun l => Value.agg (List.toArray l)) HLL.out)
      exact ret_blk (p := 4) (ty := 125) rfl rfl (w.heap.size + 1) 125 _ _ rfl (H2.out.setRow _) Tryd.underlying125 rfl Z1.out ⟨by rw [HR.out], below_setRow H4'.out (by omega) _⟩
end Go.Proofs.YthcebaegijlbdaaDoor
