/-
  THE REFERENCE OF CHAPTERS 2, 6, 7, what a space's bytes want of it: PutFields, GetFields, the reading R, number, some.
  THE REFERENCE OF CHAPTER 9: a byte of a yes or no, written and read.
  THE REFERENCE OF CHAPTER 9, what is pure: what it reads is what the program reads, or it is dead and the program's space is none.
  THE REFERENCE OF CHAPTER 9: where GetSpace stands.
  THE REFERENCE OF CHAPTER 9: GetSpace.
  THE REFERENCE OF CHAPTER 9: PutSpace.
  THE REFERENCE OF CHAPTER 9: OfBytes.
  StateAsks walked.
-/
import Derived.Test.YtphgognhjdbdjaaGreatDoorStFq
import Derived.Test.YtphgognhjdbdjaaGreatDoorRefPq
import Derived.Deep.DeepCutAuto
import Derived.Test.YtphgognhjdbdjaaGreatDoorStJq
import Derived.Test.YtphgognhjdbdjaaGreatDoorSpVq
import Derived.Test.YtphgognhjdbdjaaGreatDoorStDq
import Derived.Test.YtphgognhjdbdjaaGreatDoorRefSq
import Derived.Test.YtphgognhjdbdjaaGreatDoorStTq
import Derived.Test.YtphgognhjdbdjaaGreatDoorSrZq
namespace Go.Proofs.YtphgognhjdbdjaaGreatDoor
open Go Go.RowKit Sh

theorem Rw.kind {W : World} {p : Option Addr} {n : Nat} {G : Nat → Fld} (h : Rw W p n G) {b o j : Nat} (hp : p = some ⟨b, o, none⟩) (hj : j < n) : W.cell? ⟨b, o + j * 3, none⟩ = some (.int .i64 (G j).k) := by
  obtain ⟨b', o', e, _, r⟩ := h j hj
  rw [hp] at e
  injection e with e
  injection e with e1 e2
  subst e1 e2
  exact r 0 _ rfl


theorem rowC_get (G : Nat → Fld) : ∀ n j i, j < n → i < 3 → (rowC G n)[j * 3 + i]? = (fv (G j))[i]?
  | 0, j, _, hj, _ => absurd hj (by omega)
  | n + 1, j, i, hj, hi => by
    rw [rowC]
    rcases Nat.lt_or_ge j n with hlt | hge
    · rw [List.getElem?_append_left (by rw [rowC_length]; omega), rowC_get G n j i hlt hi]
    · obtain rfl : j = n := by omega
      rw [List.getElem?_append_right (by rw [rowC_length]; omega), rowC_length, Nat.add_sub_cancel_left]
theorem rowC_one (G : Nat → Fld) : ∀ n, ∀ v ∈ rowC G n, v.oneCell' = true
  | 0 => fun v hv => absurd hv List.not_mem_nil
  | n + 1 => fun v hv => by
    rcases List.mem_append.1 hv with h | h
    · exact rowC_one G n v h
    · simp only [fv, List.mem_cons, List.not_mem_nil, or_false] at h
      rcases h with rfl | rfl | rfl <;> rfl
/-- A row that is the call's own reads as one. -/
theorem rw_of_own {W : World} {base n c : Nat} {A : Option Addr} {G : Nat → Fld} (h : W.ownsRow base 172 3 (.slice A n c) n (rowC G n)) : Rw W A n G := fun j hj => by
  rcases h.2 with ⟨_, h0⟩ | ⟨g, cap, cur, e, _, hh, _⟩
  · omega
  · have hA : A = some ⟨g, 0, none⟩ := by injection e
    subst hA
    refine ⟨g, 0, rfl, (Array.getElem?_eq_some_iff.1 hh).1, fun i v hv => ?_⟩
    have hi : i < 3 := (List.getElem?_eq_some_iff.1 hv).1
    rw [show 0 + j * 3 + i = j * 3 + i by omega, h.cellAt (j * 3 + i) (by omega), rowC_get G n j i hj hi]
    exact hv
/-- The row of fields at an address, cell by cell. -/
theorem Rw.flat {W : World} {p : Option Addr} {n : Nat} {G : Nat → Fld} (h : Rw W p n G) (hn : 0 < n) : ∃ a : Addr, p = some a ∧ a.spot = none ∧ ∀ j u, (rowC G n)[j]? = some u → W.cell? (a.add j) = some u := by
  obtain ⟨b, o, rfl, _, _⟩ := h 0 hn
  refine ⟨⟨b, o, none⟩, rfl, rfl, fun j u hu => ?_⟩
  have hj : j < n * 3 := by have := (List.getElem?_eq_some_iff.1 hu).1; rwa [rowC_length] at this
  obtain ⟨b', o', e, _, r⟩ := h (j / 3) (by omega)
  injection e with e
  injection e with e1 e2
  subst e1 e2
  rw [show j = j / 3 * 3 + j % 3 by omega, rowC_get G n (j / 3) (j % 3) (by omega) (by omega)] at hu
  have := r (j % 3) u hu
  rw [show o + j / 3 * 3 + j % 3 = o + j by omega] at this
  rw [show (⟨b, o, none⟩ : Addr).add j = ⟨b, o + j, none⟩ by unfold Addr.add; split <;> simp_all]
  exact this
section
variable {ops : Array Oper} {rest : List Oper} {o : Oper} {a : Act} {Q : Exit → Act → World → Prop} {w : World}
theorem run_append_flds (ty : TypeId) (base : Nat) (v : Value) (n : Nat) (xs : List Value) (hown : w.ownsRow base 172 3 v n xs) (p : Option Addr) (m c : Nat) (H : Nat → Fld) (hm : 0 < m) (hp : Rw w p m H) (h63 : n + m ≤ 1000000) (hbase : base ≤ w.heap.size) :
    ∃ v' w', (Builtin.append_ #[24, 24] ty #[v, .slice p m c]).run Tryz.prog w = .ok v' w' ∧ w'.ownsRow base 172 3 v' (n + m) (xs ++ rowC H m) ∧ w.grownBy w' v.ownBlock ∧ (v'.ownBlock = v.ownBlock ∨ v'.ownBlock = some w.heap.size) := by
  have hinfo : (Tryz.prog.info? 172).map (fun i => (i.zero, i.size, i.bytes)) = some (some (.agg zC), 3, 32) := by kernel_rfl
  obtain ⟨i, hi, hzz⟩ := Option.map_eq_some_iff.1 hinfo
  simp only [Prod.mk.injEq] at hzz
  obtain ⟨hz, hs, hb⟩ := hzz
  obtain ⟨ad, rfl, _, hc⟩ := hp.flat hm
  obtain ⟨v', w', hr, h2, h3, _, h5⟩ := run_append_own_at (P := Tryz.prog) w base 24 ty 172 i (.agg zC) 3 32 Tryz.underlying24 hi hz hs hb rfl (by omega) v n xs hown ad m c (rowC H m) (by rw [rowC_length]) hc (rowC_one H m) (by simp only [maxLen]; omega) (by omega) hbase
  exact ⟨v', w', hr, h2, h3, h5⟩
theorem append_flds (s x : Operand) (hgd : o.guard = none) (ho : o.op = .call { callee := .builtin .append, args := #[s, x], argTypes := #[24, 24] })
    (base : Nat) (v : Value) (n : Nat) (xs : List Value) (hs : a.eval s = v) (hown : w.ownsRow base 172 3 v n xs) (p : Option Addr) (m c : Nat) (hx : a.eval x = .slice p m c) (H : Nat → Fld) (hm : 0 < m) (hp : Rw w p m H) (h63 : n + m ≤ 1000000) (hbase : base ≤ w.heap.size)
    (h : ∀ v' w', Hid (w'.ownsRow base 172 3 v' (n + m) (xs ++ rowC H m)) → Hid (w.grownBy w' v.ownBlock) → Hid (v'.ownBlock = v.ownBlock ∨ v'.ownBlock = some w.heap.size) → wpList Tryz.prog ops Q rest (a.put o.dst v') w') : wpList Tryz.prog ops Q (o :: rest) a w := by
  refine wpList_plain hgd fun K hK => ?_
  obtain ⟨v', w', hr, h2, h3, h5⟩ := run_append_flds (w := w) o.type base v n xs hown p m c H hm hp h63 hbase
  unfold Oper.wp execOp
  simp only [ho, resolve, invoke, builtin, Sem.run_bind, Sem.run_pure, Result.andThen_ok, List.map_toArray, List.map_cons, List.map_nil, hs, hx, hr]
  exact hK _ _ (h v' w' (Lib.hid h2) (Lib.hid h3) (Lib.hid h5))
end


theorem beN_k1 (k : Nat) (h : k < 256) : beN k 1 = [k] := by
  simp [beN]
  omega
/-- The row so far. -/
structure PC (w0 W : World) (v : Value) (xs : List Nat) : Prop where
  own : W.ownsRow w0.heap.size 5 1 v xs.length (u8s xs)
  bel : Below w0.heap.size w0 W
theorem PC.below {w0 W W' : World} {v : Value} {xs : List Nat} (h : PC w0 W v xs) (hb : Below W.heap.size W W') : PC w0 W' v xs := ⟨own_below h.own hb, h.bel.trans (hb.mono h.bel.size)⟩
theorem PC.grow {w0 W W' : World} {v v' : Value} {xs ys : List Nat} {m : Nat} (h : PC w0 W v xs) (a1 : W'.ownsRow w0.heap.size 5 1 v' (xs.length + m) (u8s (xs ++ ys))) (hm : ys.length = m) (a2 : W.grownBy W' v.ownBlock) : PC w0 W' v' (xs ++ ys) :=
  ⟨by rw [List.length_append, hm]; exact a1, h.bel.grown a2 h.bel.size (fun k e => (h.own.lt k e).1)⟩
set_option maxRecDepth 100000 in
set_option maxHeartbeats 1000000 in
theorem refput_t (n c : Nat) (p : Option Addr) (G : Nat → Fld) (w : World) (hr : Rw w p n G) (h : mayP n G = true) :
    Calls Tryz.prog 72 #[.slice p n c] w fun e w' => ∃ u, e = .returned u ∧ w'.ownsRow w.heap.size 5 1 u (putN n G).length (u8s (putN n G)) ∧ Below w.heap.size w w' := by
  obtain ⟨h1, h6, hk⟩ := mayP_iff h
  have HR := Lib.hid hr; have HK := Lib.hid hk
  have i0 : (n : Int) ≠ 0 := by omega
  have iw : IntKind.u64.wrap (n : Int) = (n : Int) := IntWalk.u64_in _ (by omega)
  have e0 : ((n : Int) == 0) = false := by rw [beq_eq_false_iff_ne]; exact i0
  clear hr hk h
  go_enter Tryz.func72, Tryz.ntmps72
  go_wp2_with fail
  refine (refnum_t n 1 _ (by decide) (by decide)).mono ?_
  rintro e w1 ⟨u, rfl, o1, b1⟩
  have P1 := Lib.hid (show PC w w1 u (beN n 1 ++ catF G 0) from ⟨by rw [catF, List.append_nil]; exact o1, b1⟩)
  clear o1 b1 i0 iw e0
  go_upto_region 5 with (fail)
  go_loopw [3, 4] (fun v x wr => ∃ (j : Nat) (ys : List Nat), j ≤ n ∧ x = .int .i64 (j : Int) ∧ ys = beN n 1 ++ catF G j ∧ PC w wr v ys) (fun _ x _ => n - (intOf x).toNat)
  case atStart => exact ⟨0, _, by omega, rfl, rfl, P1.out⟩
  case round =>
    clear P1
    obtain ⟨j, xs, hj, rfl, hxs, pc⟩ := hrel
    have PJ0 := Lib.hid pc
    by_cases hlt : j < n
    · obtain ⟨b, o, hp, rg⟩ := (HR.out.below pc.bel).read hlt
      subst hp
      have j1 : (j : Int) < (n : Int) := by omega
      have LX := Lib.hid (show xs.length ≤ 1000 by
        have := catF_length G j (fun i hi => HK.out i (by omega))
        rw [hxs, List.length_append, beN_length]; omega)
      have OK := Lib.hid (okP_kinds (G j) (HK.out j hlt))
      have OK2 := Lib.hid (HK.out j hlt)
      clear rg pc
      have AL := (Below.refl wr.heap.size wr)
      obtain ⟨f, hf⟩ : ∃ f, G j = f := ⟨_, rfl⟩
      rw [hf] at OK OK2
      obtain ⟨k, m, s⟩ := f
      have hk0 : (G j).k = k := by rw [hf]
      have HF := Lib.hid hf
      have c0 : wr.cell? ⟨b, o + j * 3, none⟩ = some (.int .i64 k) := by
        have h := (HR.out.below PJ0.out.bel).kind rfl hlt
        rwa [hk0] at h
      have HXS := Lib.hid hxs
      clear AL hf hxs
      have hk5 : k = 1 ∨ k = 2 ∨ k = 3 ∨ k = 4 ∨ k = 5 := OK.out.1
      rcases hk5 with rfl | rfl | rfl | rfl | rfl
      · have PA := Lib.hid (PJ0.out.below ((Below.refl wr.heap.size wr).alloc (Nat.le_refl _) (.cells #[.int .u8 1] 5)))
        have SM := Lib.hid (Sr.one 1 1 rfl wr 5 (0, 0))
        obtain ⟨v, hv, hv2⟩ : ∃ v : Nat, IntKind.u64.wrap m = (v : Int) ∧ v < 18446744073709551616 := ⟨(IntKind.u64.wrap m).toNat, by simp [IntKind.wrap, IntKind.bits, IntKind.signed]; omega, by simp [IntKind.wrap, IntKind.bits, IntKind.signed]; omega⟩
        go_upto_region 8 with (with_reducible refine at_op (.call { callee := .builtin .append, args := #[.tmp 18, .tmp 25], argTypes := #[30, 30] }) rfl ?_; go_must (refine append_bytes (.tmp 18) (.tmp 25) 30 rfl rfl 5 Tryz.underlying30 byte_info w.heap.size u3 xs.length xs [1] rfl PA.out.own (some ⟨wr.heap.size, 0, none⟩) 1 1 rfl rfl SM.out (by have := LX.out; omega) PA.out.bel.size ?_); intro v1 w5 a1 a2 a3)
        have P5 := Lib.hid (PA.out.grow a1.out rfl a2.out)
        have R5 := HR.out.below P5.out.bel
        clear c0 a1 a2 a3 PA SM
        have c0 : w5.cell? ⟨b, o + j * 3, none⟩ = some (.int .i64 1) := by
          have h := R5.kind rfl hlt
          rwa [hk0] at h
        have c1 : w5.cell? ⟨b, o + j * 3 + 1, none⟩ = some (.int .i64 m) := by
          obtain ⟨b', o', e, _, r⟩ := R5 j hlt
          injection e with e
          injection e with e1 e2
          subst e1 e2
          have := r 1 (.int .i64 (G j).n) rfl
          rwa [HF.out] at this
        have HPF := Lib.hid (show putF (G j) = [1] ++ beN v 8 by rw [HF.out]; unfold putF; rw [if_pos rfl]; show beN 1 1 ++ beN (IntKind.u64.wrap m).toNat 8 = _; rw [hv, Int.toNat_natCast, beN_k1 1 (by decide)])
        clear R5
        go_wp2_with fail
        refine (refnum_t v 8 w5 (by decide) (by decide)).mono ?_
        rintro e w6 ⟨u2, rfl, o6, b6⟩
        obtain ⟨A6, c6, rfl, _⟩ := own_form o6
        rw [beN_length] at o6 ⊢
        have P6 := Lib.hid (P5.out.below b6); have S6 := Lib.hid (Sr.of_own o6)
        clear o6 b6 P5 c0 c1
        go_wp2_with (with_reducible refine at_op (.call { callee := .builtin .append, args := #[.tmp 34, .tmp 41], argTypes := #[30, 30] }) rfl ?_; go_must (refine append_bytes (.tmp 34) (.tmp 41) 30 rfl rfl 5 Tryz.underlying30 byte_info w.heap.size v1 (xs ++ [1]).length (xs ++ [1]) (beN v 8) rfl P6.out.own A6 8 c6 rfl (beN_length v 8) S6.out (by have := LX.out; rw [List.length_append]; simp; omega) P6.out.bel.size ?_); intro v2 w7 a1 a2 a3)
        have P7 := P6.out.grow a1.out (beN_length v 8) a2.out
        rw [List.append_assoc, ← HPF.out] at P7
        rw [HXS.out] at P7
        exact ⟨⟨j + 1, _, hlt, by go_num, rfl, by rw [catF, ← List.append_assoc]; exact P7⟩, by simp [intOf]; omega⟩
      · have PA := Lib.hid (PJ0.out.below ((Below.refl wr.heap.size wr).alloc (Nat.le_refl _) (.cells #[.int .u8 2] 5)))
        have SM := Lib.hid (Sr.one 2 2 rfl wr 5 (0, 0))
        have hs40 : s.size ≤ 40 := OK.out.2 rfl
        go_upto_region 8 with (with_reducible refine at_op (.call { callee := .builtin .append, args := #[.tmp 18, .tmp 25], argTypes := #[30, 30] }) rfl ?_; go_must (refine append_bytes (.tmp 18) (.tmp 25) 30 rfl rfl 5 Tryz.underlying30 byte_info w.heap.size u3 xs.length xs [2] rfl PA.out.own (some ⟨wr.heap.size, 0, none⟩) 1 1 rfl rfl SM.out (by have := LX.out; omega) PA.out.bel.size ?_); intro v1 w5 a1 a2 a3)
        have P5 := Lib.hid (PA.out.grow a1.out rfl a2.out)
        have R5 := HR.out.below P5.out.bel
        clear c0 a1 a2 a3 PA SM
        have c0 : w5.cell? ⟨b, o + j * 3, none⟩ = some (.int .i64 2) := by
          have h := R5.kind rfl hlt
          rwa [hk0] at h
        have c2 : w5.cell? ⟨b, o + j * 3 + 2, none⟩ = some (.string s) := by
          obtain ⟨b', o', e, _, r⟩ := R5 j hlt
          injection e with e
          injection e with e1 e2
          subst e1 e2
          have := r 2 (.string (G j).s) rfl
          rwa [HF.out] at this
        have HPF := Lib.hid (show putF (G j) = [2] ++ txtN (bs s) by rw [HF.out]; unfold putF; rw [if_neg (show ¬ ((2 : Int) = 1) by decide), if_pos rfl]; show beN 2 1 ++ txtN (bs s) = _; rw [beN_k1 2 (by decide)])
        obtain ⟨w6, cc, hc, _, hsr, hb3⟩ := conv_txt s w5
        have SR := Lib.hid hsr; have P6 := Lib.hid (P5.out.below hb3)
        clear R5 hsr hb3
        go_wp2_with fail
        refine (reftext_t (bs s) (some ⟨w5.heap.size, 0, none⟩) s.size cc w6 (bs_length s) SR.out (by omega)).mono ?_
        rintro e w7 ⟨u2, rfl, o7, b7⟩
        obtain ⟨A7, c7, rfl, _⟩ := own_form o7
        have HTL := Lib.hid (show (txtN (bs s)).length ≤ 44 by rw [txtN, List.length_append, beN_length, bs_length]; omega)
        have P7 := Lib.hid (P6.out.below b7); have S7 := Lib.hid (Sr.of_own o7)
        clear o7 b7 P5 P6 c0 c2 hc SR
        go_wp2_with (with_reducible refine at_op (.call { callee := .builtin .append, args := #[.tmp 45, .tmp 52], argTypes := #[30, 30] }) rfl ?_; go_must (refine append_bytes (.tmp 45) (.tmp 52) 30 rfl rfl 5 Tryz.underlying30 byte_info w.heap.size v1 (xs ++ [2]).length (xs ++ [2]) (txtN (bs s)) rfl P7.out.own A7 _ c7 rfl rfl S7.out (by have := LX.out; have := HTL.out; rw [List.length_append]; simp; omega) P7.out.bel.size ?_); intro v2 w8 a1 a2 a3)
        have P8 := P7.out.grow a1.out rfl a2.out
        rw [List.append_assoc, ← HPF.out] at P8
        rw [HXS.out] at P8
        exact ⟨⟨j + 1, _, hlt, by go_num, rfl, by rw [catF, ← List.append_assoc]; exact P8⟩, by simp [intOf]; omega⟩
      · have PA := Lib.hid (PJ0.out.below ((Below.refl wr.heap.size wr).alloc (Nat.le_refl _) (.cells #[.int .u8 3] 5)))
        have SM := Lib.hid (Sr.one 3 3 rfl wr 5 (0, 0))
        go_upto_region 8 with (with_reducible refine at_op (.call { callee := .builtin .append, args := #[.tmp 18, .tmp 25], argTypes := #[30, 30] }) rfl ?_; go_must (refine append_bytes (.tmp 18) (.tmp 25) 30 rfl rfl 5 Tryz.underlying30 byte_info w.heap.size u3 xs.length xs [3] rfl PA.out.own (some ⟨wr.heap.size, 0, none⟩) 1 1 rfl rfl SM.out (by have := LX.out; omega) PA.out.bel.size ?_); intro v1 w5 a1 a2 a3)
        have P5 := Lib.hid (PA.out.grow a1.out rfl a2.out)
        have R5 := HR.out.below P5.out.bel
        clear c0 a1 a2 a3 PA SM
        have c0 : w5.cell? ⟨b, o + j * 3, none⟩ = some (.int .i64 3) := by
          have h := R5.kind rfl hlt
          rwa [hk0] at h
        have HPF := Lib.hid (show putF (G j) = [3] by rw [HF.out]; unfold putF; rw [if_neg (show ¬ ((3 : Int) = 1) by decide), if_neg (show ¬ ((3 : Int) = 2) by decide), List.append_nil]; show beN 3 1 = _; rw [beN_k1 3 (by decide)])
        clear R5
        have P7 := P5.out
        rw [← HPF.out] at P7
        rw [HXS.out] at P7
        clear P5
        go_wp2_with fail
        exact ⟨⟨j + 1, _, hlt, by go_num, rfl, by rw [catF, ← List.append_assoc]; exact P7⟩, by simp [intOf]; omega⟩
      · have PA := Lib.hid (PJ0.out.below ((Below.refl wr.heap.size wr).alloc (Nat.le_refl _) (.cells #[.int .u8 4] 5)))
        have SM := Lib.hid (Sr.one 4 4 rfl wr 5 (0, 0))
        go_upto_region 8 with (with_reducible refine at_op (.call { callee := .builtin .append, args := #[.tmp 18, .tmp 25], argTypes := #[30, 30] }) rfl ?_; go_must (refine append_bytes (.tmp 18) (.tmp 25) 30 rfl rfl 5 Tryz.underlying30 byte_info w.heap.size u3 xs.length xs [4] rfl PA.out.own (some ⟨wr.heap.size, 0, none⟩) 1 1 rfl rfl SM.out (by have := LX.out; omega) PA.out.bel.size ?_); intro v1 w5 a1 a2 a3)
        have P5 := Lib.hid (PA.out.grow a1.out rfl a2.out)
        have R5 := HR.out.below P5.out.bel
        clear c0 a1 a2 a3 PA SM
        have c0 : w5.cell? ⟨b, o + j * 3, none⟩ = some (.int .i64 4) := by
          have h := R5.kind rfl hlt
          rwa [hk0] at h
        have HPF := Lib.hid (show putF (G j) = [4] by rw [HF.out]; unfold putF; rw [if_neg (show ¬ ((4 : Int) = 1) by decide), if_neg (show ¬ ((4 : Int) = 2) by decide), List.append_nil]; show beN 4 1 = _; rw [beN_k1 4 (by decide)])
        clear R5
        have P7 := P5.out
        rw [← HPF.out] at P7
        rw [HXS.out] at P7
        clear P5
        go_wp2_with fail
        exact ⟨⟨j + 1, _, hlt, by go_num, rfl, by rw [catF, ← List.append_assoc]; exact P7⟩, by simp [intOf]; omega⟩
      · have PA := Lib.hid (PJ0.out.below ((Below.refl wr.heap.size wr).alloc (Nat.le_refl _) (.cells #[.int .u8 5] 5)))
        have SM := Lib.hid (Sr.one 5 5 rfl wr 5 (0, 0))
        go_upto_region 8 with (with_reducible refine at_op (.call { callee := .builtin .append, args := #[.tmp 18, .tmp 25], argTypes := #[30, 30] }) rfl ?_; go_must (refine append_bytes (.tmp 18) (.tmp 25) 30 rfl rfl 5 Tryz.underlying30 byte_info w.heap.size u3 xs.length xs [5] rfl PA.out.own (some ⟨wr.heap.size, 0, none⟩) 1 1 rfl rfl SM.out (by have := LX.out; omega) PA.out.bel.size ?_); intro v1 w5 a1 a2 a3)
        have P5 := Lib.hid (PA.out.grow a1.out rfl a2.out)
        have R5 := HR.out.below P5.out.bel
        clear c0 a1 a2 a3 PA SM
        have c0 : w5.cell? ⟨b, o + j * 3, none⟩ = some (.int .i64 5) := by
          have h := R5.kind rfl hlt
          rwa [hk0] at h
        have HPF := Lib.hid (show putF (G j) = [5] by rw [HF.out]; unfold putF; rw [if_neg (show ¬ ((5 : Int) = 1) by decide), if_neg (show ¬ ((5 : Int) = 2) by decide), List.append_nil]; show beN 5 1 = _; rw [beN_k1 5 (by decide)])
        clear R5
        have P7 := P5.out
        rw [← HPF.out] at P7
        rw [HXS.out] at P7
        clear P5
        go_wp2_with fail
        exact ⟨⟨j + 1, _, hlt, by go_num, rfl, by rw [catF, ← List.append_assoc]; exact P7⟩, by simp [intOf]; omega⟩
    · obtain rfl : j = n := by omega
      clear hlt hj
      have PE := Lib.hid (show PC w wr u3 (putN j G) by rw [putN, ← hxs]; exact pc)
      clear PJ0 pc hxs
      go_wp2_with fail
      go_ret
      exact ⟨_, rfl, PE.out.own, PE.out.bel⟩


/-- Block g is a reference's Reader that has the bytes xs left. -/
structure Rr (w0 w : World) (g : Nat) (xs : List Nat) (bad : Bool) : Prop where
  is : ∃ A c, Blk w g 126 [.slice A xs.length c, .bool bad] ∧ xs.length ≤ c ∧ Sr w0 A xs
  none_ : bad = true → xs = []
  bel : Below w0.heap.size w0 w
  low : w0.heap.size ≤ g
theorem Rr.lt {w0 w : World} {g : Nat} {xs : List Nat} {bad : Bool} (x : Rr w0 w g xs bad) : g < w.heap.size := by
  obtain ⟨_, _, h, _⟩ := x.is
  exact h.lt
theorem Rr.below {w0 w w' : World} {g : Nat} {xs : List Nat} {bad : Bool} (x : Rr w0 w g xs bad) (hb : Below w.heap.size w w') : Rr w0 w' g xs bad := by
  obtain ⟨A, c, h1, h2, h3⟩ := x.is
  exact ⟨⟨A, c, h1.below hb h1.lt, h2, h3⟩, x.none_, x.bel.trans (hb.mono x.bel.size), x.low⟩
set_option maxRecDepth 100000 in
theorem rraw_bad (g : Nat) (xs : List Nat) (bad : Bool) (n : Nat) (w0 w : World) (x : Rr w0 w g xs bad) (hn : bad = true ∨ xs.length < n) :
    Calls Tryz.prog 104 #[.pointer (some ⟨g, 0, none⟩), .int .i64 (n : Int)] w fun e w' => e = .returned (.slice none 0 0) ∧ Rr w0 w' g [] true ∧ Kept (fun k => k = g) w w' := by
  obtain ⟨A, c, h1, h2, h3⟩ := x.is
  have c0 : w.cell? ⟨g, 0, none⟩ = some (.slice A xs.length c) := h1.cell 0
  have c1 : w.cell? ⟨g, 1, none⟩ = some (.bool bad) := h1.cell 1
  have f0 := h1.frozen 0
  have f1 := h1.frozen 1
  have H1 := Lib.hid h1; have BL := Lib.hid x.bel; have LO := Lib.hid x.low
  have n0 : ¬ ((n : Int) < 0) := by omega
  clear x h1 h2 h3
  have fin : ∀ W, W = (w.setCell ⟨g, 1, none⟩ (.bool true)).setCell ⟨g, 0, none⟩ (.slice none 0 0) → Rr w0 W g [] true ∧ Kept (fun k => k = g) w W := fun W hW => by
    subst hW
    have kk : Kept (fun k => k = g) w ((w.setCell ⟨g, 1, none⟩ (.bool true)).setCell ⟨g, 0, none⟩ (.slice none 0 0)) := Kept.setCell (F := fun k => k = g) (Kept.setCell (F := fun k => k = g) (Kept.refl _ w) (p := ⟨g, 1, none⟩) (.inl rfl) _) (p := ⟨g, 0, none⟩) (.inl rfl) _
    exact ⟨⟨⟨none, 0, (H1.out.store 1 (.bool true)).store 0 (.slice none 0 0), Nat.le_refl _, Sr.nil⟩, fun _ => rfl, kept_below BL.out kk LO.out, LO.out⟩, kk⟩
  have FIN := Lib.hid fin
  clear fin
  cases bad with
  | true =>
    clear hn
    go_enter Tryz.func104, Tryz.ntmps104
    go_wp2
    go_ret
    exact ⟨rfl, FIN.out _ rfl⟩
  | false =>
    have h : xs.length < n := by simpa using hn
    have i1 : (xs.length : Int) < (n : Int) := by omega
    clear hn h
    go_enter Tryz.func104, Tryz.ntmps104
    go_wp2
    go_ret
    exact ⟨rfl, FIN.out _ rfl⟩
set_option maxRecDepth 100000 in
theorem rraw_ok (g : Nat) (xs : List Nat) (n : Nat) (w0 w : World) (x : Rr w0 w g xs false) (hn : n ≤ xs.length) :
    Calls Tryz.prog 104 #[.pointer (some ⟨g, 0, none⟩), .int .i64 (n : Int)] w fun e w' => (∃ A c, e = .returned (.slice A n c) ∧ n ≤ c ∧ Sr w' A (xs.take n)) ∧ Rr w0 w' g (xs.drop n) false ∧ Kept (fun k => k = g) w w' := by
  obtain ⟨A, c, h1, hc, h3⟩ := x.is
  have H1 := Lib.hid h1; have H3 := Lib.hid h3; have BL := Lib.hid x.bel; have LO := Lib.hid x.low
  have HN := Lib.hid hn; have HC := Lib.hid hc
  obtain ⟨p2, hp2, he2⟩ := slice_low (P := Tryz.prog) (t := 30) (e := 5) Tryz.underlying30 byte_size A xs.length c .i64 n hn hc
  have he1 := slice_high (P := Tryz.prog) (t := 30) (e := 5) Tryz.underlying30 byte_size A xs.length c .i64 n (by omega)
  have HP2 := Lib.hid hp2
  have c0 : w.cell? ⟨g, 0, none⟩ = some (.slice A xs.length c) := h1.cell 0
  have c1 : w.cell? ⟨g, 1, none⟩ = some (.bool false) := h1.cell 1
  have f0 := h1.frozen 0
  have i1 : (n : Int) ≤ (xs.length : Int) := by omega
  have n0 : ¬ ((n : Int) < 0) := by omega
  clear x h1 h3 hp2
  go_enter Tryz.func104, Tryz.ntmps104
  go_wp2
  go_ret
  have kk : Kept (fun k => k = g) w (w.setCell ⟨g, 0, none⟩ (.slice p2 (xs.length - n) (c - n))) := Kept.setCell (F := fun k => k = g) (Kept.refl _ w) (p := ⟨g, 0, none⟩) (.inl rfl) _
  have bb := kept_below BL.out kk LO.out
  refine ⟨⟨A, c, rfl, by have := HN.out; have := HC.out; omega, (H3.out.take n).below bb⟩, ⟨⟨p2, c - n, ?_, ?_, H3.out.drop HP2.out⟩, (fun e => by cases e), bb, LO.out⟩, kk⟩
  · rw [List.length_drop]
    exact H1.out.store 0 (.slice p2 (xs.length - n) (c - n))
  · rw [List.length_drop]
    have := HC.out; omega
set_option maxRecDepth 100000 in
set_option maxHeartbeats 400000 in
theorem rrnum_t (g : Nat) (xs : List Nat) (bad : Bool) (n : Nat) (w0 w : World) (x : Rr w0 w g xs bad) (hb : Bytes xs) (h1 : 1 ≤ n) (h2 : n ≤ 8) :
    Calls Tryz.prog 84 #[.pointer (some ⟨g, 0, none⟩), .int .i64 (n : Int)] w fun e w' => e = .returned (.int .u64 ((rNum xs bad n).1 : Nat)) ∧ Rr w0 w' g (rNum xs bad n).2.1 (rNum xs bad n).2.2 ∧ Kept (fun k => k = g) w w' := by
  have i1 : (1 : Int) ≤ (n : Int) := by omega
  have i8 : (n : Int) ≤ 8 := by omega
  unfold rNum
  by_cases h : xs.length < n
  · rw [if_pos h]
    have HT := Lib.hid (rraw_bad g xs bad n w0 w x (.inr h))
    clear x h hb
    go_enter Tryz.func84, Tryz.ntmps84
    go_wp2_with (go_at_call 104; refine (HT.out).mono ?_; rintro e w2 ⟨rfl, x2, k2⟩; have X2 := Lib.hid x2; have K2 := Lib.hid k2; clear x2 k2)
    go_loop [6, 7] (fun v i => v = .int .u64 0 ∧ i = .int .i64 0) (fun _ _ => 0)
    case atStart => exact ⟨rfl, rfl⟩
    case round =>
      obtain ⟨rfl, rfl⟩ := hrel
      go_wp2
      go_ret
      exact ⟨rfl, X2.out, K2.out⟩
  · rw [if_neg h]
    obtain rfl : bad = false := by
      cases hq : bad with
      | false => rfl
      | true =>
        have := x.none_ hq
        subst this
        exact absurd (show ([] : List Nat).length < n by simp; omega) h
    have HT := Lib.hid (rraw_ok g xs n w0 w x (by omega))
    have HB := Lib.hid hb
    have HL := Lib.hid (show n ≤ xs.length by omega)
    clear x h hb
    go_enter Tryz.func84, Tryz.ntmps84
    go_wp2_with (go_at_call 104; refine (HT.out).mono ?_; rintro e w2 ⟨⟨A, c, rfl, hc, hs⟩, x2, k2⟩; have X2 := Lib.hid x2; have K2 := Lib.hid k2; have HS := Lib.hid hs; clear x2 k2 hs)
    obtain ⟨b, o, rfl, _, hby⟩ := HS.out (by rw [List.length_take]; have := HL.out; omega)
    have HBY := Lib.hid hby
    clear hby HT
    go_loop [6, 7] (fun v i => ∃ k : Nat, k ≤ n ∧ v = .int .u64 (val (xs.take k) : Nat) ∧ i = .int .i64 k) (fun _ i => n - (intOf i).toNat)
    case atStart => exact ⟨0, by omega, rfl, rfl⟩
    case round =>
      obtain ⟨k, hk, rfl, rfl⟩ := hrel
      by_cases hlt : k < n
      · have hl := HL.out
        have c0 := HBY.out k (by rw [List.length_take]; omega)
        have e0 : gt (xs.take n) k = gt xs k := by simp [gt, List.getD_eq_getElem?_getD, hlt]
        rw [e0] at c0
        clear e0
        have b0 := HB.out k
        go_wp2
        go_round
        case rel =>
          refine ⟨k + 1, by omega, ?_, by go_num⟩
          rw [or_step _ _ (val_small _ (bytes_take HB.out k) (by rw [List.length_take]; omega)) b0, List.take_succ_eq_append_getElem (by omega), val_snoc, ← gt_of_lt]
        case measure => simp [intOf]; omega
      · obtain rfl : k = n := by omega
        go_wp2
        go_ret
        exact ⟨rfl, X2.out, K2.out⟩
theorem rrend_t (g : Nat) (xs : List Nat) (bad : Bool) (w0 w : World) (x : Rr w0 w g xs bad) : Calls Tryz.prog 87 #[.pointer (some ⟨g, 0, none⟩)] w fun e w' => e = .returned (.int .i64 (endN xs bad : Nat)) ∧ w = w' := by
  obtain ⟨A, c, h1, _, _⟩ := x.is
  have c0 : w.cell? ⟨g, 0, none⟩ = some (.slice A xs.length c) := h1.cell 0
  have c1 : w.cell? ⟨g, 1, none⟩ = some (.bool bad) := h1.cell 1
  unfold endN
  cases bad with
  | true =>
    rw [if_pos (.inl rfl)]
    clear x h1
    go_enter Tryz.func87, Tryz.ntmps87
    go_wp2
    go_ret
    exact ⟨rfl, rfl⟩
  | false =>
    by_cases h : 0 < xs.length
    · rw [if_pos (.inr h)]
      have i1 : (0 : Int) < (xs.length : Int) := by omega
      clear x h1 h
      go_enter Tryz.func87, Tryz.ntmps87
      go_wp2
      go_ret
      exact ⟨rfl, rfl⟩
    · rw [if_neg (fun q => q.elim (fun e => by cases e) h)]
      have i1 : xs.length = 0 := by omega
      rw [i1] at c0
      clear x h1 h i1
      go_enter Tryz.func87, Tryz.ntmps87
      go_wp2
      go_ret
      exact ⟨rfl, rfl⟩
/-- What Text reads, as the reference goes. -/
def rTxtM (xs : List Nat) (bad : Bool) (most : Nat) : List Nat × List Nat × Bool :=
  if (rNum xs bad 4).1 ≤ most ∧ (rNum xs bad 4).1 ≤ (rNum xs bad 4).2.1.length ∧ (rNum xs bad 4).2.2 = false then ((rNum xs bad 4).2.1.take (rNum xs bad 4).1, (rNum xs bad 4).2.1.drop (rNum xs bad 4).1, false) else ([], [], true)
theorem rTxtM_eq (xs : List Nat) (most : Nat) : rTxtM xs false most = rTxt xs false most := by
  unfold rTxtM rTxt rNum
  by_cases h : xs.length < 4
  · rw [if_pos h, if_neg (by simp), if_neg (by omega)]
  · rw [if_neg h]
    simp only [List.length_drop]
    by_cases h2 : val (xs.take 4) ≤ most ∧ val (xs.take 4) ≤ xs.length - 4
    · rw [if_pos ⟨h2.1, h2.2, by simp⟩, if_pos ⟨by omega, h2.1, h2.2⟩]
    · rw [if_neg (fun q => h2 ⟨q.1, q.2.1⟩), if_neg (fun q => h2 ⟨q.2.1, q.2.2⟩)]
theorem rTxtM_bad (most : Nat) : rTxtM [] true most = ([], [], true) := by
  unfold rTxtM rNum
  rw [if_pos (show ([] : List Nat).length < 4 by decide), if_neg (by simp)]
set_option maxRecDepth 100000 in
set_option maxHeartbeats 400000 in
theorem rrtxt_t (g : Nat) (xs : List Nat) (bad : Bool) (most : Nat) (w0 w : World) (x : Rr w0 w g xs bad) (hb : Bytes xs) (hm : most ≤ 1000000) (hl : xs.length ≤ 70368744177664) :
    Calls Tryz.prog 105 #[.pointer (some ⟨g, 0, none⟩), .int .i64 (most : Int)] w fun e w' => (∃ A c, e = .returned (.slice A (rTxtM xs bad most).1.length c) ∧ (rTxtM xs bad most).1.length ≤ c ∧ Sr w' A (rTxtM xs bad most).1) ∧ Rr w0 w' g (rTxtM xs bad most).2.1 (rTxtM xs bad most).2.2 ∧ Kept (fun k => k = g) w w' := by
  have NM := Lib.hid (rrnum_t g xs bad 4 w0 w x hb (by decide) (by decide))
  obtain ⟨hyb, hyl, hyv⟩ := rNum_bytes xs bad 4 hb
  have hT : rTxtM xs bad most = if (rNum xs bad 4).1 ≤ most ∧ (rNum xs bad 4).1 ≤ (rNum xs bad 4).2.1.length ∧ (rNum xs bad 4).2.2 = false then ((rNum xs bad 4).2.1.take (rNum xs bad 4).1, (rNum xs bad 4).2.1.drop (rNum xs bad 4).1, false) else ([], [], true) := rfl
  rw [hT]
  obtain ⟨⟨v, ys, b2⟩, hR⟩ : ∃ r, rNum xs bad 4 = r := ⟨_, rfl⟩
  simp only [hR] at NM hyb hyl hyv ⊢
  have hmx : max (most : Int) 0 = (most : Int) := by omega
  have hmw : IntKind.u64.wrap (most : Int) = (most : Int) := IntWalk.u64_in _ (by omega)
  have hv4 : v < 4294967296 := hyv
  obtain ⟨res, hres⟩ : ∃ r : List Nat × List Nat × Bool, (if v ≤ most ∧ v ≤ ys.length ∧ b2 = false then (ys.take v, ys.drop v, false) else ([], [], true)) = r := ⟨_, rfl⟩
  rw [hres]
  have RES := Lib.hid hres
  clear hT hR hres x hb hyb
  go_enter Tryz.func105, Tryz.ntmps105
  go_wp2_with fail
  refine NM.out.mono ?_
  rintro e w1 ⟨rfl, x1, k1⟩
  have X1 := Lib.hid x1; have K1 := Lib.hid k1; have BL := Lib.hid x1.bel; have LO := Lib.hid x1.low
  obtain ⟨A, c, q1, q2, q3⟩ := x1.is
  have c0 : w1.cell? ⟨g, 0, none⟩ = some (.slice A ys.length c) := q1.cell 0
  have c1 : w1.cell? ⟨g, 1, none⟩ = some (.bool b2) := q1.cell 1
  have f0 := q1.frozen 0
  have f1 := q1.frozen 1
  have Q1 := Lib.hid q1
  clear x1 k1 q1 q2 q3 NM
  have vw : IntKind.i64.wrap (v : Int) = (v : Int) := IntWalk.i64_in _ (by omega)
  have lw : IntKind.u64.wrap (ys.length : Int) = (ys.length : Int) := IntWalk.u64_in _ (by omega)
  have FIN := Lib.hid (fun W (hW : W = (w1.setCell ⟨g, 1, none⟩ (.bool true)).setCell ⟨g, 0, none⟩ (.slice none 0 0)) => show Rr w0 W g [] true ∧ Kept (fun k => k = g) w W from by
    subst hW
    have kk : Kept (fun k => k = g) w1 ((w1.setCell ⟨g, 1, none⟩ (.bool true)).setCell ⟨g, 0, none⟩ (.slice none 0 0)) := Kept.setCell (F := fun k => k = g) (Kept.setCell (F := fun k => k = g) (Kept.refl _ w1) (p := ⟨g, 1, none⟩) (.inl rfl) _) (p := ⟨g, 0, none⟩) (.inl rfl) _
    exact ⟨⟨⟨none, 0, (Q1.out.store 1 (.bool true)).store 0 (.slice none 0 0), Nat.le_refl _, Sr.nil⟩, fun _ => rfl, kept_below BL.out kk LO.out, LO.out⟩, K1.out.trans kk⟩)
  clear Q1
  by_cases hv1 : v ≤ most
  · have i1 : (v : Int) ≤ (most : Int) := by omega
    by_cases hv2 : v ≤ ys.length
    · have i2 : (v : Int) ≤ (ys.length : Int) := by omega
      clear FIN f0 f1
      cases b2 with
      | true =>
        have RB := Lib.hid (rraw_bad g ys true v w0 w1 X1.out (.inl rfl))
        have hr := RES.out
        rw [if_neg (fun q => by cases q.2.2)] at hr
        subst hr
        clear RES X1 hv1 hv2
        go_wp2_with fail
        refine RB.out.mono ?_
        rintro e w2 ⟨rfl, x2, k2⟩
        have X2 := Lib.hid x2; have K2 := Lib.hid (K1.out.trans (k2.mono fun _ e => e))
        clear x2 k2 RB
        go_wp2_with fail
        go_ret
        exact ⟨⟨none, ⟨0, rfl⟩, Sr.nil⟩, X2.out, K2.out⟩
      | false =>
        have RB := Lib.hid (rraw_ok g ys v w0 w1 X1.out hv2)
        have hr := RES.out
        rw [if_pos ⟨hv1, hv2, rfl⟩] at hr
        subst hr
        clear RES X1 hv1 hv2
        go_wp2_with fail
        refine RB.out.mono ?_
        rintro e w2 ⟨⟨A2, cc2, rfl, hc2, hs⟩, x2, k2⟩
        have X2 := Lib.hid x2; have K2 := Lib.hid (K1.out.trans (k2.mono fun _ e => e)); have S2 := Lib.hid hs
        clear x2 k2 RB hs
        go_wp2_with fail
        go_ret
        exact ⟨⟨A2, cc2, by rw [show min v ys.length = v by omega]; rfl, by first | omega | (simp; omega), S2.out⟩, X2.out, K2.out⟩
    · have i2 : (ys.length : Int) < (v : Int) := by omega
      have hr := RES.out
      rw [if_neg (fun q => hv2 q.2.1)] at hr
      subst hr
      clear RES X1 hv1 hv2
      go_wp2_with fail
      go_ret
      exact ⟨⟨none, ⟨0, rfl⟩, Sr.nil⟩, FIN.out _ rfl⟩
  · have i1 : (most : Int) < (v : Int) := by omega
    have hr := RES.out
    rw [if_neg (fun q => hv1 q.1)] at hr
    subst hr
    clear RES X1 hv1
    go_wp2_with fail
    go_ret
    exact ⟨⟨none, ⟨0, rfl⟩, Sr.nil⟩, FIN.out _ rfl⟩


theorem built_R (p : Option Addr) (m c : Nat) : Tryz.prog.built 126 [(0, .slice p m c)] = some #[.slice p m c, .bool false] := by kernel_rfl
theorem rFld_bad : rFld [] true = (⟨0, 0, eS⟩, [], true) := by
  have h : rNum [] true 1 = (0, [], true) := rfl
  unfold rFld
  rw [h]
  rfl
theorem stN_bad (xs : List Nat) (bad : Bool) (j : Nat) (h : stN xs bad j = ([], true)) : ∀ i, stN xs bad (j + i) = ([], true)
  | 0 => h
  | i + 1 => by
    show (rFld (stN xs bad (j + i)).1 (stN xs bad (j + i)).2).2 = _
    rw [stN_bad xs bad j h i, rFld_bad]
theorem rNum_fine (xs : List Nat) (n : Nat) (h : (rNum xs false n).1 ≠ 0) : (rNum xs false n).2.2 = false := by
  unfold rNum at h ⊢
  split
  · rename_i q
    rw [if_pos q] at h
    exact absurd rfl h
  · rfl
section
variable {w0 w w' : World} {g : Nat} {xs : List Nat} {bad : Bool}
theorem Rr.grow (x : Rr w0 w g xs bad) {base n : Nat} {v : Value} {l : List Value} (o : w.ownsRow base 172 3 v n l) (hl : w0.heap.size ≤ base) (hg : w.grownBy w' v.ownBlock) : Rr w0 w' g xs bad := by
  obtain ⟨A, c, h1, h2, h3⟩ := x.is
  have hne := own_apart o h1 (by decide)
  exact ⟨⟨A, c, (hg.block g h1.lt (fun e => hne e.symm)).trans h1, h2, h3⟩, x.none_, x.bel.grown hg x.bel.size (fun k e => Nat.le_trans hl (o.lt k e).1), x.low⟩
theorem own_rr {base n : Nat} {v : Value} {l : List Value} (o : w.ownsRow base 172 3 v n l) (x : Rr w0 w g xs bad) (hk : Kept (fun k => k = g) w w') : w'.ownsRow base 172 3 v n l := by
  obtain ⟨A, c, h1, h2, h3⟩ := x.is
  exact own_kept o hk (fun k h e => own_apart o h1 (by decide) (by rw [h, e]))
theorem Rr.off (x : Rr w0 w g xs bad) {g3 : Nat} (hk : Kept (fun k => k = g3) w w') (hne : g ≠ g3) (hl : w0.heap.size ≤ g3) : Rr w0 w' g xs bad := by
  obtain ⟨A, c, h1, h2, h3⟩ := x.is
  exact ⟨⟨A, c, h1.kept hk hne, h2, h3⟩, x.none_, kept_below x.bel hk hl, x.low⟩
end
/-- Where GetFields stands ahead of the j-th field: the row so far, the Reader. -/
structure GR (w0 W : World) (g : Nat) (v : Value) (j : Nat) (G : Nat → Fld) (zs : List Nat) (b : Bool) : Prop where
  own : W.ownsRow w0.heap.size 172 3 v j (rowC G j)
  rd : Rr w0 W g zs b
/-- And the field that is under way. -/
structure GF (w0 W : World) (g g3 : Nat) (v : Value) (j : Nat) (G : Nat → Fld) (zs : List Nat) (b : Bool) (f : Fld) : Prop where
  own : W.ownsRow w0.heap.size 172 3 v j (rowC G j)
  rd : Rr w0 W g zs b
  fld : Blk W g3 172 (fv f)
  ne : g ≠ g3
  low : w0.heap.size ≤ g3
  off : ∀ k, v.ownBlock = some k → k < g3
section
variable {w0 w w' : World} {g g3 : Nat} {v : Value} {j : Nat} {G : Nat → Fld} {zs ys : List Nat} {b b' : Bool} {f f' : Fld}
theorem GF.read (h : GF w0 w g g3 v j G zs b f) (hk : Kept (fun k => k = g) w w') (x : Rr w0 w' g ys b') : GF w0 w' g g3 v j G ys b' f :=
  ⟨own_rr h.own h.rd hk, x, h.fld.kept hk (fun e => h.ne e.symm), h.ne, h.low, h.off⟩
theorem GF.store (h : GF w0 w g g3 v j G zs b f) (hk : Kept (fun k => k = g3) w w') (hf : Blk w' g3 172 (fv f')) : GF w0 w' g g3 v j G zs b f' :=
  ⟨own_kept h.own hk (fun k e q => by have := h.off k e; omega), h.rd.off hk h.ne h.low, hf, h.ne, h.low, h.off⟩
theorem GF.more (h : GF w0 w g g3 v j G zs b f) (hf : G j = f) {v' : Value} (ow : (w.alloc (.cells (rowC (fun _ => f) 1).toArray 172)).ownsRow w0.heap.size 172 3 v j (rowC G j))
    (a1 : w'.ownsRow w0.heap.size 172 3 v' (j + 1) (rowC G j ++ rowC (fun _ => f) 1)) (a2 : (w.alloc (.cells (rowC (fun _ => f) 1).toArray 172)).grownBy w' v.ownBlock) : GR w0 w' g v' (j + 1) G zs b :=
  ⟨by rw [rowC, hf]; exact a1, (h.rd.below ((Below.refl _ _).alloc (Nat.le_refl _) _)).grow ow (Nat.le_refl _) a2⟩
theorem GR.open (h : GR w0 w g v j G zs b) {W1 : World} (hk : Kept (fun k => k = g) w W1) (x : Rr w0 W1 g ys b') (f : Fld) : GF w0 (W1.alloc (.cells (fv f).toArray 172)) g W1.heap.size v j G ys b' f :=
  ⟨own_below (own_rr h.own h.rd hk) ((Below.refl _ _).alloc (Nat.le_refl _) _), x.below ((Below.refl _ _).alloc (Nat.le_refl _) _), Blk.new W1 _ (fv f), by have := x.lt; omega, x.bel.size, fun k e => by have := (h.own.lt k e).2; have := hk.size; omega⟩
end
theorem nf_own {W : World} {base n c : Nat} {A : Option Addr} {l : List Value} (h : W.ownsRow base 172 3 (.slice A n c) n l) : NF W base A := by
  rcases h.2 with ⟨h0, _⟩ | ⟨g, cap, cur, e, hb, hh, _⟩
  · injection h0 with h1
    subst h1
    exact NF.no _ _
  · have hA : A = some ⟨g, 0, none⟩ := by injection e
    subst hA
    exact ⟨fun a ha => by injection ha with ha; subst ha; exact hb, fun a ha => by injection ha with ha; subst ha; exact ⟨cur.toList, by unfold Blk; rw [Array.toArray_toList]; exact hh⟩⟩
set_option maxRecDepth 100000 in
set_option maxHeartbeats 1000000 in
theorem refget_t (xs : List Nat) (p : Option Addr) (m c : Nat) (w : World) (hx : xs.length = m) (hc : m ≤ c) (hp : Sr w p xs) (hb : Bytes xs) (hl : m ≤ 70368744177664) :
    Calls Tryz.prog 140 #[.slice p m c] w fun e w' => Below w.heap.size w w' ∧ ((getOK xs = false ∧ e = .returned (.tuple #[.slice none 0 0, .int .i64 2])) ∨ (getOK xs = true ∧ ∃ A c', e = .returned (.tuple #[.slice A (cntN xs) c', .int .i64 0]) ∧ Rw w' A (cntN xs) (gotN xs) ∧ NF w' w.heap.size A)) := by
  subst hx
  have HP := Lib.hid hp
  have HC := Lib.hid hc
  have NM := Lib.hid (fun X g (h : Rr w X g xs false) => rrnum_t g xs false 1 w X h hb (by decide) (by decide))
  obtain ⟨hb1, hl1, hn1⟩ := rNum_bytes xs false 1 hb
  have hG : ∀ j, gotN xs j = fldN (rNum xs false 1).2.1 (rNum xs false 1).2.2 j := fun j => rfl
  have hE : endG xs = endN (stN (rNum xs false 1).2.1 (rNum xs false 1).2.2 (rNum xs false 1).1).1 (stN (rNum xs false 1).2.1 (rNum xs false 1).2.2 (rNum xs false 1).1).2 := rfl
  have hC : cntN xs = (rNum xs false 1).1 := rfl
  obtain ⟨⟨n, ys, bd⟩, hR⟩ : ∃ r, rNum xs false 1 = r := ⟨_, rfl⟩
  simp only [hR] at NM hb1 hl1 hn1 hG hE hC
  have hG2 : gotN xs = fldN ys bd := funext hG
  have OKE := Lib.hid (show getOK xs = (decide (endN (stN ys bd n).1 (stN ys bd n).2 = 0) && mayP n (fldN ys bd)) by unfold getOK; rw [hE, hC, hG2])
  rw [hC, hG2]
  have HB := Lib.hid hb1
  have hl2 : ys.length ≤ 70368744177664 := by omega
  have hn2 : n ≤ 255 := by omega
  have nw : IntKind.i64.wrap (n : Int) = (n : Int) := IntWalk.i64_in _ (by omega)
  obtain ⟨ok, hok⟩ : ∃ r, getOK xs = r := ⟨_, rfl⟩
  rw [hok] at OKE ⊢
  have BR := built_R p xs.length c
  clear hp hc hb hb1 hl1 hn1 hG hE hC hR hG2 hok
  go_enter Tryz.func140, Tryz.ntmps140
  go_upto_region 2 with (fail)
  refine world_at (fun Y => Rr w Y w.heap.size xs false) ⟨⟨p, c, Blk.new w _ [.slice p xs.length c, .bool false], HC.out, HP.out⟩, (fun e => by cases e), (Below.refl _ _).alloc (Nat.le_refl _) _, Nat.le_refl _⟩ ?_
  rintro Y xy
  have XY := Lib.hid xy
  clear xy HP HC BR
  go_wp2_with fail
  refine (NM.out Y _ XY.out).mono ?_
  rintro e w1 ⟨rfl, x1, k1⟩
  have X1 := Lib.hid x1
  clear x1 k1 NM XY
  go_upto_region 5 with (fail)
  go_loopw [6, 7] (fun v x wr => ∃ j : Nat, j ≤ n ∧ x = .int .i64 (j : Int) ∧ GR w wr w.heap.size v j (fldN ys bd) (stN ys bd j).1 (stN ys bd j).2) (fun _ x _ => n - (intOf x).toNat)
  case atStart => exact ⟨0, by omega, rfl, World.ownsRow_nil _ _ _ _, X1.out⟩
  case round =>
    clear X1
    obtain ⟨j, hj, rfl, gr⟩ := hrel
    obtain ⟨hzb, hzl⟩ := stN_bytes ys bd HB.out j
    obtain ⟨⟨zs, b⟩, hst⟩ : ∃ r, stN ys bd j = r := ⟨_, rfl⟩
    have hfj : fldN ys bd j = (rFld (stN ys bd j).1 (stN ys bd j).2).1 := rfl
    have hsj : stN ys bd (j + 1) = (rFld (stN ys bd j).1 (stN ys bd j).2).2 := rfl
    simp only [hst] at gr hzb hzl hfj hsj
    have HR := Lib.hid gr
    obtain ⟨A0, c0', q1, q2, q3⟩ := gr.rd.is
    have cb : wr.cell? ⟨w.heap.size, 1, none⟩ = some (.bool b) := q1.cell 1
    clear gr q1 q2 q3
    by_cases hlt : j < n
    · have j1 : (j : Int) < (n : Int) := by omega
      cases b with
      | true =>
        have he : endN (stN ys bd n).1 (stN ys bd n).2 = 2 := by
          have hz : zs = [] := HR.out.rd.none_ rfl
          subst hz
          have := stN_bad ys bd j hst (n - j)
          rw [show j + (n - j) = n by omega] at this
          rw [this]
          rfl
        have HO := OKE.out
        rw [he] at HO
        have HOK := Lib.hid (HO.trans (by rfl) : ok = false)
        have EB : endN zs true = 2 := if_pos (.inl rfl)
        clear HO he OKE hfj hsj hst hzb hzl
        go_wp2_with fail
        refine (rrend_t w.heap.size _ _ w wr HR.out.rd).mono ?_
        rintro e w5 ⟨rfl, rfl⟩
        rw [EB]
        go_wp2_with fail
        go_ret2
        exact ⟨HR.out.rd.bel, .inl ⟨HOK.out, rfl⟩⟩
      | false =>
        have N1 := Lib.hid (rrnum_t w.heap.size zs false 1 w wr HR.out.rd hzb (by decide) (by decide))
        obtain ⟨hy, hyl, hyn⟩ := rNum_bytes zs false 1 hzb
        have hfine := rNum_fine zs 1
        have hF : rFld zs false = if (rNum zs false 1).1 = 1 then (⟨1, IntKind.i64.wrap ((rNum (rNum zs false 1).2.1 (rNum zs false 1).2.2 8).1 : Int), eS⟩, (rNum (rNum zs false 1).2.1 (rNum zs false 1).2.2 8).2)
          else if (rNum zs false 1).1 = 2 then (⟨2, 0, str (rTxt (rNum zs false 1).2.1 (rNum zs false 1).2.2 40).1⟩, (rTxt (rNum zs false 1).2.1 (rNum zs false 1).2.2 40).2)
          else (⟨((rNum zs false 1).1 : Int), 0, eS⟩, (rNum zs false 1).2) := rfl
        rw [hF] at hfj hsj
        obtain ⟨⟨k, y1, b1⟩, hR1⟩ : ∃ r, rNum zs false 1 = r := ⟨_, rfl⟩
        simp only [hR1] at N1 hy hyl hyn hfine hfj hsj
        have HY := Lib.hid hy
        have HFI := Lib.hid hfine
        have kw : IntKind.i64.wrap (k : Int) = (k : Int) := IntWalk.i64_in _ (by omega)
        have BF := built_fld (k : Int)
        have hyl2 : y1.length ≤ 70368744177664 := by omega
        have FJ := Lib.hid hfj; have SJ := Lib.hid hsj
        clear hF hR1 hy hfine hfj hsj hst hzb hzl hyl OKE
        go_wp2_with fail
        refine N1.out.mono ?_
        rintro e w2 ⟨rfl, x2, k2⟩
        have GO := Lib.hid (HR.out.open k2 x2 ⟨k, 0, eS⟩)
        clear x2 k2 N1 HR cb
        go_upto_region 8 with (fail)
        refine world_at (fun Z => GF w Z w.heap.size w2.heap.size u6 j (fldN ys bd) y1 b1 ⟨k, 0, eS⟩) GO.out ?_
        rintro Z gz
        obtain ⟨g3, hg3⟩ : ∃ x, w2.heap.size = x := ⟨_, rfl⟩
        rw [hg3] at gz ⊢
        have GZ := Lib.hid gz
        obtain ⟨c0, c1, c2⟩ := fv_cells gz.fld
        clear gz GO hg3 BF
        by_cases h1 : k = 1
        · subst h1
          have hr := FJ.out; have hs := SJ.out
          rw [if_pos rfl] at hr hs
          have NM := Lib.hid (rrnum_t w.heap.size y1 b1 8 w Z GZ.out.rd HY.out (by decide) (by decide))
          obtain ⟨_, _, hv8⟩ := rNum_bytes y1 b1 8 HY.out
          obtain ⟨⟨v, zs', b2⟩, hR⟩ : ∃ r, rNum y1 b1 8 = r := ⟨_, rfl⟩
          simp only [hR] at NM hv8 hr hs
          obtain ⟨nn, hn⟩ : ∃ n, IntKind.i64.wrap (v : Int) = n := ⟨_, rfl⟩
          rw [hn] at hr
          have HF := Lib.hid hr
          have HS := Lib.hid hs
          clear hR hr hs FJ SJ HY HFI
          go_wp2_with fail
          refine NM.out.mono ?_
          rintro e w3 ⟨rfl, x3, k3⟩
          have g4 := GZ.out.read k3 x3
          have fz := g4.fld.frozen 1
          have ct := g4.fld.cell 1
          have kz : Kept (fun k => k = g3) w3 (w3.setCell ⟨g3, 1, none⟩ (.int .i64 nn)) := Kept.setCell (F := fun k => k = g3) (Kept.refl _ _) (p := ⟨g3, 1, none⟩) (.inl rfl) _
          have G5 := Lib.hid (g4.store kz (fv_set1 g4.fld nn))
          clear x3 k3 g4 kz GZ NM c0 c1 c2
          go_upto_region 13 with (fail)
          clear fz ct
          refine world_at (fun Z => GF w Z w.heap.size g3 u6 j (fldN ys bd) zs' b2 ⟨1, nn, eS⟩) G5.out ?_
          rintro V gz
          have GZ := Lib.hid gz
          clear gz G5
          have FV := Lib.hid (fv_size ⟨1, nn, eS⟩); have FO := Lib.hid (fv_one ⟨1, nn, eS⟩)
          have BN := Lib.hid ((Below.refl (V).heap.size V).alloc (Nat.le_refl _) (.cells (rowC (fun _ => ⟨1, nn, eS⟩) 1).toArray 172))
          have RW := Lib.hid (rw_of_blk (n := 1) (rest := []) (fun _ => ⟨1, nn, eS⟩) (by rw [List.append_nil]; exact Blk.new V 172 (rowC (fun _ => ⟨1, nn, eS⟩) 1)))
          have OA := Lib.hid (own_below GZ.out.own BN.out)
          have L3 : (fv ⟨1, nn, eS⟩).length = 3 := rfl
          have HB := Lib.hid (show w.heap.size ≤ ((V).alloc (.cells (rowC (fun _ => ⟨1, nn, eS⟩) 1).toArray 172)).heap.size from Nat.le_trans GZ.out.rd.bel.size BN.out.size)
          go_wp2_with (first
            | ((with_reducible refine load_blk 172 (.tmp 8) g3 172 (fv ⟨1, nn, eS⟩) _ rfl rfl ?_ Tryz.underlying172 ?_ ?_ ?_ ?_); exact GZ.out.fld; exact rfl; exact FV.out; exact rfl)
            | ((with_reducible refine at_op (.call { callee := .builtin .append, args := #[.tmp 45, .tmp 47], argTypes := #[24, 24] }) rfl ?_); go_must (refine append_flds (.tmp 45) (.tmp 47) rfl rfl w.heap.size u6 j (rowC (fldN ys bd) j) rfl OA.out (some ⟨(V).heap.size, 0, none⟩) 1 1 rfl (fun _ => ⟨1, nn, eS⟩) (by decide) RW.out (by omega) HB.out ?_); intro v1 w5 a1 a2 a3))
          exact ⟨⟨j + 1, hlt, by go_num, (by rw [HS.out]; exact GZ.out.more HF.out OA.out a1.out a2.out)⟩, by simp [intOf]; omega⟩
        · have hr := FJ.out; have hs := SJ.out
          rw [if_neg h1] at hr hs
          have e1 : ((k : Int) == 1) = false := by rw [beq_eq_false_iff_ne]; omega
          by_cases h2 : k = 2
          · subst h2
            have hb1 := HFI.out (by decide)
            subst hb1
            rw [if_pos rfl] at hr hs
            have NM := Lib.hid (rrtxt_t w.heap.size y1 false 40 w Z GZ.out.rd HY.out (by decide) (by omega))
            rw [rTxtM_eq] at NM
            obtain ⟨⟨v, zs', b2⟩, hR⟩ : ∃ r, rTxt y1 false 40 = r := ⟨_, rfl⟩
            simp only [hR] at NM hr hs
            have HF := Lib.hid hr
            have HS := Lib.hid hs
            clear hR hr hs FJ SJ HY HFI h1
            go_wp2_with fail
            refine NM.out.mono ?_
            rintro e w3 ⟨⟨A2, cc, rfl, _, s3⟩, x3, k3⟩
            have hcv := s3.conv rfl cc
            have g4 := GZ.out.read k3 x3
            have fz := g4.fld.frozen 2
            have ct := g4.fld.cell 2
            have kz : Kept (fun k => k = g3) w3 (w3.setCell ⟨g3, 2, none⟩ (.string (str v))) := Kept.setCell (F := fun k => k = g3) (Kept.refl _ _) (p := ⟨g3, 2, none⟩) (.inl rfl) _
            have G5 := Lib.hid (g4.store kz (fv_set2 g4.fld (str v)))
            clear x3 k3 g4 kz GZ NM c0 c1 c2 s3
            go_upto_region 13 with (fail)
            clear fz ct hcv
            refine world_at (fun Z => GF w Z w.heap.size g3 u6 j (fldN ys bd) zs' b2 ⟨2, 0, str v⟩) G5.out ?_
            rintro V gz
            have GZ := Lib.hid gz
            clear gz G5
            have FV := Lib.hid (fv_size ⟨2, 0, str v⟩); have FO := Lib.hid (fv_one ⟨2, 0, str v⟩)
            have BN := Lib.hid ((Below.refl (V).heap.size V).alloc (Nat.le_refl _) (.cells (rowC (fun _ => ⟨2, 0, str v⟩) 1).toArray 172))
            have RW := Lib.hid (rw_of_blk (n := 1) (rest := []) (fun _ => ⟨2, 0, str v⟩) (by rw [List.append_nil]; exact Blk.new V 172 (rowC (fun _ => ⟨2, 0, str v⟩) 1)))
            have OA := Lib.hid (own_below GZ.out.own BN.out)
            have L3 : (fv ⟨2, 0, str v⟩).length = 3 := rfl
            have HB := Lib.hid (show w.heap.size ≤ ((V).alloc (.cells (rowC (fun _ => ⟨2, 0, str v⟩) 1).toArray 172)).heap.size from Nat.le_trans GZ.out.rd.bel.size BN.out.size)
            go_wp2_with (first
              | ((with_reducible refine load_blk 172 (.tmp 8) g3 172 (fv ⟨2, 0, str v⟩) _ rfl rfl ?_ Tryz.underlying172 ?_ ?_ ?_ ?_); exact GZ.out.fld; exact rfl; exact FV.out; exact rfl)
              | ((with_reducible refine at_op (.call { callee := .builtin .append, args := #[.tmp 45, .tmp 47], argTypes := #[24, 24] }) rfl ?_); go_must (refine append_flds (.tmp 45) (.tmp 47) rfl rfl w.heap.size u6 j (rowC (fldN ys bd) j) rfl OA.out (some ⟨(V).heap.size, 0, none⟩) 1 1 rfl (fun _ => ⟨2, 0, str v⟩) (by decide) RW.out (by omega) HB.out ?_); intro v1 w5 a1 a2 a3))
            exact ⟨⟨j + 1, hlt, by go_num, (by rw [HS.out]; exact GZ.out.more HF.out OA.out a1.out a2.out)⟩, by simp [intOf]; omega⟩
          · rw [if_neg h2] at hr hs
            have HF := Lib.hid hr
            have HS := Lib.hid hs
            have e2 : ((k : Int) == 2) = false := by rw [beq_eq_false_iff_ne]; omega
            clear h1 h2 hr hs FJ SJ HY HFI c1 c2
            go_upto_region 13 with (fail)
            clear c0 e1 e2
            have FV := Lib.hid (fv_size ⟨(k : Int), 0, eS⟩); have FO := Lib.hid (fv_one ⟨(k : Int), 0, eS⟩)
            have BN := Lib.hid ((Below.refl (Z).heap.size Z).alloc (Nat.le_refl _) (.cells (rowC (fun _ => ⟨(k : Int), 0, eS⟩) 1).toArray 172))
            have RW := Lib.hid (rw_of_blk (n := 1) (rest := []) (fun _ => ⟨(k : Int), 0, eS⟩) (by rw [List.append_nil]; exact Blk.new Z 172 (rowC (fun _ => ⟨(k : Int), 0, eS⟩) 1)))
            have OA := Lib.hid (own_below GZ.out.own BN.out)
            have L3 : (fv ⟨(k : Int), 0, eS⟩).length = 3 := rfl
            have HB := Lib.hid (show w.heap.size ≤ ((Z).alloc (.cells (rowC (fun _ => ⟨(k : Int), 0, eS⟩) 1).toArray 172)).heap.size from Nat.le_trans GZ.out.rd.bel.size BN.out.size)
            go_wp2_with (first
              | ((with_reducible refine load_blk 172 (.tmp 8) g3 172 (fv ⟨(k : Int), 0, eS⟩) _ rfl rfl ?_ Tryz.underlying172 ?_ ?_ ?_ ?_); exact GZ.out.fld; exact rfl; exact FV.out; exact rfl)
              | ((with_reducible refine at_op (.call { callee := .builtin .append, args := #[.tmp 45, .tmp 47], argTypes := #[24, 24] }) rfl ?_); go_must (refine append_flds (.tmp 45) (.tmp 47) rfl rfl w.heap.size u6 j (rowC (fldN ys bd) j) rfl OA.out (some ⟨(Z).heap.size, 0, none⟩) 1 1 rfl (fun _ => ⟨(k : Int), 0, eS⟩) (by decide) RW.out (by omega) HB.out ?_); intro v1 w5 a1 a2 a3))
            exact ⟨⟨j + 1, hlt, by go_num, (by rw [HS.out]; exact GZ.out.more HF.out OA.out a1.out a2.out)⟩, by simp [intOf]; omega⟩
    · obtain rfl : j = n := by omega
      have HO := OKE.out
      rw [hst] at HO
      have HOK := Lib.hid HO
      obtain ⟨A, cA, rfl, _⟩ := own_form HR.out.own
      have RT := Lib.hid (rw_of_own HR.out.own)
      have NT := Lib.hid (nf_own HR.out.own)
      have MT := Lib.hid (refmayP_t j cA A (fldN ys bd) wr (by omega) RT.out)
      clear HO OKE hst hfj hsj hzb hzl hlt hj
      obtain ⟨mp, hmp⟩ : ∃ x, mayP j (fldN ys bd) = x := ⟨_, rfl⟩
      rw [hmp] at MT HOK
      obtain ⟨en, hen⟩ : ∃ x, endN zs b = x := ⟨_, rfl⟩
      have hen2 : endN (zs, b).1 (zs, b).2 = en := hen
      rw [hen2] at HOK
      clear hmp hen2
      go_wp2_with fail
      refine (rrend_t w.heap.size _ _ w wr HR.out.rd).mono ?_
      rintro e w5 ⟨rfl, rfl⟩
      rw [hen]
      clear hen cb
      by_cases h0 : en = 0
      · subst h0
        go_wp2_with fail
        refine MT.out.mono ?_
        rintro e w6 ⟨rfl, b6⟩
        have B6 := Lib.hid (HR.out.rd.bel.trans (b6.mono HR.out.rd.bel.size)); have R6 := Lib.hid (RT.out.below b6); have N6 := Lib.hid (NT.out.below b6)
        clear b6 MT
        cases mp with
        | false =>
          go_wp2_with fail
          go_ret2
          exact ⟨B6.out, .inl ⟨HOK.out, rfl⟩⟩
        | true =>
          go_wp2_with fail
          go_ret2
          exact ⟨B6.out, .inr ⟨HOK.out, A, cA, rfl, R6.out, N6.out⟩⟩
      · have e1 : ((en : Int) != 0) = true := by rw [bne_iff_ne]; omega
        have HO2 := HOK.out
        rw [decide_eq_false h0] at HO2
        have HO3 := Lib.hid (HO2 : ok = false)
        clear HOK HO2 MT h0
        go_wp2_with fail
        go_ret2
        exact ⟨HR.out.rd.bel, .inl ⟨HO3.out, rfl⟩⟩

/-- A slice of bytes as Cat takes it: its address, its capacity, what it reads as. -/
structure PartO where
  A : Option Addr
  c : Nat
  X : List Nat
def partsO (l : List PartO) : List Value := l.map fun x => .slice x.A x.X.length x.c
def catO (l : List PartO) : List Nat := l.flatMap (·.X)
theorem catO_le (l : List PartO) (k : Nat) : (catO (l.take k)).length ≤ (catO l).length := by
  conv => rhs; rw [← List.take_append_drop k l]
  unfold catO
  rw [List.flatMap_append, List.length_append]
  omega
theorem catO_succ (l : List PartO) (k : Nat) (x : PartO) (h : l[k]? = some x) : catO (l.take (k + 1)) = catO (l.take k) ++ x.X := by
  obtain ⟨hk, rfl⟩ := List.getElem?_eq_some_iff.1 h
  unfold catO
  rw [List.take_succ_eq_append_getElem hk, List.flatMap_append, List.flatMap_cons, List.flatMap_nil, List.append_nil]
set_option maxHeartbeats 400000 in
theorem catO_t (l : List PartO) (g n c : Nat) (t : TypeId) (w : World) (hn : l.length = n) (hb : Blk w g t (partsO l)) (hr : ∀ x, x ∈ l → Sr w x.A x.X) (hl : (catO l).length ≤ 1000000) (hn2 : n ≤ 100) :
    Calls Tryz.prog 69 #[.slice (some ⟨g, 0, none⟩) n c] w fun e w' => ∃ v, e = .returned v ∧ Fresh 5 w w' v (catO l) := by
  have HB := Lib.hid hb; have HR := Lib.hid hr; have HL := Lib.hid hl; have HN := Lib.hid hn
  have n1 : (n : Int) ≤ 100 := by omega
  clear hb hr hl hn
  go_enter Tryz.func69, Tryz.ntmps69
  go_wp2_with fail
  go_loopw [3, 4] (fun o i wr => ∃ k : Nat, k ≤ n ∧ i = .int .i64 k ∧ wr.ownsRow w.heap.size 5 1 o (catO (l.take k)).length (u8s (catO (l.take k))) ∧ Below w.heap.size w wr) (fun _ i _ => n - (intOf i).toNat)
  case atStart => exact ⟨0, by omega, rfl, by simpa [catO] using nil_own _ _, Below.refl _ _⟩
  case round =>
    obtain ⟨k, hk, rfl, ho, hb⟩ := hrel
    by_cases hlt : k < n
    · obtain ⟨x, hx⟩ : ∃ x, l[k]? = some x := ⟨_, List.getElem?_eq_getElem (by rw [HN.out]; exact hlt)⟩
      have hs := (HR.out x (List.mem_of_getElem? hx)).below hb
      have h1 := catO_succ l k x hx
      have h2 : (catO (l.take k)).length + x.X.length ≤ 1000000 := by
        have := catO_le l (k + 1)
        rw [h1, List.length_append] at this
        exact Nat.le_trans this HL.out
      have c0 : wr.cell? ⟨g, k, none⟩ = some (.slice x.A x.X.length x.c) := by
        refine (hb.cell (p := ⟨g, k, none⟩) HB.out.lt).trans ?_
        rw [HB.out.cell]; simp [partsO, hx]
      obtain ⟨A, cx, X⟩ := x
      simp only [] at hs h1 h2 c0
      obtain ⟨Y, hY⟩ : ∃ Y, catO (l.take k) = Y := ⟨_, rfl⟩
      rw [hY] at ho h1 h2
      have HO := Lib.hid ho; have HW := Lib.hid hb; have HS := Lib.hid hs; have H1 := Lib.hid h1
      clear ho hb hs h1 hx hY
      go_wp2_with ((with_reducible refine at_op (.call { callee := .builtin .append, args := #[.tmp 11, .tmp 15], argTypes := #[30, 30] }) rfl ?_); refine append_bytes (.tmp 11) (.tmp 15) 30 rfl rfl 5 Tryz.underlying30 byte_info w.heap.size _ Y.length Y X rfl HO.out A X.length cx rfl rfl HS.out (by omega) HW.out.size ?_; intro v2 w2 a1 a2 a3)
      go_roundw
      case rel =>
        refine ⟨k + 1, by omega, by go_num, ?_, HW.out.grown a2.out HW.out.size fun i e => (HO.out.lt i e).1⟩
        rw [H1.out, List.length_append]
        exact a1.out
      case measure => simp [intOf]; omega
    · obtain rfl : k = n := by omega
      rw [List.take_of_length_le (by rw [HN.out]; exact Nat.le_refl _)] at ho
      have HO := Lib.hid ho; have HW := Lib.hid hb
      clear ho hb
      go_wp2_with fail
      go_ret
      exact ⟨_, rfl, HO.out, HW.out⟩
/-- A fresh row, opened. -/
theorem fresh_opO {w w' : World} {v : Value} {l : List Nat} (h : Fresh 5 w w' v l) : ∃ A c, v = .slice A l.length c ∧ l.length ≤ c ∧ Sr w' A l ∧ Below w.heap.size w w' := by
  obtain ⟨A, c, rfl, hc⟩ := own_form h.1
  exact ⟨A, c, rfl, hc, Sr.of_own h.1, h.2⟩
theorem refput_nil (c : Nat) (p : Option Addr) (w : World) : Calls Tryz.prog 72 #[.slice p 0 c] w fun e w' => e = .returned (.slice none 0 0) ∧ w = w' := by
  go_enter Tryz.func72, Tryz.ntmps72
  go_wp2_with fail
  go_ret
  exact ⟨rfl, rfl⟩
/-- The bytes of a row of fields, none of none. -/
theorem refpf_t (n c : Nat) (p : Option Addr) (G : Nat → Fld) (w : World) (hr : Rw w p n G) (h : n = 0 ∨ mayP n G = true) :
    Calls Tryz.prog 72 #[.slice p n c] w fun e w' => ∃ u, e = .returned u ∧ Fresh 5 w w' u (pf n G) := by
  by_cases h0 : n = 0
  · subst h0
    rw [show pf 0 G = [] from if_pos rfl]
    refine (refput_nil c p w).mono ?_
    rintro e w' ⟨rfl, rfl⟩
    exact ⟨_, rfl, nil_own _ _, Below.refl _ _⟩
  · have hm : mayP n G = true := by rcases h with h | h; exact absurd h h0; exact h
    rw [show pf n G = putN n G from if_neg h0]
    refine (refput_t n c p G w hr hm).mono ?_
    rintro e w' ⟨u, rfl, o, b⟩
    exact ⟨u, rfl, o, b⟩
/-- The parts that lie so far. -/
def Six (W : World) (l : List PartO) : Prop := ∀ x, x ∈ l → Sr W x.A x.X
theorem Six.below {W W' : World} {l : List PartO} (h : Six W l) (hb : Below W.heap.size W W') : Six W' l := fun x hx => (h x hx).below hb
theorem Six.snoc {W : World} {l : List PartO} (h : Six W l) {A : Option Addr} {c : Nat} {X : List Nat} (hs : Sr W A X) : Six W (l ++ [⟨A, c, X⟩]) := fun x hx => by
  rcases List.mem_append.1 hx with h1 | h1
  · exact h x h1
  · obtain rfl := List.mem_singleton.1 h1
    exact hs
/-- What number reads. -/
def nmb (v : Nat) (ys : List Nat) (b : Bool) : Nat × List Nat × Bool := if 4611686018427387904 ≤ v then (0, [], true) else (v, ys, b)
/-- What some reads. -/
def smN (ys : List Nat) (b : Bool) : List Nat × List Nat × Bool := if fOK (rTxtM ys b 1000).1 then rTxtM ys b 1000 else ([], [], true)
theorem rNum_none {xs : List Nat} {bad : Bool} {n : Nat} (h : bad = true → xs = []) (hn : 1 ≤ n) : (rNum xs bad n).2.2 = true → (rNum xs bad n).2.1 = [] := by
  unfold rNum
  split
  · intro _; rfl
  · rename_i hx
    intro hb
    have := h hb
    subst this
    exact absurd (show ([] : List Nat).length < n by simp; omega) hx
theorem smN_bad : smN [] true = ([], [], true) := by
  unfold smN
  rw [rTxtM_bad]
  rfl
theorem rTxt_badO (n : Nat) : rTxt [] true n = ([], [], true) := by
  unfold rTxt
  rw [if_neg (by simp)]
theorem endN_bad (ys : List Nat) : endN ys true = 2 := if_pos (.inl rfl)
theorem fOK_long {l : List Nat} (hb : Bytes l) (h : 1000 < l.length) : fOK l = false := by
  cases hq : fOK l with
  | false => rfl
  | true =>
    obtain ⟨e, _⟩ := pf_front hb hq
    have hm : fNr l = 0 ∨ mayP (fNr l) (gotN l) = true := by
      unfold fNr
      cases hg : getOK l with
      | false => exact .inl rfl
      | true => exact .inr (get_back hb hg).2.1
    have := pf_length hm
    rw [← e] at this
    omega
/-- A text that the reference reads is what the program reads, or neither is one of fields. -/
theorem sm_eq (ys : List Nat) (hb : Bytes ys) : (smN ys false = rTxt ys false ys.length ∧ fOK (rTxt ys false ys.length).1 = true) ∨ (smN ys false = ([], [], true) ∧ fOK (rTxt ys false ys.length).1 = false) := by
  have ht := rTxt_textS ys false ys.length hb
  unfold smN
  rw [rTxtM_eq]
  by_cases h : 4 ≤ ys.length ∧ val (ys.take 4) ≤ ys.length ∧ val (ys.take 4) ≤ ys.length - 4
  · have e1 : rTxt ys false ys.length = ((ys.drop 4).take (val (ys.take 4)), (ys.drop 4).drop (val (ys.take 4)), false) := if_pos h
    by_cases h2 : val (ys.take 4) ≤ 1000
    · have e2 : rTxt ys false 1000 = ((ys.drop 4).take (val (ys.take 4)), (ys.drop 4).drop (val (ys.take 4)), false) := if_pos ⟨h.1, h2, h.2.2⟩
      rw [e1, e2]
      cases hq : fOK ((ys.drop 4).take (val (ys.take 4))) with
      | true => exact .inl ⟨if_pos rfl, rfl⟩
      | false => exact .inr ⟨if_neg (by decide), rfl⟩
    · have e2 : rTxt ys false 1000 = ([], [], true) := if_neg (fun q => h2 q.2.1)
      have hl : fOK (rTxt ys false ys.length).1 = false := fOK_long ht (by
        rw [e1]
        show 1000 < ((ys.drop 4).take (val (ys.take 4))).length
        rw [List.length_take, List.length_drop]
        omega)
      rw [e2]
      exact .inr ⟨if_pos rfl, hl⟩
  · have e1 : rTxt ys false ys.length = ([], [], true) := if_neg h
    have e2 : rTxt ys false 1000 = ([], [], true) := if_neg (fun q => h ⟨q.1, by omega, q.2.2⟩)
    rw [e1, e2]
    exact .inl ⟨if_pos rfl, rfl⟩
theorem rTxt_none {ys : List Nat} {n : Nat} : (rTxt ys false n).2.2 = true → rTxt ys false n = ([], [], true) := by
  unfold rTxt
  split
  · intro h; cases h
  · intro _; rfl
/-- The reference's Reader is told that it is wrong. -/
theorem Rr.spoil {w0 w : World} {g : Nat} {xs : List Nat} {bad : Bool} (x : Rr w0 w g xs bad) : Rr w0 ((w.setCell ⟨g, 1, none⟩ (.bool true)).setCell ⟨g, 0, none⟩ (.slice none 0 0)) g [] true ∧ Kept (fun k => k = g) w ((w.setCell ⟨g, 1, none⟩ (.bool true)).setCell ⟨g, 0, none⟩ (.slice none 0 0)) := by
  obtain ⟨A, c, h1, h2, h3⟩ := x.is
  have kk : Kept (fun k => k = g) w ((w.setCell ⟨g, 1, none⟩ (.bool true)).setCell ⟨g, 0, none⟩ (.slice none 0 0)) := Kept.setCell (F := fun k => k = g) (Kept.setCell (F := fun k => k = g) (Kept.refl _ w) (p := ⟨g, 1, none⟩) (.inl rfl) _) (p := ⟨g, 0, none⟩) (.inl rfl) _
  exact ⟨⟨⟨none, 0, (h1.store 1 (.bool true)).store 0 (.slice none 0 0), Nat.le_refl _, Sr.nil⟩, fun _ => rfl, kept_below x.bel kk x.low, x.low⟩, kk⟩
set_option maxRecDepth 100000 in
theorem number_t (g : Nat) (xs : List Nat) (bad : Bool) (w0 w : World) (x : Rr w0 w g xs bad) (hb : Bytes xs) (v : Nat) (ys : List Nat) (b : Bool) (hR : rNum xs bad 8 = (v, ys, b)) :
    Calls Tryz.prog 83 #[.pointer (some ⟨g, 0, none⟩)] w fun e w' => e = .returned (.int .i64 ((nmb v ys b).1 : Nat)) ∧ Rr w0 w' g (nmb v ys b).2.1 (nmb v ys b).2.2 ∧ Kept (fun k => k = g) w w' := by
  have NM := Lib.hid (rrnum_t g xs bad 8 w0 w x hb (by decide) (by decide))
  have hv := (rNum_bytes xs bad 8 hb).2.2
  simp only [hR] at NM hv
  have hv2 : v < 18446744073709551616 := hv
  clear hR x hb hv
  by_cases h : 4611686018427387904 ≤ v
  · rw [show nmb v ys b = (0, [], true) from if_pos h]
    have i1 : (4611686018427387904 : Int) ≤ (v : Int) := by omega
    go_enter Tryz.func83, Tryz.ntmps83
    go_wp2_with fail
    refine NM.out.mono ?_
    rintro e w1 ⟨rfl, x1, k1⟩
    obtain ⟨A, c, hbk, _, _⟩ := x1.is
    have f0 := hbk.frozen 0
    have f1 := hbk.frozen 1
    have c0 : w1.cell? ⟨g, 0, none⟩ = some (.slice A ys.length c) := hbk.cell 0
    have c1 : w1.cell? ⟨g, 1, none⟩ = some (.bool b) := hbk.cell 1
    have X2 := Lib.hid x1.spoil; have K1 := Lib.hid k1
    clear x1 k1 hbk h NM
    go_wp2_with fail
    go_ret
    exact ⟨rfl, X2.out.1, K1.out.trans X2.out.2⟩
  · rw [show nmb v ys b = (v, ys, b) from if_neg h]
    have i1 : decide ((4611686018427387904 : Int) ≤ (v : Int)) = false := decide_eq_false (by omega)
    have i3 : ¬ ((4611686018427387904 : Int) ≤ (v : Int)) := by omega
    have i2 : IntKind.i64.wrap (v : Int) = (v : Int) := IntWalk.i64_in _ (by omega)
    clear h hv2
    go_enter Tryz.func83, Tryz.ntmps83
    go_wp2_with fail
    refine NM.out.mono ?_
    rintro e w1 ⟨rfl, x1, k1⟩
    have X1 := Lib.hid x1; have K1 := Lib.hid k1
    clear x1 k1
    go_wp2_with fail
    go_ret
    exact ⟨rfl, X1.out, K1.out⟩
theorem rTxtM_text (xs : List Nat) (bad : Bool) (n : Nat) (h : Bytes xs) : Bytes (rTxtM xs bad n).1 ∧ (rTxtM xs bad n).1.length ≤ xs.length := by
  have hb := rNum_bytes xs bad 4 h
  unfold rTxtM
  split
  · exact ⟨bytes_take hb.1 _, by rw [List.length_take]; omega⟩
  · exact ⟨nil_bytes, Nat.zero_le _⟩
set_option maxRecDepth 100000 in
theorem some_t (g : Nat) (xs : List Nat) (bad : Bool) (w0 w : World) (x : Rr w0 w g xs bad) (hb : Bytes xs) (hl : xs.length ≤ 1000000) (l ys : List Nat) (b : Bool) (hS : smN xs bad = (l, ys, b)) :
    Calls Tryz.prog 85 #[.pointer (some ⟨g, 0, none⟩)] w fun e w' => (∃ A c, e = .returned (.slice A (fNr l) c) ∧ Rw w' A (fNr l) (gotN l) ∧ NF w' w.heap.size A) ∧ Rr w0 w' g ys b ∧ Kept (fun k => k = g) w w' := by
  have TX := Lib.hid (rrtxt_t g xs bad 1000 w0 w x hb (by decide) (by omega))
  obtain ⟨hb2, hl2⟩ := rTxtM_text xs bad 1000 hb
  unfold smN at hS
  obtain ⟨⟨l2, ys2, b2⟩, hR⟩ : ∃ r, rTxtM xs bad 1000 = r := ⟨_, rfl⟩
  simp only [hR] at TX hb2 hl2 hS
  have HB := Lib.hid hb2; have HS := Lib.hid hS
  obtain ⟨fn, hfn⟩ : ∃ z, fNr l = z := ⟨_, rfl⟩
  obtain ⟨fg, hfg⟩ : ∃ z, gotN l = z := ⟨_, rfl⟩
  rw [hfn, hfg]
  have FN := Lib.hid hfn; have FG := Lib.hid hfg
  clear x hb hR hb2 hS hfn hfg
  go_enter Tryz.func85, Tryz.ntmps85
  go_wp2_with fail
  refine TX.out.mono ?_
  rintro e w1 ⟨⟨A, c, rfl, hcl, s1⟩, x1, k1⟩
  have S1 := Lib.hid s1; have CL := Lib.hid hcl; have X1 := Lib.hid x1; have K1 := Lib.hid k1; have K1s := Lib.hid k1.size
  clear s1 x1 k1 TX hcl
  by_cases h0 : l2.length = 0
  · obtain rfl := List.eq_nil_of_length_eq_zero h0
    have hS := HS.out
    rw [show fOK [] = true from rfl, if_pos rfl] at hS
    simp only [Prod.mk.injEq] at hS
    obtain ⟨rfl, rfl, rfl⟩ := hS
    obtain rfl : 0 = fn := by rw [← FN.out]; unfold fNr; rw [getOK_nil]; rfl
    clear HS FN
    go_wp2_with fail
    go_ret
    exact ⟨⟨none, 0, rfl, Rw.nilS, NF.no _ _⟩, X1.out, K1.out⟩
  · have e1 : ((l2.length : Int) == 0) = false := by rw [beq_eq_false_iff_ne]; omega
    have hi : l2.isEmpty = false := by rw [isEmpty_lenS]; exact decide_eq_false h0
    go_wp2_with fail
    refine (refget_t l2 A l2.length c w1 rfl CL.out S1.out HB.out (by omega)).mono ?_
    rintro e w2 ⟨b2, hh⟩
    have X2 := Lib.hid (X1.out.below b2); have K2 := Lib.hid (K1.out.trans (Kept.of_below b2))
    clear b2 X1 K1 S1 CL
    rcases hh with ⟨hbad, rfl⟩ | ⟨hgood, A2, c', rfl, r2, nf2⟩
    · have hS := HS.out
      have hk : fOK l2 = false := by unfold fOK; rw [hbad, hi]; rfl
      rw [hk, if_neg (by decide)] at hS
      simp only [Prod.mk.injEq] at hS
      obtain ⟨rfl, rfl, rfl⟩ := hS
      obtain rfl : 0 = fn := by rw [← FN.out]; unfold fNr; rw [getOK_nil]; rfl
      obtain ⟨A0, c0, hbk, _, _⟩ := X2.out.is
      have f0 := hbk.frozen 0
      have f1 := hbk.frozen 1
      have c0' : w2.cell? ⟨g, 0, none⟩ = some (.slice A0 ys2.length c0) := hbk.cell 0
      have c1 : w2.cell? ⟨g, 1, none⟩ = some (.bool b2) := hbk.cell 1
      have X3 := Lib.hid X2.out.spoil
      clear HS FN hbk hbad hk X2
      go_wp2_with fail
      go_ret
      exact ⟨⟨none, 0, rfl, Rw.nilS, NF.no _ _⟩, X3.out.1, K2.out.trans X3.out.2⟩
    · have hS := HS.out
      have hk : fOK l2 = true := by unfold fOK; rw [hgood, hi]; rfl
      rw [hk, if_pos rfl] at hS
      simp only [Prod.mk.injEq] at hS
      obtain ⟨rfl, rfl, rfl⟩ := hS
      obtain rfl : cntN l2 = fn := by rw [← FN.out]; unfold fNr; rw [hgood]; rfl
      obtain rfl : gotN l2 = fg := FG.out
      have R2 := Lib.hid r2; have NF2 := Lib.hid (nf2.low (show w.heap.size ≤ w1.heap.size from K1s.out))
      clear HS FN FG r2 nf2 hgood hk
      go_wp2_with fail
      go_ret
      exact ⟨⟨A2, c', rfl, R2.out, NF2.out⟩, X2.out, K2.out⟩
end Go.Proofs.YtphgognhjdbdjaaGreatDoor
namespace Go.Proofs.YtphgognhjdbdjaaGreatDoor
open Go Go.RowKit Sh

/-- What yes reads. -/
def yesN (v : Nat) (ys : List Nat) (b : Bool) : Bool × List Nat × Bool := if 1 < v then (false, [], true) else (decide (v = 1), ys, b)
theorem yes_t (g : Nat) (xs : List Nat) (bad : Bool) (w0 w : World) (x : Rr w0 w g xs bad) (hb : Bytes xs) (v : Nat) (ys : List Nat) (b : Bool) (hR : rNum xs bad 1 = (v, ys, b)) :
    Calls Tryz.prog 86 #[.pointer (some ⟨g, 0, none⟩)] w fun e w' => e = .returned (.bool (yesN v ys b).1) ∧ Rr w0 w' g (yesN v ys b).2.1 (yesN v ys b).2.2 ∧ Kept (fun k => k = g) w w' := by
  have NM := Lib.hid (rrnum_t g xs bad 1 w0 w x hb (by decide) (by decide))
  have hv := (rNum_bytes xs bad 1 hb).2.2
  simp only [hR] at NM hv
  have hv2 : v < 256 := hv
  clear hR x hb hv
  by_cases h : 1 < v
  · rw [show yesN v ys b = (false, [], true) from if_pos h]
    have i1 : (1 : Int) < (v : Int) := by omega
    have i2 : ((v : Int) == 1) = false := by rw [beq_eq_false_iff_ne]; omega
    go_enter Tryz.func86, Tryz.ntmps86
    go_wp2_with fail
    refine NM.out.mono ?_
    rintro e w1 ⟨rfl, x1, k1⟩
    obtain ⟨A, c, hbk, _, _⟩ := x1.is
    have f0 := hbk.frozen 0
    have f1 := hbk.frozen 1
    have c0 : w1.cell? ⟨g, 0, none⟩ = some (.slice A ys.length c) := hbk.cell 0
    have c1 : w1.cell? ⟨g, 1, none⟩ = some (.bool b) := hbk.cell 1
    have X2 := Lib.hid x1.spoil; have K1 := Lib.hid k1
    clear x1 k1 hbk h NM
    go_wp2_with fail
    go_ret
    exact ⟨rfl, X2.out.1, K1.out.trans X2.out.2⟩
  · rw [show yesN v ys b = (decide (v = 1), ys, b) from if_neg h]
    have i1 : decide ((1 : Int) < (v : Int)) = false := decide_eq_false (by omega)
    have i3 : ¬ ((1 : Int) < (v : Int)) := by omega
    obtain ⟨yb, hyb⟩ : ∃ y, decide (v = 1) = y := ⟨_, rfl⟩
    have i4 : ((v : Int) == 1) = yb := by rw [← hyb, Bool.eq_iff_iff, beq_iff_eq, decide_eq_true_iff]; omega
    rw [hyb]
    clear h hv2 hyb
    go_enter Tryz.func86, Tryz.ntmps86
    go_wp2_with fail
    refine NM.out.mono ?_
    rintro e w1 ⟨rfl, x1, k1⟩
    have X1 := Lib.hid x1; have K1 := Lib.hid k1
    clear x1 k1
    go_wp2_with fail
    go_ret
    exact ⟨rfl, X1.out, K1.out⟩
theorem own_oneY (w : World) (k : Int) : (w.alloc (.cells #[.int .u8 k] 5)).ownsRow w.heap.size 5 1 (.slice (some ⟨w.heap.size, 0, none⟩) 1 1) 1 [.int .u8 k] :=
  World.ownsRow_lit w (e := 5) (size := 1) (base := w.heap.size) #[.int .u8 k] 1 (Nat.le_refl _) (by decide) rfl
theorem bit_t (b : Bool) (w : World) :
    Calls Tryz.prog 73 #[.bool b] w fun e w' => ∃ v, e = .returned v ∧ Fresh 5 w w' v [if b then 1 else 0] := by
  go_enter Tryz.func73, Tryz.ntmps73
  cases b with
  | true =>
    go_wp2_with fail
    go_ret
    exact ⟨_, rfl, own_oneY w 1, (Below.refl _ _).alloc (Nat.le_refl _) _⟩
  | false =>
    go_wp2_with fail
    go_ret
    exact ⟨_, rfl, own_oneY w 0, (Below.refl _ _).alloc (Nat.le_refl _) _⟩
end Go.Proofs.YtphgognhjdbdjaaGreatDoor
namespace Go.Proofs.YtphgognhjdbdjaaGreatDoor
open Go Go.RowKit Sh

def deadS : Src := ⟨[], true, false⟩
structure SaGood (s : Src) : Prop where
  b : Bytes s.xs
  ok : s.bad = false
  wr : s.wr = false
def SaGone (s : Src) : Prop := (s.bad = true ∧ s.xs = []) ∨ s.wr = true
theorem src_dead {s : Src} (a : s.xs = []) (b : s.bad = true) (c : s.wr = false) : s = deadS := by
  obtain ⟨x, y, z⟩ := s
  change x = [] at a
  change y = true at b
  change z = false at c
  subst a b c
  rfl
theorem rNum_nil (b : Bool) {n : Nat} (hn : 1 ≤ n) : rNum [] b n = (0, [], true) := if_pos (show 0 < n by omega)
theorem gNum_gone {s : Src} {n : Nat} (hn : 1 ≤ n) (h : SaGone s) : SaGone (gNum s n).2 := by
  rcases h with ⟨_, h2⟩ | h
  · left
    show (rNum s.xs s.bad n).2.2 = true ∧ (rNum s.xs s.bad n).2.1 = []
    rw [h2, rNum_nil _ hn]
    exact ⟨rfl, rfl⟩
  · exact .inr h
theorem gFlag_gone {s : Src} (h : SaGone s) : SaGone (gFlag s).2 := by
  rcases h with ⟨_, h2⟩ | h
  · left
    show (rNum s.xs s.bad 1).2.2 = true ∧ (rNum s.xs s.bad 1).2.1 = []
    rw [h2, rNum_nil _ (Nat.le_refl 1)]
    exact ⟨rfl, rfl⟩
  · right
    show (s.wr || _) = true
    rw [h]
    rfl
theorem gFl_gone {s : Src} (h : SaGone s) : SaGone (gFl s).2 := by
  rcases h with ⟨h1, h2⟩ | h
  · left
    show (rTxt s.xs s.bad s.xs.length).2.2 = true ∧ (rTxt s.xs s.bad s.xs.length).2.1 = []
    rw [h2, h1, rTxt_badO]
    exact ⟨rfl, rfl⟩
  · right
    show (s.wr || _) = true
    rw [h]
    rfl
/-- The reference reads the same and all is well, or it is dead, and the program's is gone or does not fit. -/
def SimR {α : Type} (f : α → Prop) (a b : α × Src) : Prop := (b = a ∧ SaGood a.2) ∨ (b.2 = deadS ∧ (SaGone a.2 ∨ ¬ f a.1))
theorem SimR.bind {α β : Type} {fa : α → Prop} {fb : β → Prop} {a b : α × Src} (H : SimR fa a b) (g h : α × Src → β × Src) (hg : SaGood a.2 → SimR fb (g a) (h a)) (hd : ∀ x, (h (x, deadS)).2 = deadS) (hn : SaGone a.2 → SaGone (g a).2) (hf : ¬ fa a.1 → SaGone (g a).2 ∨ ¬ fb (g a).1) : SimR fb (g a) (h b) := by
  rcases H with ⟨e, g1⟩ | ⟨e, u⟩
  · rw [e]; exact hg g1
  · obtain ⟨b1, b2⟩ := b
    change b2 = deadS at e
    subst e
    refine .inr ⟨hd b1, ?_⟩
    rcases u with u | u
    · exact .inl (hn u)
    · exact hf u
def tt {α : Type} : α → Prop := fun _ => True
theorem simNum (s : Src) {n : Nat} (hn : 1 ≤ n) (h : SaGood s) : SimR tt (gNum s n) (gNum s n) := by
  cases hq : (gNum s n).2.bad with
  | false => exact .inl ⟨rfl, gNum_bytes n h.b, hq, h.wr⟩
  | true =>
    have e : (gNum s n).2.xs = [] := rNum_none (xs := s.xs) (bad := s.bad) (fun hb => by rw [h.ok] at hb; cases hb) hn hq
    exact .inr ⟨src_dead e hq h.wr, .inl (.inl ⟨hq, e⟩)⟩
def gNm (s : Src) : Int × Src := (i64N (gNum s 8).1, (gNum s 8).2)
def hNm (s : Src) : Int × Src := if 4611686018427387904 ≤ (gNum s 8).1 then (0, deadS) else (((gNum s 8).1 : Int), (gNum s 8).2)
def fineN (z : Int) : Prop := 0 ≤ z ∧ z < 4611686018427387904
theorem simNm (s : Src) (h : SaGood s) : SimR fineN (gNm s) (hNm s) := by
  have hv : (gNum s 8).1 < 18446744073709551616 := (rNum_bytes s.xs s.bad 8 h.b).2.2
  unfold gNm hNm
  rcases simNum s (show 1 ≤ 8 by decide) h with ⟨_, g1⟩ | ⟨e, u⟩
  · split
    · rename_i hx
      refine .inr ⟨rfl, .inr fun q => ?_⟩
      obtain ⟨q1, q2⟩ := q
      change 0 ≤ i64N (gNum s 8).1 at q1
      change i64N (gNum s 8).1 < _ at q2
      obtain ⟨v, hv0⟩ : ∃ v, (gNum s 8).1 = v := ⟨_, rfl⟩
      rw [hv0] at q1 q2 hv hx
      unfold i64N at q1 q2
      simp only [IntKind.wrap, IntKind.bits, IntKind.signed] at q1 q2
      simp at q1 q2
      omega
    · rename_i hx
      refine .inl ⟨?_, g1⟩
      rw [show i64N (gNum s 8).1 = ((gNum s 8).1 : Int) from IntWalk.i64_in _ (by omega)]
  · refine .inr ⟨?_, .inl (by rcases u with u | u; exact u; exact absurd trivial u)⟩
    split
    · rfl
    · exact e
def hYes (s : Src) : Bool × Src := if 1 < (gNum s 1).1 then (false, deadS) else (decide ((gNum s 1).1 = 1), (gNum s 1).2)
theorem simYes (s : Src) (h : SaGood s) : SimR tt (gFlag s) (hYes s) := by
  unfold hYes
  rcases simNum s (show 1 ≤ 1 by decide) h with ⟨_, g1⟩ | ⟨e, u⟩
  · split
    · rename_i hx
      exact .inr ⟨rfl, .inl (.inr (by show (s.wr || decide (1 < (gNum s 1).1)) = true; rw [decide_eq_true hx, Bool.or_true]))⟩
    · rename_i hx
      have e : gFlag s = (decide ((gNum s 1).1 = 1), (gNum s 1).2) := by
        have e2 : (s.wr || decide (1 < (gNum s 1).1)) = s.wr := by rw [decide_eq_false hx, Bool.or_false]
        unfold gFlag
        rw [e2]
        rfl
      rw [e]
      exact .inl ⟨rfl, g1⟩
  · refine .inr ⟨?_, .inl ?_⟩
    · split
      · rfl
      · exact e
    · rcases u with u | u
      · rcases u with u | u
        · exact .inl u
        · exact .inr (by show (s.wr || _) = true; rw [show s.wr = true from u]; rfl)
      · exact absurd trivial u
def hSm (s : Src) : List Fld × Src := (fl (fNr (smN s.xs s.bad).1) (gotN (smN s.xs s.bad).1), ⟨(smN s.xs s.bad).2.1, (smN s.xs s.bad).2.2, false⟩)
theorem simSm (s : Src) (h : SaGood s) : SimR tt (gFl s) (hSm s) := by
  obtain ⟨xs, bad, wr⟩ := s
  have hb : Bytes xs := h.b
  have h1 : bad = false := h.ok
  have h2 : wr = false := h.wr
  subst h1 h2
  rcases sm_eq xs hb with ⟨e1, e2⟩ | ⟨e1, e2⟩
  · have e : gFl ⟨xs, false, false⟩ = hSm ⟨xs, false, false⟩ := by
      show (fl (fNr (rTxt xs false xs.length).1) (gotN (rTxt xs false xs.length).1), (⟨(rTxt xs false xs.length).2.1, (rTxt xs false xs.length).2.2, false || !fOK (rTxt xs false xs.length).1⟩ : Src)) = (fl (fNr (smN xs false).1) (gotN (smN xs false).1), ⟨(smN xs false).2.1, (smN xs false).2.2, false⟩)
      rw [e1, e2]
      rfl
    have hby := rTxt_bytes xs false xs.length hb
    rw [e]
    cases hq : (rTxt xs false xs.length).2.2 with
    | false =>
      refine .inl ⟨rfl, ?_, ?_, rfl⟩
      · show Bytes (smN xs false).2.1; rw [e1]; exact hby.1
      · show (smN xs false).2.2 = false; rw [e1]; exact hq
    | true =>
      have e3 := rTxt_none hq
      have e4 : (hSm ⟨xs, false, false⟩).2 = deadS := by
        show (⟨(smN xs false).2.1, (smN xs false).2.2, false⟩ : Src) = deadS
        rw [e1, e3]
        rfl
      exact .inr ⟨e4, .inl (.inl (by rw [e4]; exact ⟨rfl, rfl⟩))⟩
  · refine .inr ⟨?_, .inl (.inr ?_)⟩
    · show (⟨(smN xs false).2.1, (smN xs false).2.2, false⟩ : Src) = deadS
      rw [e1]
      rfl
    · show (false || !fOK (rTxt xs false xs.length).1) = true
      rw [e2]
      rfl
theorem gNum_dead {n : Nat} (hn : 1 ≤ n) : gNum deadS n = (0, deadS) := by
  unfold gNum
  rw [show rNum deadS.xs deadS.bad n = (0, [], true) from rNum_nil _ hn]
  rfl
theorem hNm_dead : hNm deadS = (0, deadS) := by
  unfold hNm
  rw [gNum_dead (by decide)]
  rfl
theorem hYes_dead : hYes deadS = (false, deadS) := by
  unfold hYes
  rw [gNum_dead (by decide)]
  rfl
theorem hSm_dead : (hSm deadS).2 = deadS := by
  show (⟨(smN [] true).2.1, (smN [] true).2.2, false⟩ : Src) = deadS
  rw [smN_bad]
  rfl
def hIt (s : Src) : It × Src :=
  let a := gNum s 1
  let b := hNm a.2
  let c := hSm b.2
  (⟨a.1, b.1, c.1⟩, c.2)
def hWt (s : Src) : Wt × Src :=
  let a := gNum s 1
  let b := gNum a.2 4
  let c := hYes b.2
  let d := hSm c.2
  (⟨a.1, b.1, c.1, d.1⟩, d.2)
def hLa (c : Int) (s : Src) : Rp × Src :=
  let a := gNum s 4
  let b := gNum a.2 1
  let d := hYes b.2
  let e := hSm d.2
  (⟨c, a.1, b.1, e.1, d.1⟩, e.2)
theorem hLa_dead (c : Int) : (hLa c deadS).2 = deadS := by
  show (hSm (hYes (gNum (gNum deadS 4).2 1).2).2).2 = deadS
  rw [gNum_dead (by decide), gNum_dead (by decide), hYes_dead, hSm_dead]
theorem gIt_gone {s : Src} (h : SaGone s) : SaGone (gIt s).2 := gFl_gone (gNum_gone (by decide) (gNum_gone (by decide) h))
theorem gWt_gone {s : Src} (h : SaGone s) : SaGone (gWt s).2 := gFl_gone (gFlag_gone (gNum_gone (by decide) (gNum_gone (by decide) h)))
theorem gLa_gone {c : Int} {s : Src} (h : SaGone s) : SaGone (gLa c s).2 := gFl_gone (gFlag_gone (gNum_gone (by decide) (gNum_gone (by decide) h)))
theorem simIt (s : Src) (h : SaGood s) : SimR (fun i : It => fineN i.un) (gIt s) (hIt s) :=
  (simNum s (show 1 ≤ 1 by decide) h).bind (fun a => ((⟨a.1, (gNm a.2).1, (gFl (gNm a.2).2).1⟩ : It), (gFl (gNm a.2).2).2)) (fun a => ((⟨a.1, (hNm a.2).1, (hSm (hNm a.2).2).1⟩ : It), (hSm (hNm a.2).2).2))
    (fun g1 => (simNm (gNum s 1).2 g1).bind (fun b => ((⟨(gNum s 1).1, b.1, (gFl b.2).1⟩ : It), (gFl b.2).2)) (fun b => ((⟨(gNum s 1).1, b.1, (hSm b.2).1⟩ : It), (hSm b.2).2))
      (fun g2 => (simSm (gNm (gNum s 1).2).2 g2).bind (fun c => ((⟨(gNum s 1).1, (gNm (gNum s 1).2).1, c.1⟩ : It), c.2)) (fun c => ((⟨(gNum s 1).1, (gNm (gNum s 1).2).1, c.1⟩ : It), c.2))
        (fun g3 => .inl ⟨rfl, g3⟩) (fun _ => rfl) id (fun u => absurd trivial u))
      (fun _ => hSm_dead) gFl_gone (fun u => .inr u))
    (fun _ => by show (hSm (hNm deadS).2).2 = deadS; rw [hNm_dead, hSm_dead]) (fun u => gFl_gone (gNum_gone (s := (gNum s 1).2) (n := 8) (by decide) u)) (fun u => absurd trivial u)
theorem simWt (s : Src) (h : SaGood s) : SimR (tt : Wt → Prop) (gWt s) (hWt s) :=
  (simNum s (show 1 ≤ 1 by decide) h).bind (fun a => ((⟨a.1, (gNum a.2 4).1, (gFlag (gNum a.2 4).2).1, (gFl (gFlag (gNum a.2 4).2).2).1⟩ : Wt), (gFl (gFlag (gNum a.2 4).2).2).2)) (fun a => ((⟨a.1, (gNum a.2 4).1, (hYes (gNum a.2 4).2).1, (hSm (hYes (gNum a.2 4).2).2).1⟩ : Wt), (hSm (hYes (gNum a.2 4).2).2).2))
    (fun g1 => (simNum (gNum s 1).2 (show 1 ≤ 4 by decide) g1).bind (fun b => ((⟨(gNum s 1).1, b.1, (gFlag b.2).1, (gFl (gFlag b.2).2).1⟩ : Wt), (gFl (gFlag b.2).2).2)) (fun b => ((⟨(gNum s 1).1, b.1, (hYes b.2).1, (hSm (hYes b.2).2).1⟩ : Wt), (hSm (hYes b.2).2).2))
      (fun g2 => (simYes (gNum (gNum s 1).2 4).2 g2).bind (fun c => ((⟨(gNum s 1).1, (gNum (gNum s 1).2 4).1, c.1, (gFl c.2).1⟩ : Wt), (gFl c.2).2)) (fun c => ((⟨(gNum s 1).1, (gNum (gNum s 1).2 4).1, c.1, (hSm c.2).1⟩ : Wt), (hSm c.2).2))
        (fun g3 => (simSm (gFlag (gNum (gNum s 1).2 4).2).2 g3).bind (fun d => ((⟨(gNum s 1).1, (gNum (gNum s 1).2 4).1, (gFlag (gNum (gNum s 1).2 4).2).1, d.1⟩ : Wt), d.2)) (fun d => ((⟨(gNum s 1).1, (gNum (gNum s 1).2 4).1, (gFlag (gNum (gNum s 1).2 4).2).1, d.1⟩ : Wt), d.2))
          (fun g4 => .inl ⟨rfl, g4⟩) (fun _ => rfl) id (fun u => absurd trivial u))
        (fun _ => hSm_dead) gFl_gone (fun u => absurd trivial u))
      (fun _ => by show (hSm (hYes deadS).2).2 = deadS; rw [hYes_dead, hSm_dead]) (fun u => gFl_gone (gFlag_gone u)) (fun u => absurd trivial u))
    (fun _ => by show (hSm (hYes (gNum deadS 4).2).2).2 = deadS; rw [gNum_dead (by decide), hYes_dead, hSm_dead]) (fun u => gFl_gone (gFlag_gone (gNum_gone (by decide) u))) (fun u => absurd trivial u)
theorem simLa (z : Int) (s : Src) (h : SaGood s) : SimR (tt : Rp → Prop) (gLa z s) (hLa z s) :=
  (simNum s (show 1 ≤ 4 by decide) h).bind (fun a => ((⟨z, a.1, (gNum a.2 1).1, (gFl (gFlag (gNum a.2 1).2).2).1, (gFlag (gNum a.2 1).2).1⟩ : Rp), (gFl (gFlag (gNum a.2 1).2).2).2)) (fun a => ((⟨z, a.1, (gNum a.2 1).1, (hSm (hYes (gNum a.2 1).2).2).1, (hYes (gNum a.2 1).2).1⟩ : Rp), (hSm (hYes (gNum a.2 1).2).2).2))
    (fun g1 => (simNum (gNum s 4).2 (show 1 ≤ 1 by decide) g1).bind (fun b => ((⟨z, (gNum s 4).1, b.1, (gFl (gFlag b.2).2).1, (gFlag b.2).1⟩ : Rp), (gFl (gFlag b.2).2).2)) (fun b => ((⟨z, (gNum s 4).1, b.1, (hSm (hYes b.2).2).1, (hYes b.2).1⟩ : Rp), (hSm (hYes b.2).2).2))
      (fun g2 => (simYes (gNum (gNum s 4).2 1).2 g2).bind (fun c => ((⟨z, (gNum s 4).1, (gNum (gNum s 4).2 1).1, (gFl c.2).1, c.1⟩ : Rp), (gFl c.2).2)) (fun c => ((⟨z, (gNum s 4).1, (gNum (gNum s 4).2 1).1, (hSm c.2).1, c.1⟩ : Rp), (hSm c.2).2))
        (fun g3 => (simSm (gFlag (gNum (gNum s 4).2 1).2).2 g3).bind (fun d => ((⟨z, (gNum s 4).1, (gNum (gNum s 4).2 1).1, d.1, (gFlag (gNum (gNum s 4).2 1).2).1⟩ : Rp), d.2)) (fun d => ((⟨z, (gNum s 4).1, (gNum (gNum s 4).2 1).1, d.1, (gFlag (gNum (gNum s 4).2 1).2).1⟩ : Rp), d.2))
          (fun g4 => .inl ⟨rfl, g4⟩) (fun _ => rfl) id (fun u => absurd trivial u))
        (fun _ => hSm_dead) gFl_gone (fun u => absurd trivial u))
      (fun _ => by show (hSm (hYes deadS).2).2 = deadS; rw [hYes_dead, hSm_dead]) (fun u => gFl_gone (gFlag_gone u)) (fun u => absurd trivial u))
    (fun _ => by show (hSm (hYes (gNum deadS 1).2).2).2 = deadS; rw [gNum_dead (by decide), hYes_dead, hSm_dead]) (fun u => gFl_gone (gFlag_gone (gNum_gone (by decide) u))) (fun u => absurd trivial u)
/-- So many, one behind the other, as long as nothing is wrong. -/
def hRow {α : Type} (h : Src → α × Src) (s : Src) : Nat → List α × Src
  | 0 => ([], s)
  | k + 1 => if (hRow h s k).2.bad then hRow h s k else ((hRow h s k).1 ++ [(h (hRow h s k).2).1], (h (hRow h s k).2).2)
theorem hRow_dead {α : Type} (h : Src → α × Src) : ∀ k, hRow h deadS k = ([], deadS)
  | 0 => rfl
  | k + 1 => by
    unfold hRow
    rw [hRow_dead h k]
    rfl
theorem simRow {α : Type} {f : α → Prop} {g h : Src → α × Src} (H : ∀ s, SaGood s → SimR f (g s) (h s)) (hn : ∀ s, SaGone s → SaGone (g s).2) (s : Src) (hs : SaGood s) : ∀ k, SimR (fun l : List α => ∀ x ∈ l, f x) (gRow g s k) (hRow h s k)
  | 0 => .inl ⟨rfl, hs⟩
  | k + 1 => by
    have hg : gRow g s (k + 1) = ((gRow g s k).1 ++ [(g (gRow g s k).2).1], (g (gRow g s k).2).2) := rfl
    have hh : hRow h s (k + 1) = if (hRow h s k).2.bad then hRow h s k else ((hRow h s k).1 ++ [(h (hRow h s k).2).1], (h (hRow h s k).2).2) := rfl
    rw [hg, hh]
    rcases simRow H hn s hs k with ⟨e, gd⟩ | ⟨e, u⟩
    · rw [e, if_neg (by rw [gd.ok]; decide)]
      rcases H _ gd with ⟨e2, gd2⟩ | ⟨e2, u2⟩
      · rw [e2]; exact .inl ⟨rfl, gd2⟩
      · refine .inr ⟨e2, ?_⟩
        rcases u2 with u2 | u2
        · exact .inl u2
        · exact .inr fun q => u2 (q _ (List.mem_append.2 (.inr (List.mem_singleton.2 rfl))))
    · rw [if_pos (by rw [e]; rfl)]
      refine .inr ⟨e, ?_⟩
      rcases u with u | u
      · exact .inl (hn _ u)
      · exact .inr fun q => u fun x hx => q x (List.mem_append.2 (.inl hx))
theorem gRow_gone {α : Type} {g : Src → α × Src} (hn : ∀ s, SaGone s → SaGone (g s).2) {s : Src} (h : SaGone s) : ∀ k, SaGone (gRow g s k).2
  | 0 => h
  | k + 1 => hn _ (gRow_gone hn h k)
def hLas (s : Src) : Nat → List Rp × Src
  | 0 => ([], s)
  | j + 1 => ((hLas s j).1 ++ [(hLa (j : Int) (hLas s j).2).1], (hLa (j : Int) (hLas s j).2).2)
theorem hLas_dead : ∀ k, (hLas deadS k).2 = deadS
  | 0 => rfl
  | k + 1 => by
    show (hLa (k : Int) (hLas deadS k).2).2 = deadS
    rw [hLas_dead k]
    exact hLa_dead _
theorem gLas_gone {s : Src} (h : SaGone s) : ∀ k, SaGone (gLas s k).2
  | 0 => h
  | k + 1 => by
    have := gLa_gone (c := (k : Int)) (gLas_gone h k)
    exact this
theorem simLas (s : Src) (hs : SaGood s) : ∀ k, SimR (tt : List Rp → Prop) (gLas s k) (hLas s k)
  | 0 => .inl ⟨rfl, hs⟩
  | k + 1 => by
    have hg : gLas s (k + 1) = ((gLas s k).1 ++ [(gLa (k : Int) (gLas s k).2).1], (gLa (k : Int) (gLas s k).2).2) := rfl
    have hh : hLas s (k + 1) = ((hLas s k).1 ++ [(hLa (k : Int) (hLas s k).2).1], (hLa (k : Int) (hLas s k).2).2) := rfl
    rw [hg, hh]
    rcases simLas s hs k with ⟨e, gd⟩ | ⟨e, u⟩
    · rw [e]
      rcases simLa k _ gd with ⟨e2, gd2⟩ | ⟨e2, u2⟩
      · rw [e2]; exact .inl ⟨rfl, gd2⟩
      · exact .inr ⟨e2, by rcases u2 with u2 | u2; exact .inl u2; exact absurd trivial u2⟩
    · refine .inr ⟨?_, ?_⟩
      · show (hLa (k : Int) (hLas s k).2).2 = deadS
        rw [e]; exact hLa_dead _
      · rcases u with u | u
        · refine .inl ?_
          have := gLa_gone (c := (k : Int)) u
          exact this
        · exact absurd trivial u
def hS1 (xs : List Nat) := hNm (sSrc xs)
def hS2 (xs : List Nat) := gNum (hS1 xs).2 1
def hS3 (xs : List Nat) := gNum (hS2 xs).2 1
def hS4 (xs : List Nat) := gNum (hS3 xs).2 1
def hS5 (xs : List Nat) := hRow hIt (hS4 xs).2 (hS4 xs).1
def hS6 (xs : List Nat) := gNum (hS5 xs).2 1
def hS7 (xs : List Nat) := hRow hWt (hS6 xs).2 (hS6 xs).1
def hS8 (xs : List Nat) := hLas (hS7 xs).2 4
def gotH (xs : List Nat) : Sp := ⟨(hS1 xs).1, (hS5 xs).1, (hS7 xs).1, (hS2 xs).1, (hS3 xs).1, (hS8 xs).1⟩
def okH (xs : List Nat) : Bool := decide (endN (hS8 xs).2.xs (hS8 xs).2.bad = 0) && spMay (gotH xs)
theorem okH_eq (xs : List Nat) (hb : Bytes xs) : okH xs = okS xs ∧ (okS xs = true → gotH xs = gotS xs) := by
  have d8 : (hS7 xs).2 = deadS → (hS8 xs).2 = deadS := fun e => by unfold hS8; rw [e]; exact hLas_dead 4
  have d7 : (hS6 xs).2 = deadS → (hS8 xs).2 = deadS := fun e => d8 (by unfold hS7; rw [e, hRow_dead])
  have d6 : (hS5 xs).2 = deadS → (hS8 xs).2 = deadS := fun e => d7 (by unfold hS6; rw [e, gNum_dead (by decide)])
  have d5 : (hS4 xs).2 = deadS → (hS8 xs).2 = deadS := fun e => d6 (by unfold hS5; rw [e, hRow_dead])
  have d4 : (hS3 xs).2 = deadS → (hS8 xs).2 = deadS := fun e => d5 (by unfold hS4; rw [e, gNum_dead (by decide)])
  have d3 : (hS2 xs).2 = deadS → (hS8 xs).2 = deadS := fun e => d4 (by unfold hS3; rw [e, gNum_dead (by decide)])
  have d2 : (hS1 xs).2 = deadS → (hS8 xs).2 = deadS := fun e => d3 (by unfold hS2; rw [e, gNum_dead (by decide)])
  have n8 : SaGone (tS8 xs).2 → okS xs = false := fun h => by
    have e : endS (tS8 xs).2 = 2 := by
      unfold endS
      rcases h with ⟨h1, h2⟩ | h
      · rw [h1, endN_bad]; split <;> rfl
      · rw [h]; rfl
    unfold okS
    rw [e]
    rfl
  have n7 : SaGone (tS7 xs).2 → okS xs = false := fun h => n8 (by unfold tS8; exact gLas_gone h 4)
  have n6 : SaGone (tS6 xs).2 → okS xs = false := fun h => n7 (by unfold tS7; exact gRow_gone (fun _ => gWt_gone) h _)
  have n5 : SaGone (tS5 xs).2 → okS xs = false := fun h => n6 (by unfold tS6; exact gNum_gone (by decide) h)
  have n4 : SaGone (tS4 xs).2 → okS xs = false := fun h => n5 (by unfold tS5; exact gRow_gone (fun _ => gIt_gone) h _)
  have n3 : SaGone (tS3 xs).2 → okS xs = false := fun h => n4 (by unfold tS4; exact gNum_gone (by decide) h)
  have n2 : SaGone (tS2 xs).2 → okS xs = false := fun h => n3 (by unfold tS3; exact gNum_gone (by decide) h)
  have n1 : SaGone (tS1 xs).2 → okS xs = false := fun h => n2 (by unfold tS2; exact gNum_gone (by decide) h)
  have no : (hS8 xs).2 = deadS → okS xs = false → okH xs = okS xs ∧ (okS xs = true → gotH xs = gotS xs) := fun h1 h2 => ⟨by
    rw [h2]
    unfold okH
    rw [h1, show endN deadS.xs deadS.bad = 2 from endN_bad _]
    rfl, fun h => by rw [h2] at h; cases h⟩
  have may : okS xs = true → MayW (gotS xs) := fun h => by
    unfold okS at h
    simp only [Bool.and_eq_true] at h
    exact spMay_w h.2
  have nt : ∀ {P : Prop}, (okS xs = true → P) → ¬ P → okS xs = false := fun {P} h1 h2 => by
    cases hq : okS xs with
    | false => rfl
    | true => exact absurd (h1 hq) h2
  rcases simNm (sSrc xs) ⟨hb, rfl, rfl⟩ with ⟨e1, g1⟩ | ⟨e1, u⟩
  rotate_left 1
  · refine no (d2 e1) ?_
    rcases u with u | u
    · exact n1 u
    · exact nt (fun h => ⟨(may h).n0, Int.lt_of_le_of_lt (may h).n1 (by decide)⟩) u
  have E1 : hS1 xs = (i64N (tS1 xs).1, (tS1 xs).2) := e1
  have g1 : SaGood (tS1 xs).2 := g1
  have E2 : hS2 xs = tS2 xs := by unfold hS2; rw [E1]; rfl
  rcases simNum (tS1 xs).2 (show 1 ≤ 1 by decide) g1 with ⟨_, g2⟩ | ⟨e2, u⟩
  rotate_left 1
  · refine no (d3 (by rw [E2]; exact e2)) ?_
    rcases u with u | u
    · exact n2 u
    · exact absurd trivial u
  have E3 : hS3 xs = tS3 xs := by unfold hS3; rw [E2]; rfl
  rcases simNum (tS2 xs).2 (show 1 ≤ 1 by decide) g2 with ⟨_, g3⟩ | ⟨e2, u⟩
  rotate_left 1
  · refine no (d4 (by rw [E3]; exact e2)) ?_
    rcases u with u | u
    · exact n3 u
    · exact absurd trivial u
  have E4 : hS4 xs = tS4 xs := by unfold hS4; rw [E3]; rfl
  rcases simNum (tS3 xs).2 (show 1 ≤ 1 by decide) g3 with ⟨_, g4⟩ | ⟨e2, u⟩
  rotate_left 1
  · refine no (d5 (by rw [E4]; exact e2)) ?_
    rcases u with u | u
    · exact n4 u
    · exact absurd trivial u
  rcases simRow simIt (fun _ => gIt_gone) (tS4 xs).2 g4 (tS4 xs).1 with ⟨e5, g5⟩ | ⟨e5, u⟩
  rotate_left 1
  · refine no (d6 (by unfold hS5; rw [E4]; exact e5)) ?_
    rcases u with u | u
    · exact n5 u
    · refine nt (fun h => ?_) u
      intro x hx
      have hm := may h
      obtain ⟨_, _, q1, q2, _⟩ := itB_h9 (hm.it x hx) hm.n0
      exact ⟨q1, Int.lt_of_le_of_lt q2 (by decide)⟩
  have E5 : hS5 xs = tS5 xs := by unfold hS5; rw [E4]; exact e5
  have g5 : SaGood (tS5 xs).2 := g5
  have E6 : hS6 xs = tS6 xs := by unfold hS6; rw [E5]; rfl
  rcases simNum (tS5 xs).2 (show 1 ≤ 1 by decide) g5 with ⟨_, g6⟩ | ⟨e2, u⟩
  rotate_left 1
  · refine no (d7 (by rw [E6]; exact e2)) ?_
    rcases u with u | u
    · exact n6 u
    · exact absurd trivial u
  rcases simRow simWt (fun _ => gWt_gone) (tS6 xs).2 g6 (tS6 xs).1 with ⟨e7, g7⟩ | ⟨e7, u⟩
  rotate_left 1
  · refine no (d8 (by unfold hS7; rw [E6]; exact e7)) ?_
    rcases u with u | u
    · exact n7 u
    · exact absurd (fun _ _ => trivial) u
  have E7 : hS7 xs = tS7 xs := by unfold hS7; rw [E6]; exact e7
  have g7 : SaGood (tS7 xs).2 := g7
  rcases simLas (tS7 xs).2 g7 4 with ⟨e8, g8⟩ | ⟨e8, u⟩
  rotate_left 1
  · refine no (by unfold hS8; rw [E7]; exact e8) ?_
    rcases u with u | u
    · exact n8 u
    · exact absurd trivial u
  have E8 : hS8 xs = tS8 xs := by unfold hS8; rw [E7]; exact e8
  have g8 : SaGood (tS8 xs).2 := g8
  have hg : gotH xs = gotS xs := by
    unfold gotH gotS
    rw [E1, E2, E3, E5, E7, E8]
  refine ⟨?_, fun _ => hg⟩
  have he : endS (tS8 xs).2 = endN (tS8 xs).2.xs (tS8 xs).2.bad := by
    unfold endS
    rw [if_neg (by rw [g8.wr]; decide)]
  unfold okH okS
  rw [hg, E8, he]
end Go.Proofs.YtphgognhjdbdjaaGreatDoor
namespace Go.Proofs.YtphgognhjdbdjaaGreatDoor
open Go Go.RowKit Sh

/-- A write into a block of another type. -/
theorem YS.keptT {B g : Nat} {W W' : World} {x : Spv} {t : TypeId} {cs : List Value} (h : YS B W x) (hk : Kept (fun k => k = g) W W') (hg : Blk W g t cs) (h1 : 172 ≠ t) (h2 : 91 ≠ t) (h3 : 93 ≠ t) : YS B W' x := by
  have nf : ∀ {p : Option Addr}, NF W B p → ∀ a : Addr, p = some a → ¬ a.block = g := fun n a ha e => n.apart hg h1 a ha e
  exact ⟨own_kept h.its hk (fun k hk' e => own_apart h.its hg h2 (by rw [hk', e])), fun y hy => ⟨(h.it y hy).1.keptS hk (nf (h.it y hy).2), (h.it y hy).2.kept hk (nf (h.it y hy).2)⟩, own_kept h.wts hk (fun k hk' e => own_apart h.wts hg h3 (by rw [hk', e])), fun y hy => ⟨(h.wt y hy).1.keptS hk (nf (h.wt y hy).2), (h.wt y hy).2.kept hk (nf (h.wt y hy).2)⟩, h.l4, fun y hy => ⟨(h.la y hy).1.keptS hk (nf (h.la y hy).2), (h.la y hy).2.kept hk (nf (h.la y hy).2)⟩, h.n, h.m⟩
/-- Where GetSpace stands: the Reader in block g, the space in block gx. -/
structure GP9 (w0 W : World) (g gx : Nat) (zs : List Nat) (bad : Bool) (x : Spv) : Prop where
  rd : Rr w0 W g zs bad
  res : Blk W w0.heap.size 29 (sv (gsp 0 0 0))
  bx : Blk W gx 29 (sv x)
  nr : w0.heap.size < gx
  ng : w0.heap.size < g
  ys : YS w0.heap.size W x
section
variable {w0 W W' : World} {g gx g3 : Nat} {zs zs' : List Nat} {bad bad' : Bool} {x x' : Spv}
theorem Rr.blk (h : Rr w0 W g zs bad) : ∃ cs, Blk W g 126 cs := by
  obtain ⟨A, c, h1, _, _⟩ := h.is
  exact ⟨_, h1⟩
theorem GP9.read (h : GP9 w0 W g gx zs bad x) (hk : Kept (fun k => k = g) W W') (hr : Rr w0 W' g zs' bad') : GP9 w0 W' g gx zs' bad' x := by
  obtain ⟨cs, hg⟩ := h.rd.blk
  have hn := h.ng
  exact ⟨hr, h.res.kept hk (by omega), h.bx.kept hk (h.bx.apart hg (by decide)), h.nr, h.ng, h.ys.keptT hk hg (by decide) (by decide) (by decide)⟩
theorem GP9.below (h : GP9 w0 W g gx zs bad x) (hb : Below W.heap.size W W') : GP9 w0 W' g gx zs bad x :=
  ⟨h.rd.below hb, h.res.below hb h.res.lt, h.bx.below hb h.bx.lt, h.nr, h.ng, h.ys.below hb⟩
/-- The space is written. -/
theorem GP9.put (h : GP9 w0 W g gx zs bad x) (hk : Kept (fun k => k = gx) W W') (hb : Blk W' gx 29 (sv x')) (y : YS w0.heap.size W x') : GP9 w0 W' g gx zs bad x' := by
  obtain ⟨cs, hg⟩ := h.rd.blk
  have hn := h.nr
  exact ⟨h.rd.off hk (fun e => h.bx.apart hg (by decide) e.symm) (by omega), h.res.kept hk (by omega), hb, h.nr, h.ng, y.kept hk h.bx⟩
/-- A write into a new block of another type. -/
theorem GP9.off {t : TypeId} {cs : List Value} (h : GP9 w0 W g gx zs bad x) (hk : Kept (fun k => k = g3) W W') (hb : Blk W g3 t cs) (hl : w0.heap.size < g3) (h1 : 172 ≠ t) (h2 : 91 ≠ t) (h3 : 93 ≠ t) (h4 : 29 ≠ t) (h5 : 126 ≠ t) : GP9 w0 W' g gx zs bad x := by
  obtain ⟨ds, hg⟩ := h.rd.blk
  exact ⟨h.rd.off hk (hg.apart hb h5) (by omega), h.res.kept hk (by omega), h.bx.kept hk (h.bx.apart hb h4), h.nr, h.ng, h.ys.keptT hk hb h1 h2 h3⟩
end
theorem Rr.offF {w0 W W' : World} {g : Nat} {zs : List Nat} {bad : Bool} {F : Nat → Prop} (h : Rr w0 W g zs bad) (hk : Kept F W W') (hg : ¬ F g) (hl : ∀ k, F k → w0.heap.size ≤ k) : Rr w0 W' g zs bad := by
  obtain ⟨A, c, h1, h2, h3⟩ := h.is
  exact ⟨⟨A, c, h1.kept hk hg, h2, h3⟩, h.none_, h.bel.trans ((hk.mono hl).to_below h.bel.size), h.low⟩
/-- The element under way, in the block g3; its row of fields yt at yp. -/
structure GE9 (w0 W : World) (t : TypeId) (g gx g3 : Nat) (zs : List Nat) (bad : Bool) (x : Spv) (cs : List Value) (yp : Option Addr) (yt : List Fld) : Prop where
  gp : GP9 w0 W g gx zs bad x
  el : Blk W g3 t cs
  lo : w0.heap.size < g3
  io : ∀ k, (Value.slice x.ip x.its.length x.ic).ownBlock = some k → k ≠ g3
  wo : ∀ k, (Value.slice x.wp x.wts.length x.wc).ownBlock = some k → k ≠ g3
  ng : g ≠ g3
  nx : gx ≠ g3
  tr : TR W yp yt
  nf : NF W w0.heap.size yp
section
variable {w0 W W' : World} {t : TypeId} {g gx g3 : Nat} {zs zs' : List Nat} {bad bad' : Bool} {x x' : Spv} {cs cs' : List Value} {yp : Option Addr} {yt : List Fld}
theorem GE9.new (h : GP9 w0 W g gx zs bad x) (t : TypeId) (cs : List Value) : GE9 w0 (W.alloc (.cells cs.toArray t)) t g gx W.heap.size zs bad x cs none [] := by
  have bz : Below W.heap.size W (W.alloc (.cells cs.toArray t)) := (Below.refl _ _).alloc (Nat.le_refl _) _
  have h1 := h.rd.lt; have h2 := h.bx.lt; have h3 := h.nr
  exact ⟨h.below bz, Blk.new W t cs, by omega, fun k e => by have := (h.ys.its.lt k e).2; omega, fun k e => by have := (h.ys.wts.lt k e).2; omega, by omega, by omega, ⟨fun j hj => absurd hj (Nat.not_lt_zero j), Nat.zero_le _⟩, NF.no _ _⟩
theorem GE9.read (h : GE9 w0 W t g gx g3 zs bad x cs yp yt) (hk : Kept (fun k => k = g) W W') (hr : Rr w0 W' g zs' bad') : GE9 w0 W' t g gx g3 zs' bad' x cs yp yt := by
  obtain ⟨ds, hg⟩ := h.gp.rd.blk
  have nf : ∀ a : Addr, yp = some a → ¬ a.block = g := fun a ha e => h.nf.apart hg (by decide) a ha e
  exact ⟨h.gp.read hk hr, h.el.kept hk (fun e => h.ng e.symm), h.lo, h.io, h.wo, h.ng, h.nx, h.tr.keptS hk nf, h.nf.kept hk nf⟩
theorem GE9.below (h : GE9 w0 W t g gx g3 zs bad x cs yp yt) (hb : Below W.heap.size W W') : GE9 w0 W' t g gx g3 zs bad x cs yp yt :=
  ⟨h.gp.below hb, h.el.below hb h.el.lt, h.lo, h.io, h.wo, h.ng, h.nx, h.tr.below hb, h.nf.below hb⟩
/-- The element is written to. -/
theorem GE9.store (h : GE9 w0 W t g gx g3 zs bad x cs yp yt) (hk : Kept (fun k => k = g3) W W') (hb : Blk W' g3 t cs') (hf : 172 ≠ t) : GE9 w0 W' t g gx g3 zs bad x cs' yp yt := by
  have hl := h.lo
  have nfg : ∀ {p : Option Addr}, NF W w0.heap.size p → ∀ a : Addr, p = some a → ¬ a.block = g3 := fun n a ha e => n.apart h.el hf a ha e
  have y := h.gp.ys
  refine ⟨⟨h.gp.rd.off hk h.ng (by omega), h.gp.res.kept hk (by omega), h.gp.bx.kept hk h.nx, h.gp.nr, h.gp.ng, ?_⟩, hb, h.lo, h.io, h.wo, h.ng, h.nx, h.tr.keptS hk (nfg h.nf), h.nf.kept hk (nfg h.nf)⟩
  exact ⟨own_kept y.its hk (fun k e q => h.io k e q), fun z hz => ⟨(y.it z hz).1.keptS hk (nfg (y.it z hz).2), (y.it z hz).2.kept hk (nfg (y.it z hz).2)⟩, own_kept y.wts hk (fun k e q => h.wo k e q), fun z hz => ⟨(y.wt z hz).1.keptS hk (nfg (y.wt z hz).2), (y.wt z hz).2.kept hk (nfg (y.wt z hz).2)⟩, y.l4, fun z hz => ⟨(y.la z hz).1.keptS hk (nfg (y.la z hz).2), (y.la z hz).2.kept hk (nfg (y.la z hz).2)⟩, y.n, y.m⟩
theorem GE9.row (h : GE9 w0 W t g gx g3 zs bad x cs yp yt) {yp' : Option Addr} {yt' : List Fld} (ht : TR W yp' yt') (hn : NF W w0.heap.size yp') : GE9 w0 W t g gx g3 zs bad x cs yp' yt' :=
  ⟨h.gp, h.el, h.lo, h.io, h.wo, h.ng, h.nx, ht, hn⟩
/-- A row has grown: what else is there stays. -/
theorem GE9.grow (h : GE9 w0 W t g gx g3 zs bad x cs yp yt) {o : Option Nat} (hr : W.grownBy W' o) (hge : ∀ k, o = some k → w0.heap.size < k) (h1 : o ≠ some g) (h2 : o ≠ some gx) (hnf : ∀ p, NF W w0.heap.size p → ∀ a : Addr, p = some a → o ≠ some a.block) :
    Rr w0 W' g zs bad ∧ Blk W' w0.heap.size 29 (sv (gsp 0 0 0)) ∧ Blk W' gx 29 (sv x) ∧ (∀ p l, TR W p l → NF W w0.heap.size p → TR W' p l ∧ NF W' w0.heap.size p) := by
  have k : Kept (fun k => o = some k) W W' := (Kept.refl _ W).grown hr (fun k e => .inl e)
  refine ⟨h.gp.rd.offF k h1 (fun i e => Nat.le_of_lt (hge i e)), h.gp.res.kept k (fun e => by have := hge _ e; omega), h.gp.bx.kept k h2, fun p l ht hn => ⟨ht.keptS k (hnf p hn), hn.kept k (hnf p hn)⟩⟩
theorem GE9.growI {y : Itv} {ip' : Option Addr} {ic' : Nat} (h : GE9 w0 W 91 g gx g3 zs bad x cs y.p y.i.t) (ho : W'.ownsRow w0.heap.size 91 3 (.slice ip' (x.its.length + 1) ic') (x.its.length + 1) (x.its.flatMap iv ++ [y].flatMap iv)) (hr : W.grownBy W' (Value.slice x.ip x.its.length x.ic).ownBlock) (hl : x.its.length + 1 ≤ 1000000) :
    Blk W' gx 29 (sv x) ∧ GP9 w0 (W'.setCell ⟨gx, 1, none⟩ (.slice ip' (x.its.length + 1) ic')) g gx zs bad { x with its := x.its ++ [y], ip := ip', ic := ic' } := by
  obtain ⟨ds, hg⟩ := h.gp.rd.blk
  have y9 := h.gp.ys
  obtain ⟨r1, r2, r3, r4⟩ := h.grow hr (fun k e => by have h1 := (y9.its.lt k e).1; rcases Nat.lt_or_eq_of_le h1 with q | q; exact q; subst q; exact absurd e (own_apart y9.its h.gp.res (by decide))) (own_apart y9.its hg (by decide)) (own_apart y9.its h.gp.bx (by decide)) (fun p hn a ha e => by
    obtain ⟨bs, hbs⟩ := hn.ty a ha
    exact own_apart y9.its hbs (by decide) e)
  refine ⟨r3, ?_⟩
  have hk : Kept (fun k => k = gx) W' (W'.setCell ⟨gx, 1, none⟩ (.slice ip' (x.its.length + 1) ic')) := Kept.setCell (F := fun k => k = gx) (Kept.refl _ _) (p := ⟨gx, 1, none⟩) (.inl rfl) _
  have hn := h.gp.nr
  obtain ⟨ds2, hg2⟩ := r1.blk
  refine ⟨r1.off hk (fun e => r3.apart hg2 (by decide) e.symm) (by omega), r2.kept hk (by omega), ?_, h.gp.nr, h.gp.ng, ?_⟩
  · have := r3.store 1 (.slice ip' (x.its.length + 1) ic')
    rw [show sv { x with its := x.its ++ [y], ip := ip', ic := ic' } = (sv x).set 1 (.slice ip' (x.its.length + 1) ic') by simp [sv]]
    exact this
  · refine YS.kept (g := gx) (W := W') ?_ hk r3
    refine ⟨by rw [show (x.its ++ [y]).length = x.its.length + 1 by simp, List.flatMap_append]; exact ho, fun z hz => ?_, own_grown y9.wts y9.its hr (by decide), fun z hz => r4 _ _ (y9.wt z hz).1 (y9.wt z hz).2, y9.l4, fun z hz => r4 _ _ (y9.la z hz).1 (y9.la z hz).2, by show (x.its ++ [y]).length ≤ _; simpa using hl, y9.m⟩
    rcases List.mem_append.1 hz with hz | hz
    · exact r4 _ _ (y9.it z hz).1 (y9.it z hz).2
    · rw [List.mem_singleton.1 hz]; exact r4 _ _ h.tr h.nf
theorem GE9.growW {y : Wtv} {ip' : Option Addr} {ic' : Nat} (h : GE9 w0 W 93 g gx g3 zs bad x cs y.p y.x.p) (ho : W'.ownsRow w0.heap.size 93 4 (.slice ip' (x.wts.length + 1) ic') (x.wts.length + 1) (x.wts.flatMap wv ++ [y].flatMap wv)) (hr : W.grownBy W' (Value.slice x.wp x.wts.length x.wc).ownBlock) (hl : x.wts.length + 1 ≤ 1000000) :
    Blk W' gx 29 (sv x) ∧ GP9 w0 (W'.setCell ⟨gx, 2, none⟩ (.slice ip' (x.wts.length + 1) ic')) g gx zs bad { x with wts := x.wts ++ [y], wp := ip', wc := ic' } := by
  obtain ⟨ds, hg⟩ := h.gp.rd.blk
  have y9 := h.gp.ys
  obtain ⟨r1, r2, r3, r4⟩ := h.grow hr (fun k e => by have h1 := (y9.wts.lt k e).1; rcases Nat.lt_or_eq_of_le h1 with q | q; exact q; subst q; exact absurd e (own_apart y9.wts h.gp.res (by decide))) (own_apart y9.wts hg (by decide)) (own_apart y9.wts h.gp.bx (by decide)) (fun p hn a ha e => by
    obtain ⟨bs, hbs⟩ := hn.ty a ha
    exact own_apart y9.wts hbs (by decide) e)
  refine ⟨r3, ?_⟩
  have hk : Kept (fun k => k = gx) W' (W'.setCell ⟨gx, 2, none⟩ (.slice ip' (x.wts.length + 1) ic')) := Kept.setCell (F := fun k => k = gx) (Kept.refl _ _) (p := ⟨gx, 2, none⟩) (.inl rfl) _
  have hn := h.gp.nr
  obtain ⟨ds2, hg2⟩ := r1.blk
  refine ⟨r1.off hk (fun e => r3.apart hg2 (by decide) e.symm) (by omega), r2.kept hk (by omega), ?_, h.gp.nr, h.gp.ng, ?_⟩
  · have := r3.store 2 (.slice ip' (x.wts.length + 1) ic')
    rw [show sv { x with wts := x.wts ++ [y], wp := ip', wc := ic' } = (sv x).set 2 (.slice ip' (x.wts.length + 1) ic') by simp [sv]]
    exact this
  · refine YS.kept (g := gx) (W := W') ?_ hk r3
    refine ⟨own_grown y9.its y9.wts hr (by decide), fun z hz => r4 _ _ (y9.it z hz).1 (y9.it z hz).2, by rw [show (x.wts ++ [y]).length = x.wts.length + 1 by simp, List.flatMap_append]; exact ho, fun z hz => ?_, y9.l4, fun z hz => r4 _ _ (y9.la z hz).1 (y9.la z hz).2, y9.n, by show (x.wts ++ [y]).length ≤ _; simpa using hl⟩
    rcases List.mem_append.1 hz with hz | hz
    · exact r4 _ _ (y9.wt z hz).1 (y9.wt z hz).2
    · rw [List.mem_singleton.1 hz]; exact r4 _ _ h.tr h.nf
end
theorem hRow_stop {α : Type} {h : Src → α × Src} {s : Src} {j : Nat} (hb : (hRow h s j).2.bad = true) : ∀ i, hRow h s (j + i) = hRow h s j
  | 0 => rfl
  | i + 1 => by
    have e := hRow_stop hb i
    show (if (hRow h s (j + i)).2.bad then hRow h s (j + i) else _) = _
    rw [e, if_pos hb]
theorem hRow_len {α : Type} (h : Src → α × Src) (s : Src) : ∀ k, (hRow h s k).1.length ≤ k
  | 0 => Nat.le_refl _
  | k + 1 => by
    have := hRow_len h s k
    show (if (hRow h s k).2.bad then hRow h s k else ((hRow h s k).1 ++ [_], _)).1.length ≤ k + 1
    split
    · omega
    · simp; omega
/-! The reader's steps as the pure side tells them. -/
theorem hgnum_t (g : Nat) (s : Src) (n : Nat) (w0 w : World) (x : Rr w0 w g s.xs s.bad) (hb : Bytes s.xs) (h1 : 1 ≤ n) (h2 : n ≤ 8) :
    Calls Tryz.prog 84 #[.pointer (some ⟨g, 0, none⟩), .int .i64 (n : Int)] w fun e w' => e = .returned (.int .u64 ((gNum s n).1 : Nat)) ∧ Rr w0 w' g (gNum s n).2.xs (gNum s n).2.bad ∧ Kept (fun k => k = g) w w' := rrnum_t g s.xs s.bad n w0 w x hb h1 h2
theorem hnm_t (g : Nat) (s : Src) (w0 w : World) (x : Rr w0 w g s.xs s.bad) (hb : Bytes s.xs) :
    Calls Tryz.prog 83 #[.pointer (some ⟨g, 0, none⟩)] w fun e w' => e = .returned (.int .i64 (hNm s).1) ∧ Rr w0 w' g (hNm s).2.xs (hNm s).2.bad ∧ Kept (fun k => k = g) w w' := by
  have h := number_t g s.xs s.bad w0 w x hb (rNum s.xs s.bad 8).1 (rNum s.xs s.bad 8).2.1 (rNum s.xs s.bad 8).2.2 rfl
  by_cases hv : 4611686018427387904 ≤ (rNum s.xs s.bad 8).1
  · rw [show nmb (rNum s.xs s.bad 8).1 (rNum s.xs s.bad 8).2.1 (rNum s.xs s.bad 8).2.2 = (0, [], true) from if_pos hv] at h
    rw [show hNm s = (0, deadS) from if_pos hv]
    exact h
  · rw [show nmb (rNum s.xs s.bad 8).1 (rNum s.xs s.bad 8).2.1 (rNum s.xs s.bad 8).2.2 = rNum s.xs s.bad 8 from if_neg hv] at h
    rw [show hNm s = (((gNum s 8).1 : Int), (gNum s 8).2) from if_neg hv]
    exact h
theorem hyes_t (g : Nat) (s : Src) (w0 w : World) (x : Rr w0 w g s.xs s.bad) (hb : Bytes s.xs) :
    Calls Tryz.prog 86 #[.pointer (some ⟨g, 0, none⟩)] w fun e w' => e = .returned (.bool (hYes s).1) ∧ Rr w0 w' g (hYes s).2.xs (hYes s).2.bad ∧ Kept (fun k => k = g) w w' := by
  have h := yes_t g s.xs s.bad w0 w x hb (rNum s.xs s.bad 1).1 (rNum s.xs s.bad 1).2.1 (rNum s.xs s.bad 1).2.2 rfl
  by_cases hv : 1 < (rNum s.xs s.bad 1).1
  · rw [show yesN (rNum s.xs s.bad 1).1 (rNum s.xs s.bad 1).2.1 (rNum s.xs s.bad 1).2.2 = (false, [], true) from if_pos hv] at h
    rw [show hYes s = (false, deadS) from if_pos hv]
    exact h
  · rw [show yesN (rNum s.xs s.bad 1).1 (rNum s.xs s.bad 1).2.1 (rNum s.xs s.bad 1).2.2 = (decide ((rNum s.xs s.bad 1).1 = 1), (rNum s.xs s.bad 1).2.1, (rNum s.xs s.bad 1).2.2) from if_neg hv] at h
    rw [show hYes s = (decide ((gNum s 1).1 = 1), (gNum s 1).2) from if_neg hv]
    exact h
theorem smN_bytes (xs : List Nat) (bad : Bool) (h : Bytes xs) : Bytes (smN xs bad).1 ∧ Bytes (smN xs bad).2.1 ∧ (smN xs bad).2.1.length ≤ xs.length := by
  have hr := rNum_bytes xs bad 4 h
  have ht := rTxtM_text xs bad 1000 h
  unfold smN
  split
  · refine ⟨ht.1, ?_, ?_⟩
    · unfold rTxtM; split
      · exact bytes_drop hr.1 _
      · exact nil_bytes
    · unfold rTxtM; split
      · show ((rNum xs bad 4).2.1.drop _).length ≤ _; rw [List.length_drop]; omega
      · exact Nat.zero_le _
  · exact ⟨nil_bytes, nil_bytes, Nat.zero_le _⟩
theorem hsm_t (g : Nat) (s : Src) (w0 w : World) (x : Rr w0 w g s.xs s.bad) (hb : Bytes s.xs) (hl : s.xs.length ≤ 1000000) :
    Calls Tryz.prog 85 #[.pointer (some ⟨g, 0, none⟩)] w fun e w' => (∃ A c, e = .returned (.slice A (hSm s).1.length c) ∧ TR w' A (hSm s).1 ∧ NF w' w.heap.size A) ∧ Rr w0 w' g (hSm s).2.xs (hSm s).2.bad ∧ Kept (fun k => k = g) w w' := by
  have hb1 := (smN_bytes s.xs s.bad hb).1
  refine (some_t g s.xs s.bad w0 w x hb hl (smN s.xs s.bad).1 (smN s.xs s.bad).2.1 (smN s.xs s.bad).2.2 rfl).mono ?_
  rintro e w' ⟨⟨A, c, rfl, r, n⟩, x2, k2⟩
  refine ⟨⟨A, c, by rw [show (hSm s).1.length = fNr (smN s.xs s.bad).1 from fl_length _ _], tr_flS r (fNr_le _ hb1), n⟩, x2, k2⟩
theorem hNm_bytes {s : Src} (h : Bytes s.xs) : Bytes (hNm s).2.xs ∧ (hNm s).2.xs.length ≤ s.xs.length := by
  unfold hNm
  split
  · exact ⟨nil_bytes, Nat.zero_le _⟩
  · exact ⟨gNum_bytes 8 h, gNum_len s 8⟩
theorem hYes_bytes {s : Src} (h : Bytes s.xs) : Bytes (hYes s).2.xs ∧ (hYes s).2.xs.length ≤ s.xs.length := by
  unfold hYes
  split
  · exact ⟨nil_bytes, Nat.zero_le _⟩
  · exact ⟨gNum_bytes 1 h, gNum_len s 1⟩
theorem hSm_bytes {s : Src} (h : Bytes s.xs) : Bytes (hSm s).2.xs ∧ (hSm s).2.xs.length ≤ s.xs.length := (smN_bytes s.xs s.bad h).2
/-- An item's steps. -/
structure StI9 (u u1 u2 u3 : Src) (v : Nat) (un : Int) (t : List Fld) : Prop where
  e1 : gNum u 1 = (v, u1)
  e2 : hNm u1 = (un, u2)
  e3 : hSm u2 = (t, u3)
  b0 : Bytes u.xs
  b1 : Bytes u1.xs
  b2 : Bytes u2.xs
  b3 : Bytes u3.xs
  l2 : u2.xs.length ≤ u.xs.length
  l3 : u3.xs.length ≤ u.xs.length
  v8 : v < 256
  it : hIt u = (⟨(v : Int), un, t⟩, u3)
theorem stI9 (u : Src) (h : Bytes u.xs) : ∃ u1 u2 u3 v un t, StI9 u u1 u2 u3 v un t := by
  obtain ⟨⟨v, u1⟩, E1⟩ : ∃ r, gNum u 1 = r := ⟨_, rfl⟩
  obtain ⟨⟨un, u2⟩, E2⟩ : ∃ r, hNm u1 = r := ⟨_, rfl⟩
  obtain ⟨⟨t, u3⟩, E3⟩ : ∃ r, hSm u2 = r := ⟨_, rfl⟩
  have b1 : Bytes u1.xs := by have := gNum_bytes 1 h; rwa [E1] at this
  have l1 : u1.xs.length ≤ u.xs.length := by have := gNum_len u 1; rwa [E1] at this
  have b2 : Bytes u2.xs ∧ u2.xs.length ≤ u1.xs.length := by have := hNm_bytes b1; rwa [E2] at this
  have b3 : Bytes u3.xs ∧ u3.xs.length ≤ u2.xs.length := by have := hSm_bytes b2.1; rwa [E3] at this
  have v8 : v < 256 := by have := gNum_lt (n := 1) h; rwa [E1] at this
  have q2 := b2.2; have q3 := b3.2
  exact ⟨u1, u2, u3, v, un, t, E1, E2, E3, h, b1, b2.1, b3.1, by omega, by omega, v8, by unfold hIt; simp only [E1, E2, E3]⟩
structure StW9 (u u1 u2 u3 u4 : Src) (v q : Nat) (f : Bool) (t : List Fld) : Prop where
  e1 : gNum u 1 = (v, u1)
  e2 : gNum u1 4 = (q, u2)
  e3 : hYes u2 = (f, u3)
  e4 : hSm u3 = (t, u4)
  b0 : Bytes u.xs
  b1 : Bytes u1.xs
  b2 : Bytes u2.xs
  b3 : Bytes u3.xs
  b4 : Bytes u4.xs
  l3 : u3.xs.length ≤ u.xs.length
  l4 : u4.xs.length ≤ u.xs.length
  v8 : v < 256
  q32 : q < 4294967296
  it : hWt u = (⟨(v : Int), (q : Int), f, t⟩, u4)
theorem stW9 (u : Src) (h : Bytes u.xs) : ∃ u1 u2 u3 u4 v q f t, StW9 u u1 u2 u3 u4 v q f t := by
  obtain ⟨⟨v, u1⟩, E1⟩ : ∃ r, gNum u 1 = r := ⟨_, rfl⟩
  obtain ⟨⟨q, u2⟩, E2⟩ : ∃ r, gNum u1 4 = r := ⟨_, rfl⟩
  obtain ⟨⟨f, u3⟩, E3⟩ : ∃ r, hYes u2 = r := ⟨_, rfl⟩
  obtain ⟨⟨t, u4⟩, E4⟩ : ∃ r, hSm u3 = r := ⟨_, rfl⟩
  have b1 : Bytes u1.xs := by have := gNum_bytes 1 h; rwa [E1] at this
  have l1 : u1.xs.length ≤ u.xs.length := by have := gNum_len u 1; rwa [E1] at this
  have b2 : Bytes u2.xs := by have := gNum_bytes 4 b1; rwa [E2] at this
  have l2 : u2.xs.length ≤ u1.xs.length := by have := gNum_len u1 4; rwa [E2] at this
  have b3 : Bytes u3.xs ∧ u3.xs.length ≤ u2.xs.length := by have := hYes_bytes b2; rwa [E3] at this
  have b4 : Bytes u4.xs ∧ u4.xs.length ≤ u3.xs.length := by have := hSm_bytes b3.1; rwa [E4] at this
  have v8 : v < 256 := by have := gNum_lt (n := 1) h; rwa [E1] at this
  have v32 : q < 4294967296 := by have := gNum_lt (n := 4) b1; rwa [E2] at this
  have q3 := b3.2; have q4 := b4.2
  exact ⟨u1, u2, u3, u4, v, q, f, t, E1, E2, E3, E4, h, b1, b2, b3.1, b4.1, by omega, by omega, v8, v32, by unfold hWt; simp only [E1, E2, E3, E4]⟩
structure StL9 (u u1 u2 u3 u4 : Src) (c : Int) (q k : Nat) (f : Bool) (t : List Fld) : Prop where
  e1 : gNum u 4 = (q, u1)
  e2 : gNum u1 1 = (k, u2)
  e3 : hYes u2 = (f, u3)
  e4 : hSm u3 = (t, u4)
  b0 : Bytes u.xs
  b1 : Bytes u1.xs
  b2 : Bytes u2.xs
  b3 : Bytes u3.xs
  b4 : Bytes u4.xs
  l3 : u3.xs.length ≤ u.xs.length
  l4 : u4.xs.length ≤ u.xs.length
  q32 : q < 4294967296
  k8 : k < 256
  it : hLa c u = (⟨c, (q : Int), (k : Int), t, f⟩, u4)
theorem stL9 (c : Int) (u : Src) (h : Bytes u.xs) : ∃ u1 u2 u3 u4 q k f t, StL9 u u1 u2 u3 u4 c q k f t := by
  obtain ⟨⟨q, u1⟩, E1⟩ : ∃ r, gNum u 4 = r := ⟨_, rfl⟩
  obtain ⟨⟨k, u2⟩, E2⟩ : ∃ r, gNum u1 1 = r := ⟨_, rfl⟩
  obtain ⟨⟨f, u3⟩, E3⟩ : ∃ r, hYes u2 = r := ⟨_, rfl⟩
  obtain ⟨⟨t, u4⟩, E4⟩ : ∃ r, hSm u3 = r := ⟨_, rfl⟩
  have b1 : Bytes u1.xs := by have := gNum_bytes 4 h; rwa [E1] at this
  have l1 : u1.xs.length ≤ u.xs.length := by have := gNum_len u 4; rwa [E1] at this
  have b2 : Bytes u2.xs := by have := gNum_bytes 1 b1; rwa [E2] at this
  have l2 : u2.xs.length ≤ u1.xs.length := by have := gNum_len u1 1; rwa [E2] at this
  have b3 : Bytes u3.xs ∧ u3.xs.length ≤ u2.xs.length := by have := hYes_bytes b2; rwa [E3] at this
  have b4 : Bytes u4.xs ∧ u4.xs.length ≤ u3.xs.length := by have := hSm_bytes b3.1; rwa [E4] at this
  have v32 : q < 4294967296 := by have := gNum_lt (n := 4) h; rwa [E1] at this
  have v8 : k < 256 := by have := gNum_lt (n := 1) b1; rwa [E2] at this
  have q3 := b3.2; have q4 := b4.2
  exact ⟨u1, u2, u3, u4, q, k, f, t, E1, E2, E3, E4, h, b1, b2, b3.1, b4.1, by omega, by omega, v32, v8, by unfold hLa; simp only [E1, E2, E3, E4]⟩
theorem hIt_bytes {s : Src} (h : Bytes s.xs) : Bytes (hIt s).2.xs ∧ (hIt s).2.xs.length ≤ s.xs.length := by
  obtain ⟨_, _, _, _, _, _, st⟩ := stI9 s h
  rw [st.it]
  exact ⟨st.b3, st.l3⟩
theorem hWt_bytes {s : Src} (h : Bytes s.xs) : Bytes (hWt s).2.xs ∧ (hWt s).2.xs.length ≤ s.xs.length := by
  obtain ⟨_, _, _, _, _, _, _, _, st⟩ := stW9 s h
  rw [st.it]
  exact ⟨st.b4, st.l4⟩
theorem hLa_bytes {c : Int} {s : Src} (h : Bytes s.xs) : Bytes (hLa c s).2.xs ∧ (hLa c s).2.xs.length ≤ s.xs.length := by
  obtain ⟨_, _, _, _, _, _, _, _, st⟩ := stL9 c s h
  rw [st.it]
  exact ⟨st.b4, st.l4⟩
theorem hRow_bytes {α : Type} {g : Src → α × Src} (hb : ∀ {s : Src}, Bytes s.xs → Bytes (g s).2.xs ∧ (g s).2.xs.length ≤ s.xs.length) {s : Src} (h : Bytes s.xs) : ∀ k, Bytes (hRow g s k).2.xs ∧ (hRow g s k).2.xs.length ≤ s.xs.length
  | 0 => ⟨h, Nat.le_refl _⟩
  | k + 1 => by
    have := hRow_bytes hb h k
    show Bytes (if (hRow g s k).2.bad then hRow g s k else (_, (g (hRow g s k).2).2)).2.xs ∧ (if (hRow g s k).2.bad then hRow g s k else (_, (g (hRow g s k).2).2)).2.xs.length ≤ _
    split
    · exact this
    · exact ⟨(hb this.1).1, Nat.le_trans (hb this.1).2 this.2⟩
theorem hLas_bytes {s : Src} (h : Bytes s.xs) : ∀ k, Bytes (hLas s k).2.xs ∧ (hLas s k).2.xs.length ≤ s.xs.length
  | 0 => ⟨h, Nat.le_refl _⟩
  | k + 1 => by
    have := hLas_bytes h k
    have h2 := hLa_bytes (c := (k : Int)) this.1
    exact ⟨h2.1, Nat.le_trans h2.2 this.2⟩
end Go.Proofs.YtphgognhjdbdjaaGreatDoor
namespace Go.Proofs.YtphgognhjdbdjaaGreatDoor
open Go Go.RowKit Sh

/-- Ahead of the space. -/
structure GQ9 (w0 W : World) (g : Nat) (zs : List Nat) (bad : Bool) : Prop where
  rd : Rr w0 W g zs bad
  res : Blk W w0.heap.size 29 (sv (gsp 0 0 0))
  ng : w0.heap.size < g
theorem GQ9.read {w0 W W' : World} {g : Nat} {zs zs' : List Nat} {bad bad' : Bool} (h : GQ9 w0 W g zs bad) (hk : Kept (fun k => k = g) W W') (hr : Rr w0 W' g zs' bad') : GQ9 w0 W' g zs' bad' :=
  ⟨hr, h.res.kept hk (by have := h.ng; omega), h.ng⟩
theorem GQ9.below {w0 W W' : World} {g : Nat} {zs : List Nat} {bad : Bool} (h : GQ9 w0 W g zs bad) (hb : Below W.heap.size W W') : GQ9 w0 W' g zs bad :=
  ⟨h.rd.below hb, h.res.below hb h.res.lt, h.ng⟩
theorem ys_gsp (B : Nat) (W : World) (a b c : Int) : YS B W (gsp a b c) := by
  refine ⟨World.ownsRow_nil _ _ _ _, (fun y hy => by cases hy), World.ownsRow_nil _ _ _ _, (fun y hy => by cases hy), rfl, fun y hy => ?_, Nat.zero_le _, Nat.zero_le _⟩
  simp only [gsp, List.mem_cons, List.not_mem_nil, or_false] at hy
  rcases hy with rfl | rfl | rfl | rfl <;> exact ⟨⟨fun j hj => absurd hj (Nat.not_lt_zero j), Nat.zero_le _⟩, NF.no _ _⟩
theorem built_gn (a : Int) : Tryz.prog.built 29 [(0, .int .i64 a)] = some (sv (gsp a 0 0)).toArray := by kernel_rfl
theorem built_i9 (a : Int) : Tryz.prog.built 91 [(0, .int .i64 a)] = some #[.int .i64 a, .int .i64 0, .slice none 0 0] := by kernel_rfl
theorem built_w9 (a : Int) : Tryz.prog.built 93 [(0, .int .i64 a)] = some #[.int .i64 a, .int .i64 0, .bool false, .slice none 0 0] := by kernel_rfl
theorem built_l9 (a b : Int) : Tryz.prog.built 26 [(0, .int .i64 a), (1, .int .i64 b)] = some #[.int .i64 a, .int .i64 b, .int .i64 0, .slice none 0 0, .bool false] := by kernel_rfl
/-- The reader's steps of GetSpace. -/
structure StH9 (xs : List Nat) (nw : Int) (v2 v3 v4 v6 : Nat) (l5 : List It) (l7 : List Wt) (l8 : List Rp) (s1 s2 s3 s4 s5 s6 s7 s8 : Src) : Prop where
  e1 : hNm (sSrc xs) = (nw, s1)
  e2 : gNum s1 1 = (v2, s2)
  e3 : gNum s2 1 = (v3, s3)
  e4 : gNum s3 1 = (v4, s4)
  e5 : hRow hIt s4 v4 = (l5, s5)
  e6 : gNum s5 1 = (v6, s6)
  e7 : hRow hWt s6 v6 = (l7, s7)
  e8 : hLas s7 4 = (l8, s8)
  b1 : Bytes s1.xs
  b2 : Bytes s2.xs
  b3 : Bytes s3.xs
  b4 : Bytes s4.xs
  b5 : Bytes s5.xs
  b6 : Bytes s6.xs
  b7 : Bytes s7.xs
  n4 : s4.xs.length ≤ xs.length
  n6 : s6.xs.length ≤ xs.length
  n7 : s7.xs.length ≤ xs.length
  k2 : v2 < 256
  k3 : v3 < 256
  k4 : v4 < 256
  k6 : v6 < 256
  c5 : l5.length < 256
  c7 : l7.length < 256
  got : gotH xs = ⟨nw, l5, l7, v2, v3, l8⟩
  ok : okH xs = (decide (endN s8.xs s8.bad = 0) && spMay (gotH xs))
theorem stH9 (xs : List Nat) (hb : Bytes xs) : ∃ nw v2 v3 v4 v6 l5 l7 l8 s1 s2 s3 s4 s5 s6 s7 s8, StH9 xs nw v2 v3 v4 v6 l5 l7 l8 s1 s2 s3 s4 s5 s6 s7 s8 := by
  obtain ⟨⟨nw, u1⟩, E1⟩ : ∃ r, hNm (sSrc xs) = r := ⟨_, rfl⟩
  obtain ⟨⟨v2, u2⟩, E2⟩ : ∃ r, gNum u1 1 = r := ⟨_, rfl⟩
  obtain ⟨⟨v3, u3⟩, E3⟩ : ∃ r, gNum u2 1 = r := ⟨_, rfl⟩
  obtain ⟨⟨v4, u4⟩, E4⟩ : ∃ r, gNum u3 1 = r := ⟨_, rfl⟩
  obtain ⟨⟨l5, u5⟩, E5⟩ : ∃ r, hRow hIt u4 v4 = r := ⟨_, rfl⟩
  obtain ⟨⟨v6, u6⟩, E6⟩ : ∃ r, gNum u5 1 = r := ⟨_, rfl⟩
  obtain ⟨⟨l7, u7⟩, E7⟩ : ∃ r, hRow hWt u6 v6 = r := ⟨_, rfl⟩
  obtain ⟨⟨l8, u8⟩, E8⟩ : ∃ r, hLas u7 4 = r := ⟨_, rfl⟩
  have F1 : hS1 xs = (nw, u1) := E1
  have F2 : hS2 xs = (v2, u2) := by unfold hS2; rw [F1]; exact E2
  have F3 : hS3 xs = (v3, u3) := by unfold hS3; rw [F2]; exact E3
  have F4 : hS4 xs = (v4, u4) := by unfold hS4; rw [F3]; exact E4
  have F5 : hS5 xs = (l5, u5) := by unfold hS5; rw [F4]; exact E5
  have F6 : hS6 xs = (v6, u6) := by unfold hS6; rw [F5]; exact E6
  have F7 : hS7 xs = (l7, u7) := by unfold hS7; rw [F6]; exact E7
  have F8 : hS8 xs = (l8, u8) := by unfold hS8; rw [F7]; exact E8
  have b1 : Bytes u1.xs ∧ u1.xs.length ≤ xs.length := by have := hNm_bytes (s := sSrc xs) hb; rw [E1] at this; exact this
  have b2 : Bytes u2.xs := by have := gNum_bytes 1 b1.1; rwa [E2] at this
  have b3 : Bytes u3.xs := by have := gNum_bytes 1 b2; rwa [E3] at this
  have b4 : Bytes u4.xs := by have := gNum_bytes 1 b3; rwa [E4] at this
  have b5 : Bytes u5.xs ∧ u5.xs.length ≤ u4.xs.length := by have := hRow_bytes (g := hIt) (fun h => hIt_bytes h) b4 v4; rwa [E5] at this
  have b6 : Bytes u6.xs := by have := gNum_bytes 1 b5.1; rwa [E6] at this
  have b7 : Bytes u7.xs ∧ u7.xs.length ≤ u6.xs.length := by have := hRow_bytes (g := hWt) (fun h => hWt_bytes h) b6 v6; rwa [E7] at this
  have n2 : u2.xs.length ≤ u1.xs.length := by have := gNum_len u1 1; rwa [E2] at this
  have n3 : u3.xs.length ≤ u2.xs.length := by have := gNum_len u2 1; rwa [E3] at this
  have n4 : u4.xs.length ≤ u3.xs.length := by have := gNum_len u3 1; rwa [E4] at this
  have n6 : u6.xs.length ≤ u5.xs.length := by have := gNum_len u5 1; rwa [E6] at this
  have k2 : v2 < 256 := by have := gNum_lt (n := 1) b1.1; rwa [E2] at this
  have k3 : v3 < 256 := by have := gNum_lt (n := 1) b2; rwa [E3] at this
  have k4 : v4 < 256 := by have := gNum_lt (n := 1) b3; rwa [E4] at this
  have k6 : v6 < 256 := by have := gNum_lt (n := 1) b5.1; rwa [E6] at this
  have c5 : l5.length ≤ v4 := by have := hRow_len hIt u4 v4; rwa [E5] at this
  have c7 : l7.length ≤ v6 := by have := hRow_len hWt u6 v6; rwa [E7] at this
  have q1 := b1.2; have q5 := b5.2; have q7 := b7.2
  exact ⟨nw, v2, v3, v4, v6, l5, l7, l8, u1, u2, u3, u4, u5, u6, u7, u8, E1, E2, E3, E4, E5, E6, E7, E8, b1.1, b2, b3, b4, b5.1, b6, b7.1, by omega, by omega, by omega, k2, k3, k4, k6, by omega, by omega, by unfold gotH; rw [F1, F2, F3, F5, F7, F8], by unfold okH; rw [F8]⟩
set_option maxRecDepth 100000 in
set_option maxHeartbeats 4000000 in
theorem refGetS_t (xs : List Nat) (p : Option Addr) (m c : Nat) (w : World) (hx : xs.length = m) (hc : m ≤ c) (hp : Sr w p xs) (hb : Bytes xs) (hl : m ≤ 1000000) :
    Calls Tryz.prog 20 #[.slice p m c] w fun e W' => Below w.heap.size w W' ∧ ((okS xs = false ∧ e = .returned (.tuple #[.agg (sv (gsp 0 0 0)).toArray, .int .i64 2])) ∨ (okS xs = true ∧ ∃ y : Spv, y.sp = gotS xs ∧ e = .returned (.tuple #[.agg (sv y).toArray, .int .i64 0]) ∧ YS w.heap.size W' y)) := by
  subst hx
  obtain ⟨nw, v2, v3, v4, v6, l5, l7, l8, s1, s2, s3, s4, s5, s6, s7, s8, st⟩ := stH9 xs hb
  obtain ⟨oke, gote⟩ := okH_eq xs hb
  have ST := Lib.hid st
  have i2 : IntKind.i64.wrap (v2 : Int) = (v2 : Int) := IntWalk.i64_in _ (by have := st.k2; omega)
  have i3 : IntKind.i64.wrap (v3 : Int) = (v3 : Int) := IntWalk.i64_in _ (by have := st.k3; omega)
  have i4 : IntKind.i64.wrap (v4 : Int) = (v4 : Int) := IntWalk.i64_in _ (by have := st.k4; omega)
  have i6 : IntKind.i64.wrap (v6 : Int) = (v6 : Int) := IntWalk.i64_in _ (by have := st.k6; omega)
  obtain ⟨ok, hok⟩ : ∃ z, okS xs = z := ⟨_, rfl⟩
  obtain ⟨sp0, hsp⟩ : ∃ z, gotH xs = z := ⟨_, rfl⟩
  obtain ⟨sp1, hsp1⟩ : ∃ z, gotS xs = z := ⟨_, rfl⟩
  have OKD := Lib.hid (show ok = (decide (endN s8.xs s8.bad = 0) && spMay sp0) from by rw [← hok, ← oke, ← hsp]; exact st.ok)
  have GOT := Lib.hid (show sp0 = ⟨nw, l5, l7, v2, v3, l8⟩ from by rw [← hsp]; exact st.got)
  have GE := Lib.hid (show ok = true → sp0 = sp1 from by rw [← hok, ← hsp, ← hsp1]; exact gote)
  rw [hok, hsp1]
  have HP := Lib.hid hp; have HC := Lib.hid hc; have HB := Lib.hid hb; have HXL := Lib.hid hl
  have BR := built_R p xs.length c
  have BS := built_gn nw
  clear hp hc hb hl st oke gote hok hsp hsp1
  go_enter Tryz.func20, Tryz.ntmps20
  go_upto_region 2 with (fail)
  obtain ⟨g, hg⟩ : ∃ g, w.heap.size + 1 = g := ⟨_, rfl⟩
  refine world_at (fun Y => GQ9 w Y g (sSrc xs).xs (sSrc xs).bad) (by
    have b0 := (Below.refl w.heap.size w).alloc (Nat.le_refl _) (.cells (sv (gsp 0 0 0)).toArray 29)
    have b1 := b0.alloc b0.size (.cells #[.slice p xs.length c, .bool false] 126)
    rw [← hg]
    exact ⟨⟨⟨p, c, Blk.new2 w (.cells (sv (gsp 0 0 0)).toArray 29) _ [.slice p xs.length c, .bool false], HC.out, HP.out⟩, (fun e => by cases e), b1, by omega⟩, (Blk.new w 29 (sv (gsp 0 0 0))).alloc _, by omega⟩) ?_
  rintro Y qy
  first | rw [hg] | skip
  have Q0 := Lib.hid qy
  clear qy HP HC BR
  go_wp2_with fail
  refine (hnm_t g (sSrc xs) w Y Q0.out.rd HB.out).mono ?_
  rw [ST.out.e1]
  rintro e w1 ⟨rfl, x1, k1⟩
  have Q1 := Lib.hid (Q0.out.read k1 x1)
  clear x1 k1 Q0
  have W0 := (ys_gsp w.heap.size w1 nw 0 0).w
  obtain ⟨x0, hx0⟩ : ∃ x : Spv, gsp nw 0 0 = x := ⟨_, rfl⟩
  rw [hx0] at W0
  have Y0 := Lib.hid (fun (W : World) => show YS w.heap.size W x0 from by rw [← hx0]; exact ys_gsp _ _ _ _ _)
  have FX_x0 := Lib.hid (sv_size x0 W0.l4); have FO_x0 := Lib.hid (sv_one x0); have SL_x0 := Lib.hid (sv_len x0 W0.l4)
  have Z_x0 := Lib.hid (Blk.new w1 29 [.int .i64 0, .slice none 0 0, .slice none 0 0, .int .i64 0, .int .i64 0, .int .i64 0, .int .i64 0, .int .i64 0, .slice none 0 0, .bool false, .int .i64 0, .int .i64 0, .int .i64 0, .slice none 0 0, .bool false, .int .i64 0, .int .i64 0, .int .i64 0, .slice none 0 0, .bool false, .int .i64 0, .int .i64 0, .int .i64 0, .slice none 0 0, .bool false])
  have KN_x0 := Lib.hid (KSp.new (w1 := w1) (x := x0) W0)
  go_upto_region 3 with ((with_reducible refine at_op (.store 29 (.tmp 5) (.tmp 18)) rfl ?_); go_must (refine store_blk 29 (.tmp 5) (.tmp 18) w1.heap.size 29 _ (sv x0) rfl rfl Z_x0.out SL_x0.out.symm FX_x0.out FO_x0.out rfl (by rw [← hx0]; rfl) ?_))
  obtain ⟨V1, hV1⟩ : ∃ V, ((w1).alloc (.cells #[.int .i64 0, .slice none 0 0, .slice none 0 0, .int .i64 0, .int .i64 0, .int .i64 0, .int .i64 0, .int .i64 0, .slice none 0 0, .bool false, .int .i64 0, .int .i64 0, .int .i64 0, .slice none 0 0, .bool false, .int .i64 0, .int .i64 0, .int .i64 0, .slice none 0 0, .bool false, .int .i64 0, .int .i64 0, .int .i64 0, .slice none 0 0, .bool false] 29)).setRow (w1).heap.size (sv x0).toArray = V := ⟨_, rfl⟩
  rw [hV1] at KN_x0 ⊢
  have K_x0 := Lib.hid KN_x0.out.1
  have B_x0 := Lib.hid KN_x0.out.2
  clear hV1 KN_x0 Z_x0 FO_x0 SL_x0
  obtain ⟨gx, hgx⟩ : ∃ g, w1.heap.size = g := ⟨_, rfl⟩
  rw [hgx] at K_x0 ⊢
  have P0 := Lib.hid (show GP9 w V1 g gx s1.xs s1.bad x0 from by
    have q := Q1.out.below B_x0.out
    exact ⟨q.rd, q.res, K_x0.out.box, by rw [← hgx]; exact Q1.out.res.lt, q.ng, Y0.out _⟩)
  have P0 := Lib.hid (show GP9 w V1 g gx s1.xs s1.bad (gsp nw 0 0) from by rw [hx0]; exact P0.out)
  clear hx0 hgx K_x0 B_x0 FX_x0 Q1 Y0 W0 BS
  go_wp2_with fail
  refine (hgnum_t g s1 1 w V1 P0.out.rd ST.out.b1 (by decide) (by decide)).mono ?_
  rw [ST.out.e2]
  rintro e w2 ⟨rfl, x_, k_⟩
  have P1 := Lib.hid (P0.out.read k_ x_)
  clear x_ k_
  have fz := P1.out.bx.frozen 3
  have ct : w2.cell? ⟨gx, 3, none⟩ = some (.int .i64 0) := (sv_cells P1.out.bx).2.2.2.1
  have P2 := Lib.hid (P1.out.put (x' := gsp nw v2 0) (Kept.setCell (F := fun k => k = gx) (Kept.refl _ _) (p := ⟨gx, 3, none⟩) (.inl rfl) _) (P1.out.bx.store 3 (.int .i64 (v2 : Int))) (ys_gsp _ _ _ _ _))
  clear P0
  go_upto_region 4 with (fail)
  clear fz ct P1
  obtain ⟨V2, hV2⟩ : ∃ V, w2.setCell ⟨gx, 3, none⟩ (.int .i64 (v2 : Int)) = V := ⟨_, rfl⟩
  rw [hV2] at P2 ⊢
  clear hV2
  go_wp2_with fail
  refine (hgnum_t g s2 1 w V2 P2.out.rd ST.out.b2 (by decide) (by decide)).mono ?_
  rw [ST.out.e3]
  rintro e w3 ⟨rfl, x_, k_⟩
  have P3 := Lib.hid (P2.out.read k_ x_)
  clear x_ k_
  have fz := P3.out.bx.frozen 4
  have ct : w3.cell? ⟨gx, 4, none⟩ = some (.int .i64 0) := (sv_cells P3.out.bx).2.2.2.2
  have P4 := Lib.hid (P3.out.put (x' := gsp nw v2 v3) (Kept.setCell (F := fun k => k = gx) (Kept.refl _ _) (p := ⟨gx, 4, none⟩) (.inl rfl) _) (P3.out.bx.store 4 (.int .i64 (v3 : Int))) (ys_gsp _ _ _ _ _))
  clear P2
  go_upto_region 5 with (fail)
  clear fz ct P3
  obtain ⟨V3, hV3⟩ : ∃ V, w3.setCell ⟨gx, 4, none⟩ (.int .i64 (v3 : Int)) = V := ⟨_, rfl⟩
  rw [hV3] at P4 ⊢
  clear hV3
  go_wp2_with fail
  refine (hgnum_t g s3 1 w V3 P4.out.rd ST.out.b3 (by decide) (by decide)).mono ?_
  rw [ST.out.e4]
  rintro e w4 ⟨rfl, x_, k_⟩
  have P5 := Lib.hid (P4.out.read k_ x_)
  clear x_ k_
  clear P4
  go_wp2_with fail
  have HX4 := Lib.hid (fun j => hRow_bytes (g := hIt) (fun h => hIt_bytes h) ST.out.b4 j)
  go_loopw [7] (fun t wr => ∃ (j : Nat) (x : Spv), j ≤ v4 ∧ t = .int .i64 (j : Int) ∧ GP9 w wr g gx (hRow hIt s4 j).2.xs (hRow hIt s4 j).2.bad x ∧ x.sp = ⟨nw, (hRow hIt s4 j).1, [], v2, v3, [zrp.r, zrp.r, zrp.r, zrp.r]⟩) (fun t _ => v4 - (intOf t).toNat)
  case atStart => exact ⟨0, gsp nw v2 v3, Nat.zero_le _, rfl, P5.out, rfl⟩
  case round =>
    clear P5
    obtain ⟨j, x, hj, rfl, gp, hsp⟩ := hrel
    have G0 := Lib.hid gp; have HSP := Lib.hid hsp
    have HJ := Lib.hid hj
    have HNX := Lib.hid (show hRow hIt s4 (j + 1) = if (hRow hIt s4 j).2.bad then hRow hIt s4 j else ((hRow hIt s4 j).1 ++ [(hIt (hRow hIt s4 j).2).1], (hIt (hRow hIt s4 j).2).2) from rfl)
    have HST := Lib.hid (fun (hb : (hRow hIt s4 j).2.bad = true) (i : Nat) => hRow_stop hb i)
    have HLN := Lib.hid (show x.its.length ≤ j from by
      have h := congrArg (fun s => s.its.length) hsp
      have h2 := hRow_len hIt s4 j
      simp only [Spv.sp, List.length_map] at h
      omega)
    have HUB := Lib.hid (HX4.out j)
    clear gp hsp hj
    obtain ⟨⟨l, u⟩, hu⟩ : ∃ r, hRow hIt s4 j = r := ⟨_, rfl⟩
    rw [hu] at G0 HSP HNX HST HUB
    dsimp only at G0 HSP HNX HST HUB
    have HU := Lib.hid hu
    clear hu
    obtain ⟨cb, hcb⟩ : ∃ b, (decide (j < v4) && !u.bad) = b := ⟨_, rfl⟩
    have HCB := Lib.hid hcb
    obtain ⟨ub, hub⟩ : ∃ b, u.bad = b := ⟨_, rfl⟩
    obtain ⟨A0, c0', q1, q2, q3⟩ := G0.out.rd.is
    have cbd : wr.cell? ⟨g, 1, none⟩ = some (.bool ub) := by rw [← hub]; exact q1.cell 1
    rw [hub] at hcb
    clear q1 q2 q3 hub
    go_upto_region 7 with (fail)
    go_cut [39] (fun s39 wx => s39 = .bool cb ∧ wx = wr)
    case first =>
      by_cases hlt : j < v4
      · have j1 : (j : Int) < (v4 : Int) := by omega
        rw [decide_eq_true hlt, Bool.true_and] at hcb
        subst hcb
        go_wp2_with fail
        go_meet
        exact ⟨rfl, rfl⟩
      · have j1 : decide ((j : Int) < (v4 : Int)) = false := decide_eq_false (by omega)
        rw [decide_eq_false hlt, Bool.false_and] at hcb
        subst hcb
        go_wp2_with fail
        go_meet
        exact ⟨rfl, rfl⟩
    case rest =>
      obtain ⟨rfl, rfl⟩ := hcut
      clear cbd hcb
      cases cb with
      | true =>
        have HLT := Lib.hid (show j < v4 from by have h := HCB.out; simp at h; exact h.1)
        have HBF := Lib.hid (show u.bad = false from by have h := HCB.out; simp at h; exact h.2)
        obtain ⟨u1, u2, u3, v, un, t, si⟩ := stI9 u HUB.out.1
        have SI := Lib.hid si
        have kw : IntKind.i64.wrap (v : Int) = (v : Int) := IntWalk.i64_in _ (by have := si.v8; omega)
        have BF := built_i9 (v : Int)
        have HU2 := Lib.hid (show u2.xs.length ≤ 1000000 from by have h1 := si.l2; have h2 := HUB.out.2; have h3 := ST.out.n4; have h4 := HXL.out; omega)
        clear si HCB HST HJ HU
        go_wp2_with fail
        refine (hgnum_t g u 1 w wc G0.out.rd SI.out.b0 (by decide) (by decide)).mono ?_
        rw [SI.out.e1]
        rintro e w5 ⟨rfl, x_, k_⟩
        have G1 := Lib.hid (G0.out.read k_ x_)
        clear x_ k_
        have E0 := Lib.hid (GE9.new G1.out 91 [.int .i64 (v : Int), .int .i64 0, .slice none 0 0])
        clear G0
        go_upto_region 10 with (fail)
        refine world_at (fun Z => GE9 w Z 91 g gx w5.heap.size u1.xs u1.bad x [.int .i64 (v : Int), .int .i64 0, .slice none 0 0] none []) E0.out ?_
        rintro Z1 gz
        obtain ⟨g3, hg3⟩ : ∃ x, w5.heap.size = x := ⟨_, rfl⟩
        rw [hg3] at gz ⊢
        have E1 := Lib.hid gz
        clear gz E0 hg3 G1 BF kw
        go_wp2_with fail
        refine (hnm_t g u1 w Z1 E1.out.gp.rd SI.out.b1).mono ?_
        rw [SI.out.e2]
        rintro e w6 ⟨rfl, x_, k_⟩
        have E2 := Lib.hid (E1.out.read k_ x_)
        have fz := E2.out.el.frozen 1
        have ct : w6.cell? ⟨g3, 1, none⟩ = some (.int .i64 0) := E2.out.el.cell 1
        have E3 := Lib.hid (E2.out.store (cs' := [.int .i64 (v : Int), .int .i64 un, .slice none 0 0]) (Kept.setCell (F := fun k => k = g3) (Kept.refl _ _) (p := ⟨g3, 1, none⟩) (.inl rfl) _) (E2.out.el.store 1 (.int .i64 un)) (by decide))
        clear x_ k_ E1
        go_upto_region 11 with (fail)
        clear fz ct E2
        obtain ⟨Z2, hZ2⟩ : ∃ V, w6.setCell ⟨g3, 1, none⟩ (.int .i64 un) = V := ⟨_, rfl⟩
        rw [hZ2] at E3 ⊢
        clear hZ2
        go_wp2_with fail
        refine (hsm_t g u2 w Z2 E3.out.gp.rd SI.out.b2 HU2.out).mono ?_
        rw [SI.out.e3]
        rintro e w7 ⟨⟨A, c9, rfl, t7, n7⟩, x_, k_⟩
        have hsz := E3.out.gp.rd.bel.size
        have E4 := Lib.hid ((E3.out.read k_ x_).row (yp' := A) (yt' := t) t7 (n7.low hsz))
        have fz := E4.out.el.frozen 2
        have ct : w7.cell? ⟨g3, 2, none⟩ = some (.slice none 0 0) := E4.out.el.cell 2
        have E5 := Lib.hid (E4.out.store (cs' := [.int .i64 (v : Int), .int .i64 un, .slice A t.length c9]) (Kept.setCell (F := fun k => k = g3) (Kept.refl _ _) (p := ⟨g3, 2, none⟩) (.inl rfl) _) (E4.out.el.store 2 (.slice A t.length c9)) (by decide))
        clear x_ k_ E3 t7 n7 hsz
        go_upto_region 12 with (fail)
        clear fz ct E4
        obtain ⟨Z3, hZ3⟩ : ∃ V, w7.setCell ⟨g3, 2, none⟩ (.slice A t.length c9) = V := ⟨_, rfl⟩
        rw [hZ3] at E5 ⊢
        clear hZ3
        obtain ⟨y, hy⟩ : ∃ y : Itv, (⟨⟨(v : Int), un, t⟩, A, c9⟩ : Itv) = y := ⟨_, rfl⟩
        have E6 := Lib.hid (show GE9 w Z3 91 g gx g3 u3.xs u3.bad x (iv y) y.p y.i.t from by rw [← hy]; exact E5.out)
        have HY := Lib.hid hy
        have FS := Lib.hid (iv_size y)
        clear E5 hy
        have c1 : Z3.cell? ⟨gx, 1, none⟩ = some (.slice x.ip x.its.length x.ic) := (sv_cells E6.out.gp.bx).2.1
        have GEL := Lib.hid E6.out.el
        have BA := Lib.hid ((Below.refl Z3.heap.size Z3).alloc (Nat.le_refl _) (.cells (iv y).toArray 91))
        have R3 := Lib.hid (E6.out.below BA.out)
        have Q1 := Lib.hid (row_one iv 3 y Z3 91)
        have O1 := Lib.hid R3.out.gp.ys.its
        have HBS := Lib.hid (show w.heap.size ≤ (Z3.alloc (.cells (iv y).toArray 91)).heap.size from R3.out.gp.rd.bel.size)
        have LL := Lib.hid (show x.its.length + 1 ≤ 1000000 from by have := HLN.out; have := HLT.out; have := ST.out.k4; omega)
        have jv : (j : Int) < 256 := by have := HLT.out; have := ST.out.k4; omega
        go_wp2_with (first
          | ((with_reducible refine load_blk 91 (.tmp 8) g3 91 (iv y) _ rfl rfl ?_ Tryz.underlying91 ?_ ?_ ?_ ?_); exact GEL.out; exact rfl; exact FS.out; exact rfl)
          | ((with_reducible refine at_op (.buildSlice 22 1 #[(0, .tmp 54)]) rfl ?_); go_must (refine build1 22 91 (.tmp 54) rfl rfl (iv y) rfl (build_iv y _) ?_))
          | ((with_reducible refine at_op (.call { callee := .builtin .append, args := #[.tmp 53, .tmp 55], argTypes := #[22, 22] }) rfl ?_); go_must (refine append_rows (.tmp 53) (.tmp 55) 22 rfl rfl 91 Tryz.underlying22 infoI rfl (by decide) (by decide) iv_len iv_one w.heap.size (.slice x.ip x.its.length x.ic) x.its.length (x.its.flatMap iv) rfl O1.out (some ⟨Z3.heap.size, 0, none⟩) 1 1 rfl [y] rfl Q1.out LL.out HBS.out ?_); intro v1 w9 h2 h3 h5 h6; obtain ⟨ip9, ic9, hv9, _⟩ := own_form h2.out; subst hv9; have r9 := R3.out.growI h2.out h3.out LL.out; have fz := r9.1.frozen 1; have ct : w9.cell? ⟨gx, 1, none⟩ = some (.slice x.ip x.its.length x.ic) := (sv_cells r9.1).2.1; have R9 := Lib.hid r9.2; clear r9 h2 h3 h5 h6))
        go_roundw
        case rel =>
          refine ⟨j + 1, { x with its := x.its ++ [y], ip := ip9, ic := ic9 }, HLT.out, by go_num, ?_, ?_⟩
          · rw [HNX.out, if_neg (by rw [HBF.out]; decide), SI.out.it]
            exact R9.out
          · rw [HNX.out, if_neg (by rw [HBF.out]; decide), SI.out.it]
            have h := HSP.out
            simp only [Spv.sp, Sp.mk.injEq] at h ⊢
            obtain ⟨h1, h2, h3, h4, h5, h6⟩ := h
            refine ⟨h1, ?_, h3, h4, h5, h6⟩
            rw [List.map_append, h2, ← HY.out]
            rfl
        case measure => have := HLT.out; simp [intOf]; omega
      | false =>
        have hfin : (l, u) = (l5, s5) := by
          rw [← ST.out.e5, ← HU.out]
          rcases Nat.lt_or_ge j v4 with h | h
          · have hb : u.bad = true := by have h2 := HCB.out; rw [decide_eq_true h, Bool.true_and] at h2; simpa using h2
            have h3 := HST.out hb (v4 - j)
            rw [show j + (v4 - j) = v4 by omega] at h3
            rw [h3, HU.out]
          · rw [show j = v4 by have := HJ.out; omega]
        simp only [Prod.mk.injEq] at hfin
        have q1 := hfin.1.symm
        have q2 := hfin.2.symm
        clear hfin
        subst q1
        subst q2
        clear HNX HST HU HUB HLN HCB HX4 HJ
        go_wp2_with fail
        refine (hgnum_t g s5 1 w wc G0.out.rd ST.out.b5 (by decide) (by decide)).mono ?_
        rw [ST.out.e6]
        rintro e w4b ⟨rfl, x_, k_⟩
        have G6 := Lib.hid (G0.out.read k_ x_)
        clear x_ k_
        clear G0
        go_wp2_with fail
        have HX6 := Lib.hid (fun j => hRow_bytes (g := hWt) (fun h => hWt_bytes h) ST.out.b6 j)
        go_loopw [9] (fun t wr => ∃ (j : Nat) (x : Spv), j ≤ v6 ∧ t = .int .i64 (j : Int) ∧ GP9 w wr g gx (hRow hWt s6 j).2.xs (hRow hWt s6 j).2.bad x ∧ x.sp = ⟨nw, l5, (hRow hWt s6 j).1, v2, v3, [zrp.r, zrp.r, zrp.r, zrp.r]⟩) (fun t _ => v6 - (intOf t).toNat)
        case atStart => exact ⟨0, x, Nat.zero_le _, rfl, G6.out, HSP.out⟩
        case round =>
          clear G6 HSP
          clear x
          obtain ⟨j, x, hj, rfl, gp, hsp⟩ := hrel
          have G0 := Lib.hid gp; have HSP := Lib.hid hsp
          have HJ := Lib.hid hj
          have HNX := Lib.hid (show hRow hWt s6 (j + 1) = if (hRow hWt s6 j).2.bad then hRow hWt s6 j else ((hRow hWt s6 j).1 ++ [(hWt (hRow hWt s6 j).2).1], (hWt (hRow hWt s6 j).2).2) from rfl)
          have HST := Lib.hid (fun (hb : (hRow hWt s6 j).2.bad = true) (i : Nat) => hRow_stop hb i)
          have HLN := Lib.hid (show x.wts.length ≤ j from by
            have h := congrArg (fun s => s.wts.length) hsp
            have h2 := hRow_len hWt s6 j
            simp only [Spv.sp, List.length_map] at h
            omega)
          have HUB := Lib.hid (HX6.out j)
          clear gp hsp hj
          obtain ⟨⟨l, u⟩, hu⟩ : ∃ r, hRow hWt s6 j = r := ⟨_, rfl⟩
          rw [hu] at G0 HSP HNX HST HUB
          dsimp only at G0 HSP HNX HST HUB
          have HU := Lib.hid hu
          clear hu
          obtain ⟨cb, hcb⟩ : ∃ b, (decide (j < v6) && !u.bad) = b := ⟨_, rfl⟩
          have HCB := Lib.hid hcb
          obtain ⟨ub, hub⟩ : ∃ b, u.bad = b := ⟨_, rfl⟩
          obtain ⟨A0, c0', q1, q2, q3⟩ := G0.out.rd.is
          have cbd : wr.cell? ⟨g, 1, none⟩ = some (.bool ub) := by rw [← hub]; exact q1.cell 1
          rw [hub] at hcb
          clear q1 q2 q3 hub
          go_upto_region 15 with (fail)
          go_cut [70] (fun s39 wx => s39 = .bool cb ∧ wx = wr)
          case first =>
            by_cases hlt : j < v6
            · have j1 : (j : Int) < (v6 : Int) := by omega
              rw [decide_eq_true hlt, Bool.true_and] at hcb
              subst hcb
              go_wp2_with fail
              go_meet
              exact ⟨rfl, rfl⟩
            · have j1 : decide ((j : Int) < (v6 : Int)) = false := decide_eq_false (by omega)
              rw [decide_eq_false hlt, Bool.false_and] at hcb
              subst hcb
              go_wp2_with fail
              go_meet
              exact ⟨rfl, rfl⟩
          case rest =>
            obtain ⟨rfl, rfl⟩ := hcut
            clear cbd hcb
            cases cb with
            | true =>
              have HLT := Lib.hid (show j < v6 from by have h := HCB.out; simp at h; exact h.1)
              have HBF := Lib.hid (show u.bad = false from by have h := HCB.out; simp at h; exact h.2)
              obtain ⟨u1, u2, u3, u4, v, q, f, t, si⟩ := stW9 u HUB.out.1
              have SI := Lib.hid si
              have kw : IntKind.i64.wrap (v : Int) = (v : Int) := IntWalk.i64_in _ (by have := si.v8; omega)
              have kq : IntKind.i64.wrap (q : Int) = (q : Int) := IntWalk.i64_in _ (by have := si.q32; omega)
              have BF := built_w9 (v : Int)
              have HU2 := Lib.hid (show u3.xs.length ≤ 1000000 from by have h1 := si.l3; have h2 := HUB.out.2; have h3 := ST.out.n6; have h4 := HXL.out; omega)
              clear si HCB HST HJ HU
              go_wp2_with fail
              refine (hgnum_t g u 1 w wc G0.out.rd SI.out.b0 (by decide) (by decide)).mono ?_
              rw [SI.out.e1]
              rintro e w5 ⟨rfl, x_, k_⟩
              have G1 := Lib.hid (G0.out.read k_ x_)
              clear x_ k_
              have E0 := Lib.hid (GE9.new G1.out 93 [.int .i64 (v : Int), .int .i64 0, .bool false, .slice none 0 0])
              clear G0
              go_upto_region 18 with (fail)
              refine world_at (fun Z => GE9 w Z 93 g gx w5.heap.size u1.xs u1.bad x [.int .i64 (v : Int), .int .i64 0, .bool false, .slice none 0 0] none []) E0.out ?_
              rintro Z1 gz
              obtain ⟨g3, hg3⟩ : ∃ x, w5.heap.size = x := ⟨_, rfl⟩
              rw [hg3] at gz ⊢
              have E1 := Lib.hid gz
              clear gz E0 hg3 G1 BF kw
              go_wp2_with fail
              refine (hgnum_t g u1 4 w Z1 E1.out.gp.rd SI.out.b1 (by decide) (by decide)).mono ?_
              rw [SI.out.e2]
              rintro e w6 ⟨rfl, x_, k_⟩
              have E2 := Lib.hid (E1.out.read k_ x_)
              have fz := E2.out.el.frozen 1
              have ct : w6.cell? ⟨g3, 1, none⟩ = some (.int .i64 0) := E2.out.el.cell 1
              have E3 := Lib.hid (E2.out.store (cs' := [.int .i64 (v : Int), .int .i64 (q : Int), .bool false, .slice none 0 0]) (Kept.setCell (F := fun k => k = g3) (Kept.refl _ _) (p := ⟨g3, 1, none⟩) (.inl rfl) _) (E2.out.el.store 1 (.int .i64 (q : Int))) (by decide))
              clear x_ k_ E1
              go_upto_region 19 with (fail)
              clear fz ct E2
              obtain ⟨Z2, hZ2⟩ : ∃ V, w6.setCell ⟨g3, 1, none⟩ (.int .i64 (q : Int)) = V := ⟨_, rfl⟩
              rw [hZ2] at E3 ⊢
              clear hZ2
              go_wp2_with fail
              refine (hyes_t g u2 w Z2 E3.out.gp.rd SI.out.b2).mono ?_
              rw [SI.out.e3]
              rintro e w6 ⟨rfl, x_, k_⟩
              have E2 := Lib.hid (E3.out.read k_ x_)
              have fz := E2.out.el.frozen 2
              have ct : w6.cell? ⟨g3, 2, none⟩ = some (.bool false) := E2.out.el.cell 2
              have E5 := Lib.hid (E2.out.store (cs' := [.int .i64 (v : Int), .int .i64 (q : Int), .bool f, .slice none 0 0]) (Kept.setCell (F := fun k => k = g3) (Kept.refl _ _) (p := ⟨g3, 2, none⟩) (.inl rfl) _) (E2.out.el.store 2 (.bool f)) (by decide))
              clear x_ k_ E3
              go_upto_region 20 with (fail)
              clear fz ct E2
              obtain ⟨Z3, hZ2⟩ : ∃ V, w6.setCell ⟨g3, 2, none⟩ (.bool f) = V := ⟨_, rfl⟩
              rw [hZ2] at E5 ⊢
              clear hZ2
              go_wp2_with fail
              refine (hsm_t g u3 w Z3 E5.out.gp.rd SI.out.b3 HU2.out).mono ?_
              rw [SI.out.e4]
              rintro e w7 ⟨⟨A, c9, rfl, t7, n7⟩, x_, k_⟩
              have hsz := E5.out.gp.rd.bel.size
              have E4 := Lib.hid ((E5.out.read k_ x_).row (yp' := A) (yt' := t) t7 (n7.low hsz))
              have fz := E4.out.el.frozen 3
              have ct : w7.cell? ⟨g3, 3, none⟩ = some (.slice none 0 0) := E4.out.el.cell 3
              have E6b := Lib.hid (E4.out.store (cs' := [.int .i64 (v : Int), .int .i64 (q : Int), .bool f, .slice A t.length c9]) (Kept.setCell (F := fun k => k = g3) (Kept.refl _ _) (p := ⟨g3, 3, none⟩) (.inl rfl) _) (E4.out.el.store 3 (.slice A t.length c9)) (by decide))
              clear x_ k_ E5 t7 n7 hsz
              go_upto_region 21 with (fail)
              clear fz ct E4
              obtain ⟨Z4, hZ3⟩ : ∃ V, w7.setCell ⟨g3, 3, none⟩ (.slice A t.length c9) = V := ⟨_, rfl⟩
              rw [hZ3] at E6b ⊢
              clear hZ3
              obtain ⟨y, hy⟩ : ∃ y : Wtv, (⟨⟨(v : Int), (q : Int), f, t⟩, A, c9⟩ : Wtv) = y := ⟨_, rfl⟩
              have E6 := Lib.hid (show GE9 w Z4 93 g gx g3 u4.xs u4.bad x (wv y) y.p y.x.p from by rw [← hy]; exact E6b.out)
              have HY := Lib.hid hy
              have FS := Lib.hid (wv_size y)
              clear E6b hy kq
              have c1 : Z4.cell? ⟨gx, 2, none⟩ = some (.slice x.wp x.wts.length x.wc) := (sv_cells E6.out.gp.bx).2.2.1
              have GEL := Lib.hid E6.out.el
              have BA := Lib.hid ((Below.refl Z4.heap.size Z4).alloc (Nat.le_refl _) (.cells (wv y).toArray 93))
              have R3 := Lib.hid (E6.out.below BA.out)
              have Q1 := Lib.hid (row_one wv 4 y Z4 93)
              have O1 := Lib.hid R3.out.gp.ys.wts
              have HBS := Lib.hid (show w.heap.size ≤ (Z4.alloc (.cells (wv y).toArray 93)).heap.size from R3.out.gp.rd.bel.size)
              have LL := Lib.hid (show x.wts.length + 1 ≤ 1000000 from by have := HLN.out; have := HLT.out; have := ST.out.k6; omega)
              have jv : (j : Int) < 256 := by have := HLT.out; have := ST.out.k6; omega
              go_wp2_with (first
                | ((with_reducible refine load_blk 93 (.tmp 10) g3 93 (wv y) _ rfl rfl ?_ Tryz.underlying93 ?_ ?_ ?_ ?_); exact GEL.out; exact rfl; exact FS.out; exact rfl)
                | ((with_reducible refine at_op (.buildSlice 23 1 #[(0, .tmp 89)]) rfl ?_); go_must (refine build1 23 93 (.tmp 89) rfl rfl (wv y) rfl (build_wv y _) ?_))
                | ((with_reducible refine at_op (.call { callee := .builtin .append, args := #[.tmp 88, .tmp 90], argTypes := #[23, 23] }) rfl ?_); go_must (refine append_rows (.tmp 88) (.tmp 90) 23 rfl rfl 93 Tryz.underlying23 infoW rfl (by decide) (by decide) wv_len wv_one w.heap.size (.slice x.wp x.wts.length x.wc) x.wts.length (x.wts.flatMap wv) rfl O1.out (some ⟨Z4.heap.size, 0, none⟩) 1 1 rfl [y] rfl Q1.out LL.out HBS.out ?_); intro v1 w9 h2 h3 h5 h6; obtain ⟨ip9, ic9, hv9, _⟩ := own_form h2.out; subst hv9; have r9 := R3.out.growW h2.out h3.out LL.out; have fz := r9.1.frozen 2; have ct : w9.cell? ⟨gx, 2, none⟩ = some (.slice x.wp x.wts.length x.wc) := (sv_cells r9.1).2.2.1; have R9 := Lib.hid r9.2; clear r9 h2 h3 h5 h6))
              go_roundw
              case rel =>
                refine ⟨j + 1, { x with wts := x.wts ++ [y], wp := ip9, wc := ic9 }, HLT.out, by go_num, ?_, ?_⟩
                · rw [HNX.out, if_neg (by rw [HBF.out]; decide), SI.out.it]
                  exact R9.out
                · rw [HNX.out, if_neg (by rw [HBF.out]; decide), SI.out.it]
                  have h := HSP.out
                  simp only [Spv.sp, Sp.mk.injEq] at h ⊢
                  obtain ⟨h1, h2, h3, h4, h5, h6⟩ := h
                  refine ⟨h1, h2, ?_, h4, h5, h6⟩
                  rw [List.map_append, h3, ← HY.out]
                  rfl
              case measure => have := HLT.out; simp [intOf]; omega
            | false =>
              have hfin : (l, u) = (l7, s7) := by
                rw [← ST.out.e7, ← HU.out]
                rcases Nat.lt_or_ge j v6 with h | h
                · have hb : u.bad = true := by have h2 := HCB.out; rw [decide_eq_true h, Bool.true_and] at h2; simpa using h2
                  have h3 := HST.out hb (v6 - j)
                  rw [show j + (v6 - j) = v6 by omega] at h3
                  rw [h3, HU.out]
                · rw [show j = v6 by have := HJ.out; omega]
              simp only [Prod.mk.injEq] at hfin
              have q1 := hfin.1.symm
              have q2 := hfin.2.symm
              clear hfin
              subst q1
              subst q2
              clear HNX HST HU HUB HLN HCB HX6 HJ
              go_wp2_with fail
              have HX7 := Lib.hid (fun j => hLas_bytes ST.out.b7 j)
              go_loopw [11] (fun t wr => ∃ (j : Nat) (x : Spv), j ≤ 4 ∧ t = .int .i64 (j : Int) ∧ GP9 w wr g gx (hLas s7 j).2.xs (hLas s7 j).2.bad x ∧ (x.last.take j).map (·.r) = (hLas s7 j).1 ∧ ({ x.sp with last := [] } : Sp) = ⟨nw, l5, l7, v2, v3, []⟩) (fun t _ => 4 - (intOf t).toNat)
              case atStart => exact ⟨0, x, Nat.zero_le _, rfl, G0.out, rfl, by rw [HSP.out]⟩
              case round =>
                clear G0 HSP
                clear x
                obtain ⟨j, x, hj, rfl, gp, hlr, hsp⟩ := hrel
                have G0 := Lib.hid gp; have HSP := Lib.hid hsp; have LR := Lib.hid hlr
                have HNX := Lib.hid (show hLas s7 (j + 1) = ((hLas s7 j).1 ++ [(hLa (j : Int) (hLas s7 j).2).1], (hLa (j : Int) (hLas s7 j).2).2) from rfl)
                have HUB := Lib.hid (HX7.out j)
                clear gp hsp hlr
                by_cases hlt : j < 4
                · obtain ⟨⟨l, u⟩, hu⟩ : ∃ r, hLas s7 j = r := ⟨_, rfl⟩
                  rw [hu] at G0 HNX HUB LR
                  dsimp only at G0 HNX HUB LR
                  clear hu
                  have j1 : (j : Int) < 4 := by omega
                  have j0 : (0 : Int) ≤ (j : Int) := by omega
                  obtain ⟨u1, u2, u3, u4, q, k, f, t, si⟩ := stL9 (j : Int) u HUB.out.1
                  have SI := Lib.hid si
                  have kq : IntKind.i64.wrap (q : Int) = (q : Int) := IntWalk.i64_in _ (by have := si.q32; omega)
                  have kk : IntKind.i64.wrap (k : Int) = (k : Int) := IntWalk.i64_in _ (by have := si.k8; omega)
                  have BF := built_l9 (j : Int) (q : Int)
                  have HU2 := Lib.hid (show u3.xs.length ≤ 1000000 from by have h1 := si.l3; have h2 := HUB.out.2; have h3 := ST.out.n7; have h4 := HXL.out; omega)
                  have HLT := Lib.hid hlt
                  clear si hlt hj
                  go_wp2_with fail
                  refine (hgnum_t g u 4 w wr G0.out.rd SI.out.b0 (by decide) (by decide)).mono ?_
                  rw [SI.out.e1]
                  rintro e w5 ⟨rfl, x_, k_⟩
                  have G1 := Lib.hid (G0.out.read k_ x_)
                  clear x_ k_
                  have E0 := Lib.hid (GE9.new G1.out 26 [.int .i64 (j : Int), .int .i64 (q : Int), .int .i64 0, .slice none 0 0, .bool false])
                  clear G0
                  go_upto_region 26 with (fail)
                  refine world_at (fun Z => GE9 w Z 26 g gx w5.heap.size u1.xs u1.bad x [.int .i64 (j : Int), .int .i64 (q : Int), .int .i64 0, .slice none 0 0, .bool false] none []) E0.out ?_
                  rintro Z1 gz
                  obtain ⟨g3, hg3⟩ : ∃ x, w5.heap.size = x := ⟨_, rfl⟩
                  rw [hg3] at gz ⊢
                  have E1 := Lib.hid gz
                  clear gz E0 hg3 G1 BF kq
                  go_wp2_with fail
                  refine (hgnum_t g u1 1 w Z1 E1.out.gp.rd SI.out.b1 (by decide) (by decide)).mono ?_
                  rw [SI.out.e2]
                  rintro e w6 ⟨rfl, x_, k_⟩
                  have E2 := Lib.hid (E1.out.read k_ x_)
                  have fz := E2.out.el.frozen 2
                  have ct : w6.cell? ⟨g3, 2, none⟩ = some (.int .i64 0) := E2.out.el.cell 2
                  have E3 := Lib.hid (E2.out.store (cs' := [.int .i64 (j : Int), .int .i64 (q : Int), .int .i64 (k : Int), .slice none 0 0, .bool false]) (Kept.setCell (F := fun k => k = g3) (Kept.refl _ _) (p := ⟨g3, 2, none⟩) (.inl rfl) _) (E2.out.el.store 2 (.int .i64 (k : Int))) (by decide))
                  clear x_ k_ E1
                  go_upto_region 27 with (fail)
                  clear fz ct E2
                  obtain ⟨Z2, hZ2⟩ : ∃ V, w6.setCell ⟨g3, 2, none⟩ (.int .i64 (k : Int)) = V := ⟨_, rfl⟩
                  rw [hZ2] at E3 ⊢
                  clear hZ2
                  go_wp2_with fail
                  refine (hyes_t g u2 w Z2 E3.out.gp.rd SI.out.b2).mono ?_
                  rw [SI.out.e3]
                  rintro e w6 ⟨rfl, x_, k_⟩
                  have E2 := Lib.hid (E3.out.read k_ x_)
                  have fz := E2.out.el.frozen 4
                  have ct : w6.cell? ⟨g3, 4, none⟩ = some (.bool false) := E2.out.el.cell 4
                  have E5 := Lib.hid (E2.out.store (cs' := [.int .i64 (j : Int), .int .i64 (q : Int), .int .i64 (k : Int), .slice none 0 0, .bool f]) (Kept.setCell (F := fun k => k = g3) (Kept.refl _ _) (p := ⟨g3, 4, none⟩) (.inl rfl) _) (E2.out.el.store 4 (.bool f)) (by decide))
                  clear x_ k_ E3
                  go_upto_region 28 with (fail)
                  clear fz ct E2
                  obtain ⟨Z3, hZ2⟩ : ∃ V, w6.setCell ⟨g3, 4, none⟩ (.bool f) = V := ⟨_, rfl⟩
                  rw [hZ2] at E5 ⊢
                  clear hZ2
                  go_wp2_with fail
                  refine (hsm_t g u3 w Z3 E5.out.gp.rd SI.out.b3 HU2.out).mono ?_
                  rw [SI.out.e4]
                  rintro e w7 ⟨⟨A, c9, rfl, t7, n7⟩, x_, k_⟩
                  have hsz := E5.out.gp.rd.bel.size
                  have E4 := Lib.hid ((E5.out.read k_ x_).row (yp' := A) (yt' := t) t7 (n7.low hsz))
                  have fz := E4.out.el.frozen 3
                  have ct : w7.cell? ⟨g3, 3, none⟩ = some (.slice none 0 0) := E4.out.el.cell 3
                  have E6b := Lib.hid (E4.out.store (cs' := [.int .i64 (j : Int), .int .i64 (q : Int), .int .i64 (k : Int), .slice A t.length c9, .bool f]) (Kept.setCell (F := fun k => k = g3) (Kept.refl _ _) (p := ⟨g3, 3, none⟩) (.inl rfl) _) (E4.out.el.store 3 (.slice A t.length c9)) (by decide))
                  clear x_ k_ E5 t7 n7 hsz
                  go_upto_region 29 with (fail)
                  clear fz ct E4
                  obtain ⟨Z4, hZ3⟩ : ∃ V, w7.setCell ⟨g3, 3, none⟩ (.slice A t.length c9) = V := ⟨_, rfl⟩
                  rw [hZ3] at E6b ⊢
                  clear hZ3
                  obtain ⟨y, hy⟩ : ∃ y : Rpv, (⟨⟨(j : Int), (q : Int), (k : Int), t, f⟩, A, c9⟩ : Rpv) = y := ⟨_, rfl⟩
                  have E6 := Lib.hid (show GE9 w Z4 26 g gx g3 u4.xs u4.bad x (pv y) y.p y.r.t from by rw [← hy]; exact E6b.out)
                  have HY := Lib.hid hy
                  have FY := Lib.hid (pv_size y); have FO := Lib.hid (pv_oneA y)
                  clear E6b hy kk
                  have GEL := Lib.hid E6.out.el
                  have L4 := Lib.hid E6.out.gp.ys.l4
                  obtain ⟨z, hz⟩ : ∃ z, x.last[j]? = some z := ⟨_, List.getElem?_eq_getElem (by rw [L4.out]; exact HLT.out)⟩
                  have HXZ := Lib.hid hz
                  have BB := Lib.hid (show Blk Z4 gx 29 (svL x j ++ (pv z ++ svR x j)) from by rw [← sv_at x j z hz]; exact E6.out.gp.bx)
                  have LL := Lib.hid (svL_len x j (by have h1 := L4.out; have h2 := HLT.out; omega))
                  clear hz
                  go_wp2_with (first
                    | ((with_reducible refine load_blk 26 (.tmp 12) g3 26 (pv y) _ rfl rfl ?_ Tryz.underlying26 ?_ ?_ ?_ ?_); exact GEL.out; exact rfl; exact FY.out; exact rfl)
                    | ((with_reducible refine store_part 26 (.tmp 115) (.tmp 113) gx (5 + j * 5) 29 (svL x j) (pv z) (svR x j) (pv y) rfl rfl ?_ ?_ ?_ ?_ ?_ ?_ ?_ ?_); exact BB.out; exact LL.out.symm; exact rfl; exact FY.out; exact FO.out; (first | exact rfl | go_simp); exact rfl; intro wz a1 a2 a3; have R9 := Lib.hid (And.intro a1.out (a2.out.keptOneS rfl)); clear a1 a2 a3))
                  have RZ := Lib.hid (show Blk wz gx 29 (sv { x with last := x.last.set j y }) by rw [sv_put x j z y HXZ.out]; exact R9.out.1)
                  have y9 := E6.out.gp.ys
                  have GZ := Lib.hid (E6.out.gp.put (x' := { x with last := x.last.set j y }) R9.out.2 RZ.out ⟨y9.its, y9.it, y9.wts, y9.wt, by show (x.last.set j y).length = 4; rw [List.length_set]; exact L4.out, (fun y' hy' => by
                    rcases List.mem_or_eq_of_mem_set hy' with h | rfl
                    · exact y9.la y' h
                    · exact ⟨E6.out.tr, E6.out.nf⟩), y9.n, y9.m⟩)
                  clear y9 R9 RZ BB E6
                  go_roundw
                  case rel => exact ⟨j + 1, { x with last := x.last.set j y }, HLT.out, by go_num, by rw [HNX.out, SI.out.it]; exact GZ.out, by rw [take_set_snoc (by rw [L4.out]; exact HLT.out), List.map_append, LR.out, HNX.out, SI.out.it, ← HY.out]; rfl, HSP.out⟩
                  case measure => have := HLT.out; simp [intOf]; omega
                · obtain rfl : j = 4 := by omega
                  clear hlt HX7 HNX HUB
                  rw [ST.out.e8] at G0 LR
                  dsimp only at G0 LR
                  have HSQ := Lib.hid (show x.sp = sp0 from by
                    rw [GOT.out]
                    have h := HSP.out
                    simp only [Sp.mk.injEq] at h
                    obtain ⟨h1, h2, h3, h4, h5, _⟩ := h
                    have h6 : x.sp.last = l8 := by
                      rw [← LR.out, List.take_of_length_le (by rw [G0.out.ys.l4]; exact Nat.le_refl _)]
                      rfl
                    have e : x.sp = ⟨x.sp.now, x.sp.its, x.sp.wts, x.sp.rd, x.sp.wr, x.sp.last⟩ := rfl
                    rw [e, h1, h2, h3, h4, h5, h6])
                  clear HSP LR GOT
                  have ET := Lib.hid (rrend_t g s8.xs s8.bad w wr G0.out.rd)
                  obtain ⟨en, hen⟩ : ∃ z, endN s8.xs s8.bad = z := ⟨_, rfl⟩
                  rw [hen] at ET OKD
                  have FZ := Lib.hid (sv_size (gsp 0 0 0) rfl); have FZO := Lib.hid (sv_one (gsp 0 0 0))
                  clear hen
                  by_cases h0 : en = 0
                  · subst h0
                    have MR := Lib.hid (refMaySpace_t x wr G0.out.ys.w)
                    rw [HSQ.out] at MR
                    obtain ⟨mb, hmb⟩ : ∃ b, spMay sp0 = b := ⟨_, rfl⟩
                    rw [hmb] at MR OKD
                    have FX := Lib.hid (sv_size x G0.out.ys.l4); have FXO := Lib.hid (sv_one x)
                    clear hmb
                    go_wp2_with fail
                    refine ET.out.mono ?_
                    rintro e w8 ⟨rfl, rfl⟩
                    have GBX := Lib.hid G0.out.bx
                    go_wp2_with ((with_reducible refine load_blk_gdO 120 29 (.tmp 5) gx 29 (sv x) _ ?_ ?_ rfl ?_ Tryz.underlying29 ?_ ?_ ?_ ?_); exact rfl; kernel_rfl; exact GBX.out; exact rfl; exact FX.out; exact rfl)
                    refine MR.out.mono ?_
                    rintro e w9 ⟨rfl, b9⟩
                    have G9 := Lib.hid (G0.out.below b9)
                    clear b9 MR ET GBX G0
                    cases mb with
                    | false =>
                      have OK := Lib.hid (show ok = false from OKD.out)
                      have RES := Lib.hid G9.out.res
                      have RZ := Lib.hid (G9.out.res.setRow (sv (gsp 0 0 0)))
                      have BF := Lib.hid (below_setRow G9.out.rd.bel (Nat.le_refl _) (sv (gsp 0 0 0)).toArray)
                      have BZ := built_zsp
                      go_wp2_with ((with_reducible refine at_op (.store 29 (.tmp 2) (.tmp 124)) rfl ?_); go_must (refine store_blk 29 (.tmp 2) (.tmp 124) w.heap.size 29 _ (sv (gsp 0 0 0)) rfl rfl RES.out rfl FZ.out FZO.out rfl rfl ?_))
                      exact ret_blkS (p := 2) (u := 3) (ty := 29) rfl rfl w.heap.size 29 _ _ rfl RZ.out Tryz.underlying29 rfl FZ.out _ rfl ⟨BF.out, .inl ⟨OK.out, rfl⟩⟩
                    | true =>
                      have OK := Lib.hid (show ok = true from OKD.out)
                      have RES := Lib.hid G9.out.res
                      have GBX := Lib.hid G9.out.bx
                      have RZ := Lib.hid (G9.out.res.setRow (sv x))
                      have BF := Lib.hid (below_setRow G9.out.rd.bel (Nat.le_refl _) (sv x).toArray)
                      have KW := Lib.hid (G9.out.ys.kept ((Kept.refl (fun k => k = w.heap.size) w9).setRowK (.inl rfl) (sv x).toArray) G9.out.res)
                      have SLX := Lib.hid (show (sv (gsp 0 0 0)).length = (sv x).length from (sv_len _ rfl).trans (sv_len x G9.out.ys.l4).symm)
                      go_wp2_with (first
                        | ((with_reducible refine load_blk 29 (.tmp 5) gx 29 (sv x) _ rfl rfl ?_ Tryz.underlying29 ?_ ?_ ?_ ?_); exact GBX.out; exact rfl; exact FX.out; exact rfl)
                        | ((with_reducible refine at_op (.store 29 (.tmp 2) (.tmp 125)) rfl ?_); go_must (refine store_blk 29 (.tmp 2) (.tmp 125) w.heap.size 29 _ (sv x) rfl rfl RES.out SLX.out FX.out FXO.out rfl rfl ?_)))
                      exact ret_blkS (p := 2) (u := 3) (ty := 29) rfl rfl w.heap.size 29 _ _ rfl RZ.out Tryz.underlying29 rfl FX.out _ rfl ⟨BF.out, .inr ⟨OK.out, x, HSQ.out.trans (GE.out OK.out), rfl, KW.out⟩⟩
                  · have e1 : ((en : Int) != 0) = true := by rw [bne_iff_ne]; omega
                    have OK := Lib.hid (show ok = false from by have := OKD.out; rw [decide_eq_false h0] at this; exact this)
                    go_wp2_with fail
                    refine ET.out.mono ?_
                    rintro e w8 ⟨rfl, rfl⟩
                    clear ET
                    have RES := Lib.hid G0.out.res
                    have RZ := Lib.hid (G0.out.res.setRow (sv (gsp 0 0 0)))
                    have BF := Lib.hid (below_setRow G0.out.rd.bel (Nat.le_refl _) (sv (gsp 0 0 0)).toArray)
                    have BZ := built_zsp
                    go_wp2_with ((with_reducible refine at_op (.store 29 (.tmp 2) (.tmp 124)) rfl ?_); go_must (refine store_blk 29 (.tmp 2) (.tmp 124) w.heap.size 29 _ (sv (gsp 0 0 0)) rfl rfl RES.out rfl FZ.out FZO.out rfl rfl ?_))
                    exact ret_blkS (p := 2) (u := 3) (ty := 29) rfl rfl w.heap.size 29 _ _ rfl RZ.out Tryz.underlying29 rfl FZ.out _ rfl ⟨BF.out, .inl ⟨OK.out, rfl⟩⟩
end Go.Proofs.YtphgognhjdbdjaaGreatDoor
namespace Go.Proofs.YtphgognhjdbdjaaGreatDoor
open Go Go.RowKit Sh

/-- The bytes so far. -/
def oH (s : Sp) : List Nat := beN s.now.toNat 8 ++ (beN s.rd.toNat 1 ++ (beN s.wr.toNat 1 ++ beN s.its.length 1))
def oI (s : Sp) (k : Nat) : List Nat := oH s ++ (s.its.take k).flatMap putI
def oV (s : Sp) : List Nat := oI s s.its.length ++ beN s.wts.length 1
def oW (s : Sp) (k : Nat) : List Nat := oV s ++ (s.wts.take k).flatMap putW
def oL (s : Sp) (k : Nat) : List Nat := oW s s.wts.length ++ (s.last.take k).flatMap putL
theorem flat_take {α : Type} {f : α → List Nat} {l : List α} {k : Nat} {y : α} (h : l[k]? = some y) : (l.take (k + 1)).flatMap f = (l.take k).flatMap f ++ f y := by
  obtain ⟨hk, rfl⟩ := List.getElem?_eq_some_iff.1 h
  rw [List.take_succ_eq_append_getElem hk, List.flatMap_append, List.flatMap_cons, List.flatMap_nil, List.append_nil]
theorem flat_take_le {α : Type} (f : α → List Nat) (l : List α) (k : Nat) : ((l.take k).flatMap f).length ≤ (l.flatMap f).length := by
  conv => rhs; rw [← List.take_append_drop k l, List.flatMap_append, List.length_append]
  omega
theorem oI_succ {s : Sp} {k : Nat} {y : It} (h : s.its[k]? = some y) : oI s (k + 1) = oI s k ++ putI y := by unfold oI; rw [flat_take h, List.append_assoc]
theorem oW_succ {s : Sp} {k : Nat} {y : Wt} (h : s.wts[k]? = some y) : oW s (k + 1) = oW s k ++ putW y := by unfold oW; rw [flat_take h, List.append_assoc]
theorem oL_succ {s : Sp} {k : Nat} {y : Rp} (h : s.last[k]? = some y) : oL s (k + 1) = oL s k ++ putL y := by unfold oL; rw [flat_take h, List.append_assoc]
theorem putS_oL {s : Sp} (h4 : s.last.length = 4) : oL s 4 = putS s := by
  unfold oL oW oV oI oH putS
  rw [List.take_of_length_le (Nat.le_refl _), List.take_of_length_le (Nat.le_refl _), List.take_of_length_le (Nat.le_of_eq h4)]
  simp only [List.append_assoc]
theorem o_le {s : Sp} (h4 : s.last.length = 4) : (∀ k, (oI s k).length ≤ (putS s).length) ∧ (oV s).length ≤ (putS s).length ∧ (∀ k, (oW s k).length ≤ (putS s).length) ∧ (∀ k, (oL s k).length ≤ (putS s).length) := by
  have hl : ∀ k, (oL s k).length ≤ (putS s).length := fun k => by
    rw [← putS_oL h4]
    unfold oL
    have h1 := flat_take_le putL s.last k
    rw [List.length_append, List.length_append, List.take_of_length_le (Nat.le_of_eq h4)]
    omega
  have hw : ∀ k, (oW s k).length ≤ (putS s).length := fun k => by
    refine Nat.le_trans ?_ (hl 0)
    unfold oL oW
    have h1 := flat_take_le putW s.wts k
    simp only [List.length_append, List.take_of_length_le (Nat.le_refl _)]
    omega
  have hv : (oV s).length ≤ (putS s).length := by
    refine Nat.le_trans ?_ (hw 0)
    unfold oW
    simp
  refine ⟨fun k => ?_, hv, hw, hl⟩
  refine Nat.le_trans ?_ hv
  unfold oV oI
  have h1 := flat_take_le putI s.its k
  simp only [List.length_append, List.take_of_length_le (Nat.le_refl _)]
  omega
/-- The space, and the element under way. -/
structure PB9 (w0 W : World) (x : Spv) (g3 : Nat) (t : TypeId) (cs : List Value) : Prop where
  sb : SB w0 W x
  el : Blk W g3 t cs
theorem PB9.below {w0 W W' : World} {x : Spv} {g3 : Nat} {t : TypeId} {cs : List Value} (h : PB9 w0 W x g3 t cs) (hb : Below W.heap.size W W') : PB9 w0 W' x g3 t cs := ⟨h.sb.below hb, h.el.below hb h.el.lt⟩
theorem PB9.bel {w0 W : World} {x : Spv} {g3 : Nat} {t : TypeId} {cs : List Value} (h : PB9 w0 W x g3 t cs) : Below w0.heap.size w0 W := h.sb.bel
theorem bit_eq (b : Bool) : [if b then 1 else 0] = beN (flagN b) 1 := (beN_k1 (flagN b) (by unfold flagN; split <;> decide)).symm
theorem toNat_of {a : Nat} {z : Int} (h : z = (a : Int)) : z.toNat = a := by rw [h]; rfl
theorem nat_of {z : Int} (h : 0 ≤ z) : ∃ a : Nat, z = (a : Int) := ⟨z.toNat, by omega⟩
theorem pC_open {w W : World} {v : Value} {l : List Nat} (h : PC w W v l) : ∃ A c, v = .slice A l.length c ∧ Sr W A l := by
  have ho := h.own
  obtain ⟨A, c, rfl, _⟩ := own_form ho
  exact ⟨A, c, rfl, Sr.of_own ho⟩
set_option maxRecDepth 100000 in
set_option maxHeartbeats 4000000 in
theorem refPutS_t (x : Spv) (w : World) (h : SpW w x) (hm : spMay x.sp = true) :
    Calls Tryz.prog 17 #[.agg (sv x).toArray] w fun e w' => ∃ u, e = .returned u ∧ Fresh 5 w w' u (putS x.sp) := by
  have mw := spMay_w hm
  have h4 : x.sp.last.length = 4 := by show (x.last.map (·.r)).length = 4; rw [List.length_map]; exact h.l4
  have OLE := Lib.hid (o_le h4)
  have PLE := Lib.hid (putS_le hm h4)
  have OPE := Lib.hid (putS_oL h4)
  have MW := Lib.hid mw
  obtain ⟨aLa, bLa, cLa, dLa, las⟩ := las_h h4 mw.la
  have RPB := Lib.hid (show ∀ y ∈ x.sp.last, rpB y = true from fun y hy => by
    rw [las.e] at hy
    simp only [List.mem_cons, List.not_mem_nil, or_false] at hy
    rcases hy with rfl | rfl | rfl | rfl
    · exact las.ar
    · exact las.br
    · exact las.cr
    · exact las.dr)
  obtain ⟨a, ha⟩ := nat_of (show 0 ≤ x.now from mw.n0)
  obtain ⟨b, hb⟩ := nat_of (show 0 ≤ x.rd from mw.r0)
  obtain ⟨d, hd⟩ := nat_of (show 0 ≤ x.wr from mw.w0)
  have a1 : a ≤ 1099511627776 := by have : x.now ≤ 1099511627776 := mw.n1; omega
  have b1 : b ≤ 15 := by have : x.rd ≤ 15 := mw.r1; omega
  have d1 : d ≤ 15 := by have : x.wr ≤ 15 := mw.w1; omega
  have hil : x.its.length ≤ 64 := by have := mw.il; simp only [Spv.sp, List.length_map] at this; exact this
  have hwl : x.wts.length ≤ 16 := by have := mw.wl; simp only [Spv.sp, List.length_map] at this; exact this
  obtain ⟨n, hn⟩ : ∃ n, x.its.length = n := ⟨_, rfl⟩
  obtain ⟨m, hwn⟩ : ∃ n, x.wts.length = n := ⟨_, rfl⟩
  have HI := Lib.hid hn; have HW := Lib.hid hwn
  have n6 : n ≤ 64 := by omega
  have m6 : m ≤ 16 := by omega
  have S0 := Lib.hid (SB.new h)
  have EH := Lib.hid (show oH x.sp = beN a 8 ++ (beN b 1 ++ (beN d 1 ++ beN n 1)) from by
    unfold oH
    rw [show x.sp.now.toNat = a from toNat_of ha, show x.sp.rd.toNat = b from toNat_of hb, show x.sp.wr.toNat = d from toNat_of hd, show x.sp.its.length = n by simp only [Spv.sp, List.length_map]; exact hn])
  have CELL := Lib.hid (fun (W : World) (h : SB w W x) => show W.cell? ⟨w.heap.size, 0, none⟩ = some (.int .i64 (a : Int)) ∧ W.cell? ⟨w.heap.size, 1, none⟩ = some (.slice x.ip n x.ic) ∧ W.cell? ⟨w.heap.size, 2, none⟩ = some (.slice x.wp m x.wc) ∧ W.cell? ⟨w.heap.size, 3, none⟩ = some (.int .i64 (b : Int)) ∧ W.cell? ⟨w.heap.size, 4, none⟩ = some (.int .i64 (d : Int)) from by
    have := sv_cells h.a
    rw [ha, hb, hd, hn, hwn] at this
    exact this)
  have i1 : IntKind.u64.wrap (a : Int) = (a : Int) := IntWalk.u64_in _ (by omega)
  have i2 : IntKind.u64.wrap (b : Int) = (b : Int) := IntWalk.u64_in _ (by omega)
  have i3 : IntKind.u64.wrap (d : Int) = (d : Int) := IntWalk.u64_in _ (by omega)
  have i4 : IntKind.u64.wrap (n : Int) = (n : Int) := IntWalk.u64_in _ (by omega)
  clear h hm mw h4 las ha hb hd hil hwl hn hwn
  go_enter Tryz.func17, Tryz.ntmps17
  go_upto_region 1 with (fail)
  refine wp_region_held (S := fun W => W.cell? ⟨w.heap.size, 0, none⟩ = some (.int .i64 (a : Int)) ∧ W.cell? ⟨w.heap.size, 1, none⟩ = some (.slice x.ip n x.ic) ∧ W.cell? ⟨w.heap.size, 2, none⟩ = some (.slice x.wp m x.wc) ∧ W.cell? ⟨w.heap.size, 3, none⟩ = some (.int .i64 (b : Int)) ∧ W.cell? ⟨w.heap.size, 4, none⟩ = some (.int .i64 (d : Int))) (by kernel_rfl) ?_
  change wpAnyH _ _ _ _ _ _ _ _ (w.alloc (.cells (sv x).toArray 29)).drew
  obtain ⟨U, hU⟩ : ∃ U, (w.alloc (.cells (sv x).toArray 29)).drew = U := ⟨_, rfl⟩
  have Z0 := Lib.hid (show SB w U x from S0.out.below (by rw [← hU]; exact (Below.refl _ _).drew))
  rw [hU]
  clear hU S0
  have r0 := CELL.out _ Z0.out
  refine wpAnyH_take (i := 0) (v := ?_) rfl (by kernel_rfl) (by kernel_rfl) (by kernel_rfl) (fun _ _ _ h => h) (Or.inl ⟨by kernel_rfl, ?_⟩) r0 ?_
  rotate_left 1
  · (intro w hS; clear hS; go_simp; try (with_reducible rfl))
  refine wpAnyH_take (i := 4) (v := ?_) rfl (by kernel_rfl) (by kernel_rfl) (by kernel_rfl) (fun _ _ _ h => h) (Or.inl ⟨by kernel_rfl, ?_⟩) r0 ?_
  rotate_left 1
  · (intro w hS; clear hS; go_simp; try (with_reducible rfl))
  refine wpAnyH_take (i := 8) (v := ?_) rfl (by kernel_rfl) (by kernel_rfl) (by kernel_rfl) (fun _ _ _ h => h) (Or.inl ⟨by kernel_rfl, ?_⟩) r0 ?_
  rotate_left 1
  · (intro w hS; clear hS; go_simp; try (with_reducible rfl))
  refine wpAnyH_take (i := 12) (v := ?_) rfl (by kernel_rfl) (by kernel_rfl) (by kernel_rfl) (fun _ _ _ h => h) (Or.inl ⟨by kernel_rfl, ?_⟩) r0 ?_
  rotate_left 1
  · (intro w hS; clear hS; go_simp; try (with_reducible rfl))
  refine wpAnyH_take (i := 1) (v := ?_) rfl (by kernel_rfl) (by kernel_rfl) (by kernel_rfl) (fun _ _ _ h => h) (Or.inl ⟨by kernel_rfl, ?_⟩) r0 ?_
  rotate_left 1
  · (intro w hS; have hs := hS.1; clear hS; go_simp; try (with_reducible rfl))
  refine wpAnyH_take (i := 5) (v := ?_) rfl (by kernel_rfl) (by kernel_rfl) (by kernel_rfl) (fun _ _ _ h => h) (Or.inl ⟨by kernel_rfl, ?_⟩) r0 ?_
  rotate_left 1
  · (intro w hS; have hs := hS.2.2.2.1; clear hS; go_simp; try (with_reducible rfl))
  refine wpAnyH_take (i := 9) (v := ?_) rfl (by kernel_rfl) (by kernel_rfl) (by kernel_rfl) (fun _ _ _ h => h) (Or.inl ⟨by kernel_rfl, ?_⟩) r0 ?_
  rotate_left 1
  · (intro w hS; have hs := hS.2.2.2.2; clear hS; go_simp; try (with_reducible rfl))
  refine wpAnyH_take (i := 13) (v := ?_) rfl (by kernel_rfl) (by kernel_rfl) (by kernel_rfl) (fun _ _ _ h => h) (Or.inl ⟨by kernel_rfl, ?_⟩) r0 ?_
  rotate_left 1
  · (intro w hS; have hs := hS.2.1; clear hS; go_simp; try (with_reducible rfl))
  refine wpAnyH_take (i := 2) (v := ?_) rfl (by kernel_rfl) (by kernel_rfl) (by kernel_rfl) (fun _ _ _ h => h) (Or.inl ⟨by kernel_rfl, ?_⟩) r0 ?_
  rotate_left 1
  · (intro w hS; clear hS; go_simp; try (with_reducible rfl))
  refine wpAnyH_take (i := 6) (v := ?_) rfl (by kernel_rfl) (by kernel_rfl) (by kernel_rfl) (fun _ _ _ h => h) (Or.inl ⟨by kernel_rfl, ?_⟩) r0 ?_
  rotate_left 1
  · (intro w hS; clear hS; go_simp; try (with_reducible rfl))
  refine wpAnyH_take (i := 10) (v := ?_) rfl (by kernel_rfl) (by kernel_rfl) (by kernel_rfl) (fun _ _ _ h => h) (Or.inl ⟨by kernel_rfl, ?_⟩) r0 ?_
  rotate_left 1
  · (intro w hS; clear hS; go_simp; try (with_reducible rfl))
  refine wpAnyH_take (i := 14) (v := ?_) rfl (by kernel_rfl) (by kernel_rfl) (by kernel_rfl) (fun _ _ _ h => h) (Or.inl ⟨by kernel_rfl, ?_⟩) r0 ?_
  rotate_left 1
  · (intro w hS; clear hS; go_simp; try (with_reducible rfl))
  refine wpAnyH_take (i := 15) (v := ?_) rfl (by kernel_rfl) (by kernel_rfl) (by kernel_rfl) (fun _ _ _ h => h) (Or.inl ⟨by kernel_rfl, ?_⟩) r0 ?_
  rotate_left 1
  · (intro w hS; clear hS; go_simp; try (with_reducible rfl))
  have X0 := Lib.hid (show Six U [] from fun x hx => absurd hx List.not_mem_nil)
  refine wpAnyH_ready (rs := [3]) (by kernel_rfl) (by simp) ?_
  refine AllReadyH.cons rfl (fun K hK => ?_) AllReadyH.nil
  go_simp
  refine (refnum_t a 8 U (by decide) (by decide)).mono ?_
  rintro e w3 ⟨u, rfl, fr⟩
  obtain ⟨A3, k3, rfl, _, sr, bb⟩ := fresh_opO fr
  have Z3 := Lib.hid (Z0.out.below bb); have X3 := Lib.hid ((X0.out.below bb).snoc (c := k3) sr)
  have r3 := CELL.out _ Z3.out
  clear fr sr bb
  refine hK.out _ _ r3 (fun _ => ?_)
  clear hK K Z0 X0
  refine wpAnyH_ready (rs := [7]) (by kernel_rfl) (by simp) ?_
  refine AllReadyH.cons rfl (fun K hK => ?_) AllReadyH.nil
  go_simp
  refine (refnum_t b 1 w3 (by decide) (by decide)).mono ?_
  rintro e w7 ⟨u, rfl, fr⟩
  obtain ⟨A7, k7, rfl, _, sr, bb⟩ := fresh_opO fr
  have Z7 := Lib.hid (Z3.out.below bb); have X7 := Lib.hid ((X3.out.below bb).snoc (c := k7) sr)
  have r7 := CELL.out _ Z7.out
  clear fr sr bb
  refine hK.out _ _ r7 (fun _ => ?_)
  clear hK K Z3 X3
  refine wpAnyH_ready (rs := [11]) (by kernel_rfl) (by simp) ?_
  refine AllReadyH.cons rfl (fun K hK => ?_) AllReadyH.nil
  go_simp
  refine (refnum_t d 1 w7 (by decide) (by decide)).mono ?_
  rintro e w11 ⟨u, rfl, fr⟩
  obtain ⟨A11, k11, rfl, _, sr, bb⟩ := fresh_opO fr
  have Z11 := Lib.hid (Z7.out.below bb); have X11 := Lib.hid ((X7.out.below bb).snoc (c := k11) sr)
  have r11 := CELL.out _ Z11.out
  clear fr sr bb
  refine hK.out _ _ r11 (fun _ => ?_)
  clear hK K Z7 X7
  refine wpAnyH_ready (rs := [16]) (by kernel_rfl) (by simp) ?_
  refine AllReadyH.cons rfl (fun K hK => ?_) AllReadyH.nil
  go_simp
  refine (refnum_t n 1 w11 (by decide) (by decide)).mono ?_
  rintro e w16 ⟨u, rfl, fr⟩
  obtain ⟨A16, k16, rfl, _, sr, bb⟩ := fresh_opO fr
  have Z16 := Lib.hid (Z11.out.below bb); have X16 := Lib.hid ((X11.out.below bb).snoc (c := k16) sr)
  have r16 := CELL.out _ Z16.out
  clear fr sr bb
  refine hK.out _ _ r16 (fun _ => ?_)
  clear hK K Z11 X11
  obtain ⟨lp, hlp⟩ : ∃ l : List PartO, ((([] ++ [⟨A3, k3, beN a 8⟩]) ++ [⟨A7, k7, beN b 1⟩]) ++ [⟨A11, k11, beN d 1⟩]) ++ [⟨A16, k16, beN n 1⟩] = l := ⟨_, rfl⟩
  rw [hlp] at X16
  have LL := Lib.hid (show lp.length = 4 by rw [← hlp]; rfl)
  have PL := Lib.hid (show partsO lp = [.slice A3 (beN a 8).length k3, .slice A7 (beN b 1).length k7, .slice A11 (beN d 1).length k11, .slice A16 (beN n 1).length k16] by rw [← hlp]; rfl)
  have EL := Lib.hid (show catO lp = oI x.sp 0 by rw [← hlp]; show _ = oH x.sp ++ []; rw [List.append_nil, EH.out]; simp [catO])
  have LE := Lib.hid (show (oI x.sp 0).length ≤ 1000000 from by have := OLE.out.1 0; have := PLE.out; omega)
  clear hlp
  have bz : Below w16.heap.size w16 (w16.alloc (.cells (partsO lp).toArray 30)) := (Below.refl _ _).alloc (Nat.le_refl _) _
  have ZZ := Lib.hid (Z16.out.below bz); have XX := Lib.hid (X16.out.below bz)
  have BB := Lib.hid (Blk.new w16 30 (partsO lp))
  have rz := CELL.out _ ZZ.out
  clear bz Z16 X16
  refine wpAnyH_ready (rs := [17]) (by kernel_rfl) (by simp) ?_
  refine AllReadyH.cons rfl (fun K hK => ?_) AllReadyH.nil
  go_simp
  rw [PL.out] at ZZ XX BB rz
  refine hK.out _ _ rz (fun _ => ?_)
  clear hK K
  refine wpAnyH_ready (rs := [18]) (by kernel_rfl) (by simp) ?_
  refine AllReadyH.cons rfl (fun K hK => ?_) AllReadyH.nil
  go_simp
  refine (catO_t lp w16.heap.size 4 4 30 _ LL.out (by rw [PL.out]; exact BB.out) XX.out (by rw [EL.out]; exact LE.out) (by decide)).mono ?_
  rintro e wz ⟨u, rfl, fr⟩
  rw [EL.out] at fr
  have FR := Lib.hid (show PC w wz u (oI x.sp 0) from ⟨own_base fr.1 (fun k hk => Nat.le_trans ZZ.out.bel.size (fr.1.lt k hk).1), ZZ.out.bel.trans (fr.2.mono ZZ.out.bel.size)⟩)
  have ZE := Lib.hid (ZZ.out.below fr.2)
  have rq := CELL.out _ ZE.out
  clear fr ZZ XX BB
  refine hK.out _ _ rq (fun _ => ?_)
  clear hK K
  refine wpAnyH_take (i := 19) (v := ?_) rfl (by kernel_rfl) (by kernel_rfl) (by kernel_rfl) (fun _ _ _ h => h) (Or.inl ⟨by kernel_rfl, ?_⟩) rq ?_
  rotate_left 1
  · (intro w hS; clear hS; go_simp; try (with_reducible rfl))
  refine wpAnyH_done (by kernel_rfl) ?_ _
  go_simp
  clear CELL r0 r3 r7 r11 r16 rz rq PL EL LE LL i1 i2 i3 i4 EH
  obtain ⟨g0, hg0⟩ : ∃ g, w.heap.size = g := ⟨_, rfl⟩
  go_wp2_with fail
  obtain ⟨ip, hip⟩ : ∃ p, x.ip = p := ⟨_, rfl⟩
  obtain ⟨wp, hwp⟩ : ∃ p, x.wp = p := ⟨_, rfl⟩
  have HIP := Lib.hid hip; have HWP := Lib.hid hwp
  clear hip hwp hg0
  go_loopw [3, 4] (fun o t wr => ∃ j : Nat, j ≤ n ∧ t = .int .i64 (j : Int) ∧ SB w wr x ∧ PC w wr o (oI x.sp j)) (fun _ t _ => n - (intOf t).toNat)
  case atStart => exact ⟨0, by omega, rfl, ZE.out, FR.out⟩
  case round =>
    clear ZE FR
    obtain ⟨j, hj, rfl, s0, pc⟩ := hrel
    obtain ⟨A0, k0, rfl, sr0⟩ := pC_open pc
    have S0 := Lib.hid s0; have FR := Lib.hid pc; have SR0 := Lib.hid sr0
    clear s0 pc sr0
    have c1 := (sv_cells S0.out.a).2.1
    rw [HIP.out, HI.out] at c1
    by_cases hlt : j < n
    · obtain ⟨y, hy⟩ : ∃ y, x.its[j]? = some y := ⟨_, List.getElem?_eq_getElem (by rw [HI.out]; exact hlt)⟩
      obtain ⟨b, o, hpe, hbl, rg⟩ := S0.out.rx.its j y hy
      obtain rfl : ip = some ⟨b, o, none⟩ := HIP.out.symm.trans hpe
      have RG := Lib.hid rg
      have j1 : (j : Int) < (n : Int) := by omega
      have FS := Lib.hid (iv_size y); have F1 := Lib.hid (iv_oneA y)
      have A1 := Lib.hid (Blk.new wr 91 [.int .i64 0, .int .i64 0, .slice none 0 0])
      have A2 := Lib.hid (A1.out.setRow (iv y))
      have W1 := Lib.hid (below_setRow ((Below.refl wr.heap.size wr).alloc (Nat.le_refl _) (.cells ([.int .i64 0, .int .i64 0, .slice none 0 0]).toArray 91)) (Nat.le_refl _) (iv y).toArray)
      have YB := Lib.hid (itB_h9 (MW.out.it y.i (List.mem_map_of_mem (List.mem_of_getElem? hy))) MW.out.n0)
      have HO := Lib.hid (oI_succ (s := x.sp) (k := j) (y := y.i) (by show (x.its.map (·.i))[j]? = _; rw [List.getElem?_map, hy]; rfl))
      have YT := Lib.hid (fun (W : World) (h : PB9 w W x wr.heap.size 91 (iv y)) => h.sb.rx.it y (List.mem_of_getElem? hy))
      clear rg hpe hbl hy
      go_upto_region 6 with (first
        | ((with_reducible refine at_op (.load 91 (.tmp 39)) rfl ?_); go_must (refine wpList_load_mid rfl 91 (.tmp 39) rfl b (o + j * 3) rfl (iv y) _ RG.out Tryz.underlying91 rfl FS.out ?_))
        | ((with_reducible refine store_blk 91 (.tmp 5) (.tmp 40) wr.heap.size 91 [.int .i64 0, .int .i64 0, .slice none 0 0] (iv y) rfl rfl ?_ ?_ ?_ ?_ ?_ ?_ ?_); exact A1.out; exact rfl; exact FS.out; exact F1.out; exact rfl; exact rfl))
      obtain ⟨⟨ow, un, tt⟩, yp, yc⟩ := y
      obtain ⟨ha1, ha2, hb1, hb2, hpf⟩ := YB.out
      dsimp only at ha1 ha2 hb1 hb2
      obtain ⟨a, rfl⟩ := nat_of ha1
      obtain ⟨d, rfl⟩ := nat_of hb1
      have PFH := Lib.hid hpf; have PFL := Lib.hid (show (pf tt.length (gl tt)).length ≤ 271 from pfl_length hpf)
      have i1 : IntKind.u64.wrap (a : Int) = (a : Int) := IntWalk.u64_in _ (by omega)
      have i2 : IntKind.u64.wrap (d : Int) = (d : Int) := IntWalk.u64_in _ (by omega)
      clear ha1 ha2 hb1 hb2 hpf YB
      obtain ⟨V2, hV⟩ : ∃ V, (wr.alloc (.cells #[.int .i64 0, .int .i64 0, .slice none 0 0] 91)).setRow wr.heap.size (iv ⟨⟨(a : Int), (d : Int), tt⟩, yp, yc⟩).toArray = V := ⟨_, rfl⟩
      rw [hV] at A2 W1 ⊢
      obtain ⟨U, hU⟩ : ∃ U, V2.drew = U := ⟨_, rfl⟩
      have BU := Lib.hid (show Below V2.heap.size V2 U from by rw [← hU]; exact (Below.refl _ _).drew)
      have Z0 := Lib.hid (show PB9 w U x wr.heap.size 91 (iv ⟨⟨(a : Int), (d : Int), tt⟩, yp, yc⟩) from (PB9.mk (S0.out.below W1.out) A2.out).below BU.out)
      have X0 := Lib.hid (show Six U [⟨A0, k0, oI x.sp j⟩] from fun z hz => by obtain rfl := List.mem_singleton.1 hz; exact (SR0.out.below W1.out).below BU.out)
      have TRF := Lib.hid (fun (W : World) (h : PB9 w W x wr.heap.size 91 (iv ⟨⟨(a : Int), (d : Int), tt⟩, yp, yc⟩)) => show TR W yp tt from YT.out W h)
      have CELL := Lib.hid (fun (W : World) (h : PB9 w W x wr.heap.size 91 (iv ⟨⟨(a : Int), (d : Int), tt⟩, yp, yc⟩)) => show W.cell? ⟨wr.heap.size, 0, none⟩ = some (.int .i64 (a : Int)) ∧ W.cell? ⟨wr.heap.size, 1, none⟩ = some (.int .i64 (d : Int)) ∧ W.cell? ⟨wr.heap.size, 2, none⟩ = some (.slice yp tt.length yc) from iv_cells h.el)
      clear YT A1 RG FS F1 c1 S0 FR SR0
      obtain ⟨g3, hg3⟩ : ∃ g, wr.heap.size = g := ⟨_, rfl⟩
      rw [hg3] at Z0 TRF CELL ⊢
      refine wp_region_held (S := fun W => W.cell? ⟨g3, 0, none⟩ = some (.int .i64 (a : Int)) ∧ W.cell? ⟨g3, 1, none⟩ = some (.int .i64 (d : Int)) ∧ W.cell? ⟨g3, 2, none⟩ = some (.slice yp tt.length yc)) (by kernel_rfl) ?_
      change wpAnyH _ _ _ _ _ _ _ _ V2.drew
      rw [hU]
      clear hU hV hg3 A2 W1 BU
      have r0 := CELL.out _ Z0.out
      refine wpAnyH_take (i := 0) (v := ?_) rfl (by kernel_rfl) (by kernel_rfl) (by kernel_rfl) (fun _ _ _ h => h) (Or.inl ⟨by kernel_rfl, ?_⟩) r0 ?_
      rotate_left 1
      · (intro w hS; clear hS; go_simp; try (with_reducible rfl))
      refine wpAnyH_take (i := 1) (v := ?_) rfl (by kernel_rfl) (by kernel_rfl) (by kernel_rfl) (fun _ _ _ h => h) (Or.inl ⟨by kernel_rfl, ?_⟩) r0 ?_
      rotate_left 1
      · (intro w hS; clear hS; go_simp; try (with_reducible rfl))
      refine wpAnyH_take (i := 5) (v := ?_) rfl (by kernel_rfl) (by kernel_rfl) (by kernel_rfl) (fun _ _ _ h => h) (Or.inl ⟨by kernel_rfl, ?_⟩) r0 ?_
      rotate_left 1
      · (intro w hS; clear hS; go_simp; try (with_reducible rfl))
      refine wpAnyH_take (i := 9) (v := ?_) rfl (by kernel_rfl) (by kernel_rfl) (by kernel_rfl) (fun _ _ _ h => h) (Or.inl ⟨by kernel_rfl, ?_⟩) r0 ?_
      rotate_left 1
      · (intro w hS; clear hS; go_simp; try (with_reducible rfl))
      refine wpAnyH_take (i := 2) (v := ?_) rfl (by kernel_rfl) (by kernel_rfl) (by kernel_rfl) (fun _ _ _ h => h) (Or.inl ⟨by kernel_rfl, ?_⟩) r0 ?_
      rotate_left 1
      · (intro w hS; have hs := hS.1; clear hS; go_simp; try (with_reducible rfl))
      refine wpAnyH_take (i := 6) (v := ?_) rfl (by kernel_rfl) (by kernel_rfl) (by kernel_rfl) (fun _ _ _ h => h) (Or.inl ⟨by kernel_rfl, ?_⟩) r0 ?_
      rotate_left 1
      · (intro w hS; have hs := hS.2.1; clear hS; go_simp; try (with_reducible rfl))
      refine wpAnyH_take (i := 10) (v := ?_) rfl (by kernel_rfl) (by kernel_rfl) (by kernel_rfl) (fun _ _ _ h => h) (Or.inl ⟨by kernel_rfl, ?_⟩) r0 ?_
      rotate_left 1
      · (intro w hS; have hs := hS.2.2; clear hS; go_simp; try (with_reducible rfl))
      refine wpAnyH_take (i := 3) (v := ?_) rfl (by kernel_rfl) (by kernel_rfl) (by kernel_rfl) (fun _ _ _ h => h) (Or.inl ⟨by kernel_rfl, ?_⟩) r0 ?_
      rotate_left 1
      · (intro w hS; clear hS; go_simp; try (with_reducible rfl))
      refine wpAnyH_take (i := 7) (v := ?_) rfl (by kernel_rfl) (by kernel_rfl) (by kernel_rfl) (fun _ _ _ h => h) (Or.inl ⟨by kernel_rfl, ?_⟩) r0 ?_
      rotate_left 1
      · (intro w hS; clear hS; go_simp; try (with_reducible rfl))
      refine wpAnyH_ready (rs := [4]) (by kernel_rfl) (by simp) ?_
      refine AllReadyH.cons rfl (fun K hK => ?_) AllReadyH.nil
      go_simp
      refine (refnum_t a 1 U (by decide) (by decide)).mono ?_
      rintro e w4 ⟨u, rfl, fr⟩
      obtain ⟨A4, k4, rfl, _, sr, bb⟩ := fresh_opO fr
      have Z4 := Lib.hid (Z0.out.below bb); have X4 := Lib.hid ((X0.out.below bb).snoc (c := k4) sr)
      have r4 := CELL.out _ Z4.out
      clear fr sr bb
      refine hK.out _ _ r4 (fun _ => ?_)
      clear hK K Z0 X0
      refine wpAnyH_ready (rs := [8]) (by kernel_rfl) (by simp) ?_
      refine AllReadyH.cons rfl (fun K hK => ?_) AllReadyH.nil
      go_simp
      refine (refnum_t d 8 w4 (by decide) (by decide)).mono ?_
      rintro e w8 ⟨u, rfl, fr⟩
      obtain ⟨A8, k8, rfl, _, sr, bb⟩ := fresh_opO fr
      have Z8 := Lib.hid (Z4.out.below bb); have X8 := Lib.hid ((X4.out.below bb).snoc (c := k8) sr)
      have r8 := CELL.out _ Z8.out
      clear fr sr bb
      refine hK.out _ _ r8 (fun _ => ?_)
      clear hK K Z4 X4
      refine wpAnyH_ready (rs := [11]) (by kernel_rfl) (by simp) ?_
      refine AllReadyH.cons rfl (fun K hK => ?_) AllReadyH.nil
      go_simp
      refine (refpf_t tt.length yc yp (gl tt) w8 (TRF.out _ Z8.out).t PFH.out).mono ?_
      rintro e w11 ⟨u, rfl, fr⟩
      obtain ⟨A11, k11, rfl, _, sr, bb⟩ := fresh_opO fr
      have Z11 := Lib.hid (Z8.out.below bb); have Spf := Lib.hid sr
      have X11 := Lib.hid (X8.out.below bb)
      have r11 := CELL.out _ Z11.out
      clear fr sr bb Z8 X8
      refine hK.out _ _ r11 (fun _ => ?_)
      clear hK K
      refine wpAnyH_ready (rs := [12]) (by kernel_rfl) (by simp) ?_
      refine AllReadyH.cons rfl (fun K hK => ?_) AllReadyH.nil
      go_simp
      refine (reftext_t (pf tt.length (gl tt)) A11 _ k11 w11 rfl Spf.out (by have := PFL.out; omega)).mono ?_
      rintro e w12 ⟨u, rfl, fr⟩
      obtain ⟨A12, k12, rfl, _, sr, bb⟩ := fresh_opO fr
      have Z12 := Lib.hid (Z11.out.below bb); have X12 := Lib.hid ((X11.out.below bb).snoc (c := k12) sr)
      have r12 := CELL.out _ Z12.out
      clear fr sr bb Z11 X11 Spf
      refine hK.out _ _ r12 (fun _ => ?_)
      clear hK K
      obtain ⟨lp, hlp⟩ : ∃ l : List PartO, (([⟨A0, k0, oI x.sp j⟩] ++ [⟨A4, k4, beN a 1⟩]) ++ [⟨A8, k8, beN d 8⟩]) ++ [⟨A12, k12, txtN (pf tt.length (gl tt))⟩] = l := ⟨_, rfl⟩
      rw [hlp] at X12
      have LL := Lib.hid (show lp.length = 4 by rw [← hlp]; rfl)
      have PL := Lib.hid (show partsO lp = [.slice A0 (oI x.sp j).length k0, .slice A4 (beN a 1).length k4, .slice A8 (beN d 8).length k8, .slice A12 (txtN (pf tt.length (gl tt))).length k12] by rw [← hlp]; rfl)
      have EL := Lib.hid (show catO lp = oI x.sp (j + 1) by rw [← hlp, HO.out]; simp [catO, putI, pfl])
      have LE := Lib.hid (show (oI x.sp (j + 1)).length ≤ 1000000 from by have := OLE.out.1 (j + 1); have := PLE.out; omega)
      clear hlp
      have bz : Below w12.heap.size w12 (w12.alloc (.cells (partsO lp).toArray 30)) := (Below.refl _ _).alloc (Nat.le_refl _) _
      have ZZ := Lib.hid (Z12.out.below bz); have XX := Lib.hid (X12.out.below bz)
      have BB := Lib.hid (Blk.new w12 30 (partsO lp))
      have rz := CELL.out _ ZZ.out
      clear bz Z12 X12
      refine wpAnyH_ready (rs := [13]) (by kernel_rfl) (by simp) ?_
      refine AllReadyH.cons rfl (fun K hK => ?_) AllReadyH.nil
      go_simp
      rw [PL.out] at ZZ XX BB rz
      refine hK.out _ _ rz (fun _ => ?_)
      clear hK K
      refine wpAnyH_ready (rs := [14]) (by kernel_rfl) (by simp) ?_
      refine AllReadyH.cons rfl (fun K hK => ?_) AllReadyH.nil
      go_simp
      refine (catO_t lp w12.heap.size 4 4 30 _ LL.out (by rw [PL.out]; exact BB.out) XX.out (by rw [EL.out]; exact LE.out) (by decide)).mono ?_
      rintro e wz ⟨u, rfl, fr⟩
      rw [EL.out] at fr
      have FR := Lib.hid (show PC w wz u (oI x.sp (j + 1)) from ⟨own_base fr.1 (fun k hk => Nat.le_trans ZZ.out.bel.size (fr.1.lt k hk).1), ZZ.out.bel.trans (fr.2.mono ZZ.out.bel.size)⟩)
      have ZE := Lib.hid (ZZ.out.below fr.2)
      have rq := CELL.out _ ZE.out
      clear fr ZZ XX BB
      refine hK.out _ _ rq (fun _ => ?_)
      clear hK K
      refine wpAnyH_take (i := 15) (v := ?_) rfl (by kernel_rfl) (by kernel_rfl) (by kernel_rfl) (fun _ _ _ h => h) (Or.inl ⟨by kernel_rfl, ?_⟩) rq ?_
      rotate_left 1
      · (intro w hS; clear hS; go_simp; try (with_reducible rfl))
      refine wpAnyH_done (by kernel_rfl) ?_ _
      go_simp
      go_wp2_with fail
      go_roundw
      case rel => exact ⟨j + 1, hlt, by go_num, ZE.out.sb, FR.out⟩
      case measure => simp [intOf]; omega
    · obtain rfl : j = n := by omega
      clear hlt
      have HOV := Lib.hid (show oV x.sp = oI x.sp j ++ beN m 1 from by
        unfold oV
        rw [show x.sp.its.length = j by simp only [Spv.sp, List.length_map]; exact HI.out, show x.sp.wts.length = m by simp only [Spv.sp, List.length_map]; exact HW.out])
      have c2 := (sv_cells S0.out.a).2.2.1
      rw [HWP.out, HW.out] at c2
      have i5 : IntKind.u64.wrap (m : Int) = (m : Int) := IntWalk.u64_in _ (by omega)
      go_wp2_with fail
      refine (refnum_t m 1 wr (by decide) (by decide)).mono ?_
      rintro e w5 ⟨u, rfl, fr⟩
      obtain ⟨A5, k5, rfl, _, sr5, b5⟩ := fresh_opO fr
      have S5 := Lib.hid (S0.out.below b5); have X5 := Lib.hid (SR0.out.below b5); have Y5 := Lib.hid sr5
      clear fr sr5 b5 S0 SR0 FR c1 c2 i5
      go_wp2_with fail
      have BP := Lib.hid (Blk.new w5 30 (partsO [⟨A0, k0, oI x.sp j⟩, ⟨A5, k5, beN m 1⟩]))
      have BW := Lib.hid (show Below w5.heap.size w5 (w5.alloc (.cells (partsO [⟨A0, k0, oI x.sp j⟩, ⟨A5, k5, beN m 1⟩]).toArray 30)) from (Below.refl _ _).alloc (Nat.le_refl _) _)
      have EV := Lib.hid (show catO [⟨A0, k0, oI x.sp j⟩, ⟨A5, k5, beN m 1⟩] = oV x.sp by rw [HOV.out]; simp [catO])
      have LV := Lib.hid (show (oV x.sp).length ≤ 1000000 from by have := OLE.out.2.1; have := PLE.out; omega)
      refine (catO_t [⟨A0, k0, oI x.sp j⟩, ⟨A5, k5, beN m 1⟩] w5.heap.size 2 2 30 _ rfl BP.out (fun z hz => by
        simp only [List.mem_cons, List.not_mem_nil, or_false] at hz
        rcases hz with rfl | rfl
        · exact X5.out.below BW.out
        · exact Y5.out.below BW.out) (by rw [EV.out]; exact LV.out) (by decide)).mono ?_
      rintro e w6 ⟨u, rfl, fr⟩
      rw [EV.out] at fr
      have S6 := Lib.hid ((S5.out.below BW.out).below fr.2)
      have hsz : w.heap.size ≤ (w5.alloc (.cells (partsO [⟨A0, k0, oI x.sp j⟩, ⟨A5, k5, beN m 1⟩]).toArray 30)).heap.size := (S5.out.below BW.out).bel.size
      have FV := Lib.hid (show PC w w6 u (oW x.sp 0) from by
        rw [show oW x.sp 0 = oV x.sp from List.append_nil _]
        exact ⟨own_base fr.1 (fun k hk => Nat.le_trans hsz (fr.1.lt k hk).1), S6.out.bel⟩)
      clear fr hsz S5 X5 Y5 BP BW EV LV HOV
      go_wp2_with fail
      go_loopw [3, 6] (fun o t wr => ∃ j : Nat, j ≤ m ∧ t = .int .i64 (j : Int) ∧ SB w wr x ∧ PC w wr o (oW x.sp j)) (fun _ t _ => m - (intOf t).toNat)
      case atStart => exact ⟨0, by omega, rfl, S6.out, FV.out⟩
      case round =>
        clear S6 FV
        obtain ⟨j, hj, rfl, s0, pc⟩ := hrel
        obtain ⟨A0, k0, rfl, sr0⟩ := pC_open pc
        have S0 := Lib.hid s0; have FR := Lib.hid pc; have SR0 := Lib.hid sr0
        clear s0 pc sr0
        have c1 := (sv_cells S0.out.a).2.2.1
        rw [HWP.out, HW.out] at c1
        by_cases hlt : j < m
        · skip
          obtain ⟨y, hy⟩ : ∃ y, x.wts[j]? = some y := ⟨_, List.getElem?_eq_getElem (by rw [HW.out]; exact hlt)⟩
          obtain ⟨b, o, hpe, hbl, rg⟩ := S0.out.rx.wts j y hy
          obtain rfl : wp = some ⟨b, o, none⟩ := HWP.out.symm.trans hpe
          have RG := Lib.hid rg
          have j1 : (j : Int) < (m : Int) := by omega
          have FS := Lib.hid (wv_size y); have F1 := Lib.hid (wv_oneA y)
          have A1 := Lib.hid (Blk.new wr 93 [.int .i64 0, .int .i64 0, .bool false, .slice none 0 0])
          have A2 := Lib.hid (A1.out.setRow (wv y))
          have W1 := Lib.hid (below_setRow ((Below.refl wr.heap.size wr).alloc (Nat.le_refl _) (.cells ([.int .i64 0, .int .i64 0, .bool false, .slice none 0 0]).toArray 93)) (Nat.le_refl _) (wv y).toArray)
          have YB := Lib.hid (wtB_h9 (MW.out.wt y.x (List.mem_map_of_mem (List.mem_of_getElem? hy))))
          have HO := Lib.hid (oW_succ (s := x.sp) (k := j) (y := y.x) (by show (x.wts.map (·.x))[j]? = _; rw [List.getElem?_map, hy]; rfl))
          have YT := Lib.hid (fun (W : World) (h : PB9 w W x wr.heap.size 93 (wv y)) => h.sb.rx.wt y (List.mem_of_getElem? hy))
          clear rg hpe hbl hy
          go_upto_region 12 with (first
            | ((with_reducible refine at_op (.load 93 (.tmp 74)) rfl ?_); go_must (refine wpList_load_mid rfl 93 (.tmp 74) rfl b (o + j * 4) rfl (wv y) _ RG.out Tryz.underlying93 rfl FS.out ?_))
            | ((with_reducible refine store_blk 93 (.tmp 7) (.tmp 75) wr.heap.size 93 [.int .i64 0, .int .i64 0, .bool false, .slice none 0 0] (wv y) rfl rfl ?_ ?_ ?_ ?_ ?_ ?_ ?_); exact A1.out; exact rfl; exact FS.out; exact F1.out; exact rfl; exact rfl))
          obtain ⟨⟨ow, un, tk, tt⟩, yp, yc⟩ := y
          obtain ⟨ha1, ha2, hb1, hb2, hpf⟩ := YB.out
          dsimp only at ha1 ha2 hb1 hb2
          obtain ⟨a, rfl⟩ := nat_of ha1
          obtain ⟨d, rfl⟩ := nat_of (show 0 ≤ un by omega)
          have PFH := Lib.hid hpf; have PFL := Lib.hid (show (pf tt.length (gl tt)).length ≤ 271 from pfl_length hpf)
          have i1 : IntKind.u64.wrap (a : Int) = (a : Int) := IntWalk.u64_in _ (by omega)
          have i2 : IntKind.u64.wrap (d : Int) = (d : Int) := IntWalk.u64_in _ (by omega)
          clear ha1 ha2 hb1 hb2 hpf YB
          obtain ⟨V2, hV⟩ : ∃ V, (wr.alloc (.cells #[.int .i64 0, .int .i64 0, .bool false, .slice none 0 0] 93)).setRow wr.heap.size ((wv ⟨⟨(a : Int), (d : Int), tk, tt⟩, yp, yc⟩)).toArray = V := ⟨_, rfl⟩
          rw [hV] at A2 W1 ⊢
          obtain ⟨U, hU⟩ : ∃ U, V2.drew = U := ⟨_, rfl⟩
          have BU := Lib.hid (show Below V2.heap.size V2 U from by rw [← hU]; exact (Below.refl _ _).drew)
          have Z0 := Lib.hid (show PB9 w U x wr.heap.size 93 (wv ⟨⟨(a : Int), (d : Int), tk, tt⟩, yp, yc⟩) from (PB9.mk (S0.out.below W1.out) A2.out).below BU.out)
          have X0 := Lib.hid (show Six U [⟨A0, k0, (oW x.sp j)⟩] from fun z hz => by obtain rfl := List.mem_singleton.1 hz; exact (SR0.out.below W1.out).below BU.out)
          have TRF := Lib.hid (fun (W : World) (h : PB9 w W x wr.heap.size 93 (wv ⟨⟨(a : Int), (d : Int), tk, tt⟩, yp, yc⟩)) => show TR W yp tt from YT.out W h)
          have CELL := Lib.hid (fun (W : World) (h : PB9 w W x wr.heap.size 93 (wv ⟨⟨(a : Int), (d : Int), tk, tt⟩, yp, yc⟩)) => show W.cell? ⟨wr.heap.size, 0, none⟩ = some (.int .i64 (a : Int)) ∧ W.cell? ⟨wr.heap.size, 1, none⟩ = some (.int .i64 (d : Int)) ∧ W.cell? ⟨wr.heap.size, 2, none⟩ = some (.bool tk) ∧ W.cell? ⟨wr.heap.size, 3, none⟩ = some (.slice yp tt.length yc) from wv_cells h.el)
          clear YT A1 RG FS F1 c1 S0 FR SR0
          obtain ⟨g3, hg3⟩ : ∃ g, wr.heap.size = g := ⟨_, rfl⟩
          rw [hg3] at Z0 TRF CELL ⊢
          refine wp_region_held (S := fun W => W.cell? ⟨g3, 0, none⟩ = some (.int .i64 (a : Int)) ∧ W.cell? ⟨g3, 1, none⟩ = some (.int .i64 (d : Int)) ∧ W.cell? ⟨g3, 2, none⟩ = some (.bool tk) ∧ W.cell? ⟨g3, 3, none⟩ = some (.slice yp tt.length yc)) (by kernel_rfl) ?_
          change wpAnyH _ _ _ _ _ _ _ _ V2.drew
          rw [hU]
          clear hU hV hg3 A2 W1 BU
          have r0 := CELL.out _ Z0.out
          refine wpAnyH_take (i := 0) (v := ?_) rfl (by kernel_rfl) (by kernel_rfl) (by kernel_rfl) (fun _ _ _ h => h) (Or.inl ⟨by kernel_rfl, ?_⟩) r0 ?_
          rotate_left 1
          · (intro w hS; clear hS; go_simp; try (with_reducible rfl))
          refine wpAnyH_take (i := 1) (v := ?_) rfl (by kernel_rfl) (by kernel_rfl) (by kernel_rfl) (fun _ _ _ h => h) (Or.inl ⟨by kernel_rfl, ?_⟩) r0 ?_
          rotate_left 1
          · (intro w hS; clear hS; go_simp; try (with_reducible rfl))
          refine wpAnyH_take (i := 5) (v := ?_) rfl (by kernel_rfl) (by kernel_rfl) (by kernel_rfl) (fun _ _ _ h => h) (Or.inl ⟨by kernel_rfl, ?_⟩) r0 ?_
          rotate_left 1
          · (intro w hS; clear hS; go_simp; try (with_reducible rfl))
          refine wpAnyH_take (i := 9) (v := ?_) rfl (by kernel_rfl) (by kernel_rfl) (by kernel_rfl) (fun _ _ _ h => h) (Or.inl ⟨by kernel_rfl, ?_⟩) r0 ?_
          rotate_left 1
          · (intro w hS; clear hS; go_simp; try (with_reducible rfl))
          refine wpAnyH_take (i := 12) (v := ?_) rfl (by kernel_rfl) (by kernel_rfl) (by kernel_rfl) (fun _ _ _ h => h) (Or.inl ⟨by kernel_rfl, ?_⟩) r0 ?_
          rotate_left 1
          · (intro w hS; clear hS; go_simp; try (with_reducible rfl))
          refine wpAnyH_take (i := 2) (v := ?_) rfl (by kernel_rfl) (by kernel_rfl) (by kernel_rfl) (fun _ _ _ h => h) (Or.inl ⟨by kernel_rfl, ?_⟩) r0 ?_
          rotate_left 1
          · (intro w hS; have hs := hS.1; clear hS; go_simp; try (with_reducible rfl))
          refine wpAnyH_take (i := 6) (v := ?_) rfl (by kernel_rfl) (by kernel_rfl) (by kernel_rfl) (fun _ _ _ h => h) (Or.inl ⟨by kernel_rfl, ?_⟩) r0 ?_
          rotate_left 1
          · (intro w hS; have hs := hS.2.1; clear hS; go_simp; try (with_reducible rfl))
          refine wpAnyH_take (i := 10) (v := ?_) rfl (by kernel_rfl) (by kernel_rfl) (by kernel_rfl) (fun _ _ _ h => h) (Or.inl ⟨by kernel_rfl, ?_⟩) r0 ?_
          rotate_left 1
          · (intro w hS; have hs := hS.2.2.1; clear hS; go_simp; try (with_reducible rfl))
          refine wpAnyH_take (i := 13) (v := ?_) rfl (by kernel_rfl) (by kernel_rfl) (by kernel_rfl) (fun _ _ _ h => h) (Or.inl ⟨by kernel_rfl, ?_⟩) r0 ?_
          rotate_left 1
          · (intro w hS; have hs := hS.2.2.2; clear hS; go_simp; try (with_reducible rfl))
          refine wpAnyH_take (i := 3) (v := ?_) rfl (by kernel_rfl) (by kernel_rfl) (by kernel_rfl) (fun _ _ _ h => h) (Or.inl ⟨by kernel_rfl, ?_⟩) r0 ?_
          rotate_left 1
          · (intro w hS; clear hS; go_simp; try (with_reducible rfl))
          refine wpAnyH_take (i := 7) (v := ?_) rfl (by kernel_rfl) (by kernel_rfl) (by kernel_rfl) (fun _ _ _ h => h) (Or.inl ⟨by kernel_rfl, ?_⟩) r0 ?_
          rotate_left 1
          · (intro w hS; clear hS; go_simp; try (with_reducible rfl))
          refine wpAnyH_ready (rs := [4]) (by kernel_rfl) (by simp) ?_
          refine AllReadyH.cons rfl (fun K hK => ?_) AllReadyH.nil
          go_simp
          refine (refnum_t a 1 U (by decide) (by decide)).mono ?_
          rintro e w4 ⟨u, rfl, fr⟩
          obtain ⟨A4, k4, rfl, _, sr, bb⟩ := fresh_opO fr
          have Z4 := Lib.hid (Z0.out.below bb); have X4 := Lib.hid ((X0.out.below bb).snoc (c := k4) sr)
          have r4 := CELL.out _ Z4.out
          clear fr sr bb
          refine hK.out _ _ r4 (fun _ => ?_)
          clear hK K Z0 X0
          refine wpAnyH_ready (rs := [8]) (by kernel_rfl) (by simp) ?_
          refine AllReadyH.cons rfl (fun K hK => ?_) AllReadyH.nil
          go_simp
          refine (refnum_t d 4 w4 (by decide) (by decide)).mono ?_
          rintro e w8 ⟨u, rfl, fr⟩
          obtain ⟨A8, k8, rfl, _, sr, bb⟩ := fresh_opO fr
          have Z8 := Lib.hid (Z4.out.below bb); have X8 := Lib.hid ((X4.out.below bb).snoc (c := k8) sr)
          have r8 := CELL.out _ Z8.out
          clear fr sr bb
          refine hK.out _ _ r8 (fun _ => ?_)
          clear hK K Z4 X4
          refine wpAnyH_ready (rs := [11]) (by kernel_rfl) (by simp) ?_
          refine AllReadyH.cons rfl (fun K hK => ?_) AllReadyH.nil
          go_simp
          refine (bit_t tk w8).mono ?_
          rintro e w11 ⟨u, rfl, fr⟩
          obtain ⟨A11, k11, rfl, _, sr, bb⟩ := fresh_opO fr
          have Z11 := Lib.hid (Z8.out.below bb); have X11 := Lib.hid ((X8.out.below bb).snoc (c := k11) sr)
          have r11 := CELL.out _ Z11.out
          clear fr sr bb
          refine hK.out _ _ r11 (fun _ => ?_)
          clear hK K Z8 X8
          refine wpAnyH_ready (rs := [14]) (by kernel_rfl) (by simp) ?_
          refine AllReadyH.cons rfl (fun K hK => ?_) AllReadyH.nil
          go_simp
          refine (refpf_t tt.length yc yp (gl tt) w11 (TRF.out _ Z11.out).t PFH.out).mono ?_
          rintro e w14 ⟨u, rfl, fr⟩
          obtain ⟨A14, k14, rfl, _, sr, bb⟩ := fresh_opO fr
          have Z14 := Lib.hid (Z11.out.below bb); have Spf := Lib.hid sr
          have X14 := Lib.hid (X11.out.below bb)
          have r14 := CELL.out _ Z14.out
          clear fr sr bb Z11 X11
          refine hK.out _ _ r14 (fun _ => ?_)
          clear hK K
          refine wpAnyH_ready (rs := [15]) (by kernel_rfl) (by simp) ?_
          refine AllReadyH.cons rfl (fun K hK => ?_) AllReadyH.nil
          go_simp
          refine (reftext_t (pf tt.length (gl tt)) A14 _ k14 w14 rfl Spf.out (by have := PFL.out; omega)).mono ?_
          rintro e w15 ⟨u, rfl, fr⟩
          obtain ⟨A15, k15, rfl, _, sr, bb⟩ := fresh_opO fr
          have Z15 := Lib.hid (Z14.out.below bb); have X15 := Lib.hid ((X14.out.below bb).snoc (c := k15) sr)
          have r15 := CELL.out _ Z15.out
          clear fr sr bb Z14 X14 Spf
          refine hK.out _ _ r15 (fun _ => ?_)
          clear hK K
          obtain ⟨lp, hlp⟩ : ∃ l : List PartO, ((([⟨A0, k0, (oW x.sp j)⟩] ++ [⟨A4, k4, beN a 1⟩]) ++ [⟨A8, k8, beN d 4⟩]) ++ [⟨A11, k11, [if tk then 1 else 0]⟩]) ++ [⟨A15, k15, txtN (pf tt.length (gl tt))⟩] = l := ⟨_, rfl⟩
          rw [hlp] at X15
          have LL := Lib.hid (show lp.length = 5 by rw [← hlp]; rfl)
          have PL := Lib.hid (show partsO lp = [.slice A0 ((oW x.sp j)).length k0, .slice A4 (beN a 1).length k4, .slice A8 (beN d 4).length k8, .slice A11 [if tk then 1 else 0].length k11, .slice A15 (txtN (pf tt.length (gl tt))).length k15] by rw [← hlp]; rfl)
          have EL := Lib.hid (show catO lp = oW x.sp (j + 1) by rw [← hlp, HO.out]; simp [catO, putW, pfl, bit_eq])
          have LE := Lib.hid (show (oW x.sp (j + 1)).length ≤ 1000000 from by have := OLE.out.2.2.1 (j + 1); have := PLE.out; omega)
          clear hlp
          have bz : Below w15.heap.size w15 (w15.alloc (.cells (partsO lp).toArray 30)) := (Below.refl _ _).alloc (Nat.le_refl _) _
          have ZZ := Lib.hid (Z15.out.below bz); have XX := Lib.hid (X15.out.below bz)
          have BB := Lib.hid (Blk.new w15 30 (partsO lp))
          have rz := CELL.out _ ZZ.out
          clear bz Z15 X15
          refine wpAnyH_ready (rs := [16]) (by kernel_rfl) (by simp) ?_
          refine AllReadyH.cons rfl (fun K hK => ?_) AllReadyH.nil
          go_simp
          rw [PL.out] at ZZ XX BB rz
          refine hK.out _ _ rz (fun _ => ?_)
          clear hK K
          refine wpAnyH_ready (rs := [17]) (by kernel_rfl) (by simp) ?_
          refine AllReadyH.cons rfl (fun K hK => ?_) AllReadyH.nil
          go_simp
          refine (catO_t lp w15.heap.size 5 5 30 _ LL.out (by rw [PL.out]; exact BB.out) XX.out (by rw [EL.out]; exact LE.out) (by decide)).mono ?_
          rintro e wz ⟨u, rfl, fr⟩
          rw [EL.out] at fr
          have FR := Lib.hid (show PC w wz u (oW x.sp (j + 1)) from ⟨own_base fr.1 (fun k hk => Nat.le_trans ZZ.out.bel.size (fr.1.lt k hk).1), ZZ.out.bel.trans (fr.2.mono ZZ.out.bel.size)⟩)
          have ZE := Lib.hid (ZZ.out.below fr.2)
          have rq := CELL.out _ ZE.out
          clear fr ZZ XX BB
          refine hK.out _ _ rq (fun _ => ?_)
          clear hK K
          refine wpAnyH_take (i := 18) (v := ?_) rfl (by kernel_rfl) (by kernel_rfl) (by kernel_rfl) (fun _ _ _ h => h) (Or.inl ⟨by kernel_rfl, ?_⟩) rq ?_
          rotate_left 1
          · (intro w hS; clear hS; go_simp; try (with_reducible rfl))
          refine wpAnyH_done (by kernel_rfl) ?_ _
          go_simp
          go_wp2_with fail
          go_roundw
          case rel => exact ⟨j + 1, hlt, by go_num, ZE.out.sb, FR.out⟩
          case measure => simp [intOf]; omega
        · obtain rfl : j = m := by omega
          clear hlt
          have FV := Lib.hid (show PC w wr (.slice A0 (oW x.sp j).length k0) (oL x.sp 0) from by
            rw [show oL x.sp 0 = oW x.sp x.sp.wts.length from List.append_nil _, show x.sp.wts.length = j by simp only [Spv.sp, List.length_map]; exact HW.out]
            exact FR.out)
          clear FR SR0
          obtain ⟨L0, hL0⟩ : ∃ v, (Value.slice A0 (oW x.sp j).length k0) = v := ⟨_, rfl⟩
          rw [hL0] at FV
          go_wp2_with fail
          clear c1
          rw [hL0]
          go_loopw [3, 8] (fun o t wr => ∃ j : Nat, j ≤ 4 ∧ t = .int .i64 (j : Int) ∧ SB w wr x ∧ PC w wr o (oL x.sp j)) (fun _ t _ => 4 - (intOf t).toNat)
          case atStart => exact ⟨0, by omega, rfl, S0.out, FV.out⟩
          case round =>
            clear S0 FV hL0
            obtain ⟨j, hj, rfl, s0, pc⟩ := hrel
            obtain ⟨A0, k0, rfl, sr0⟩ := pC_open pc
            have S0 := Lib.hid s0; have FR := Lib.hid pc; have SR0 := Lib.hid sr0
            clear s0 pc sr0
            by_cases hlt : j < 4
            · obtain ⟨y, hy⟩ : ∃ y, x.last[j]? = some y := ⟨_, List.getElem?_eq_getElem (by rw [S0.out.rx.l4]; exact hlt)⟩
              obtain ⟨A, C, hsp, hAl⟩ := sv_cut hy
              have RG := Lib.hid (show wr.rangeAt w.heap.size (5 + j * 5) (pv y) from by
                have h9 := S0.out.a
                rw [hsp] at h9
                intro i v hv
                have hi := (List.getElem?_eq_some_iff.1 hv).1
                rw [← hAl, h9.cell, List.getElem?_append_right (Nat.le_add_right _ _), Nat.add_sub_cancel_left, List.getElem?_append_left hi]
                exact hv)
              have j1 : (j : Int) < 4 := by omega
              have FS := Lib.hid (pv_size y); have F1 := Lib.hid (pv_oneA y)
              have A1 := Lib.hid (Blk.new wr 26 [.int .i64 0, .int .i64 0, .int .i64 0, .slice none 0 0, .bool false])
              have A2 := Lib.hid (A1.out.setRow (pv y))
              have W1 := Lib.hid (below_setRow ((Below.refl wr.heap.size wr).alloc (Nat.le_refl _) (.cells (#[.int .i64 0, .int .i64 0, .int .i64 0, .slice none 0 0, .bool false]) 26)) (Nat.le_refl _) (pv y).toArray)
              have YB := Lib.hid (rpB_h (RPB.out y.r (List.mem_map_of_mem (List.mem_of_getElem? hy))))
              have HO := Lib.hid (oL_succ (s := x.sp) (k := j) (y := y.r) (by show (x.last.map (·.r))[j]? = _; rw [List.getElem?_map, hy]; rfl))
              have YT := Lib.hid (fun (W : World) (h : PB9 w W x wr.heap.size 26 (pv y)) => h.sb.rx.la y (List.mem_of_getElem? hy))
              clear hsp hAl hy
              go_upto_region 17 with (first
                | ((with_reducible refine at_op (.load 26 (.tmp 100)) rfl ?_); go_must (refine wpList_load_mid rfl 26 (.tmp 100) rfl w.heap.size (5 + j * 5) rfl (pv y) _ RG.out Tryz.underlying26 rfl FS.out ?_))
                | ((with_reducible refine store_blk 26 (.tmp 9) (.tmp 101) wr.heap.size 26 [.int .i64 0, .int .i64 0, .int .i64 0, .slice none 0 0, .bool false] (pv y) rfl rfl ?_ ?_ ?_ ?_ ?_ ?_ ?_); exact A1.out; exact rfl; exact FS.out; exact F1.out; exact rfl; exact rfl))
              obtain ⟨⟨cl, ow, un, tt, tk⟩, yp, yc⟩ := y
              obtain ⟨ha1, ha2, hb1, hb2, hpf⟩ := YB.out
              dsimp only at ha1 ha2 hb1 hb2
              obtain ⟨a, rfl⟩ := nat_of ha1
              obtain ⟨d, rfl⟩ := nat_of hb1
              have PFH := Lib.hid hpf; have PFL := Lib.hid (show (pf tt.length (gl tt)).length ≤ 271 from pfl_length hpf)
              have i1 : IntKind.u64.wrap (a : Int) = (a : Int) := IntWalk.u64_in _ (by omega)
              have i2 : IntKind.u64.wrap (d : Int) = (d : Int) := IntWalk.u64_in _ (by omega)
              clear ha1 ha2 hb1 hb2 hpf YB
              obtain ⟨V2, hV⟩ : ∃ V, (wr.alloc (.cells #[.int .i64 0, .int .i64 0, .int .i64 0, .slice none 0 0, .bool false] 26)).setRow wr.heap.size ((pv ⟨⟨cl, (a : Int), (d : Int), tt, tk⟩, yp, yc⟩)).toArray = V := ⟨_, rfl⟩
              rw [hV] at A2 W1 ⊢
              obtain ⟨U, hU⟩ : ∃ U, V2.drew = U := ⟨_, rfl⟩
              have BU := Lib.hid (show Below V2.heap.size V2 U from by rw [← hU]; exact (Below.refl _ _).drew)
              have Z0 := Lib.hid (show PB9 w U x wr.heap.size 26 (pv ⟨⟨cl, (a : Int), (d : Int), tt, tk⟩, yp, yc⟩) from (PB9.mk (S0.out.below W1.out) A2.out).below BU.out)
              have X0 := Lib.hid (show Six U [⟨A0, k0, (oL x.sp j)⟩] from fun z hz => by obtain rfl := List.mem_singleton.1 hz; exact (SR0.out.below W1.out).below BU.out)
              have TRF := Lib.hid (fun (W : World) (h : PB9 w W x wr.heap.size 26 (pv ⟨⟨cl, (a : Int), (d : Int), tt, tk⟩, yp, yc⟩)) => show TR W yp tt from YT.out W h)
              have CELL := Lib.hid (fun (W : World) (h : PB9 w W x wr.heap.size 26 (pv ⟨⟨cl, (a : Int), (d : Int), tt, tk⟩, yp, yc⟩)) => show W.cell? ⟨wr.heap.size, 1, none⟩ = some (.int .i64 (a : Int)) ∧ W.cell? ⟨wr.heap.size, 2, none⟩ = some (.int .i64 (d : Int)) ∧ W.cell? ⟨wr.heap.size, 4, none⟩ = some (.bool tk) ∧ W.cell? ⟨wr.heap.size, 3, none⟩ = some (.slice yp tt.length yc) from by
                obtain ⟨_, e1, e2, e3, e4⟩ := pv_cells h.el
                exact ⟨e1, e2, e4, e3⟩)
              clear YT A1 RG FS F1 S0 FR SR0
              obtain ⟨g3, hg3⟩ : ∃ g, wr.heap.size = g := ⟨_, rfl⟩
              rw [hg3] at Z0 TRF CELL ⊢
              refine wp_region_held (S := fun W => W.cell? ⟨g3, 1, none⟩ = some (.int .i64 (a : Int)) ∧ W.cell? ⟨g3, 2, none⟩ = some (.int .i64 (d : Int)) ∧ W.cell? ⟨g3, 4, none⟩ = some (.bool tk) ∧ W.cell? ⟨g3, 3, none⟩ = some (.slice yp tt.length yc)) (by kernel_rfl) ?_
              change wpAnyH _ _ _ _ _ _ _ _ V2.drew
              rw [hU]
              clear hU hV hg3 A2 W1 BU
              have r0 := CELL.out _ Z0.out
              refine wpAnyH_take (i := 0) (v := ?_) rfl (by kernel_rfl) (by kernel_rfl) (by kernel_rfl) (fun _ _ _ h => h) (Or.inl ⟨by kernel_rfl, ?_⟩) r0 ?_
              rotate_left 1
              · (intro w hS; clear hS; go_simp; try (with_reducible rfl))
              refine wpAnyH_take (i := 1) (v := ?_) rfl (by kernel_rfl) (by kernel_rfl) (by kernel_rfl) (fun _ _ _ h => h) (Or.inl ⟨by kernel_rfl, ?_⟩) r0 ?_
              rotate_left 1
              · (intro w hS; clear hS; go_simp; try (with_reducible rfl))
              refine wpAnyH_take (i := 5) (v := ?_) rfl (by kernel_rfl) (by kernel_rfl) (by kernel_rfl) (fun _ _ _ h => h) (Or.inl ⟨by kernel_rfl, ?_⟩) r0 ?_
              rotate_left 1
              · (intro w hS; clear hS; go_simp; try (with_reducible rfl))
              refine wpAnyH_take (i := 9) (v := ?_) rfl (by kernel_rfl) (by kernel_rfl) (by kernel_rfl) (fun _ _ _ h => h) (Or.inl ⟨by kernel_rfl, ?_⟩) r0 ?_
              rotate_left 1
              · (intro w hS; clear hS; go_simp; try (with_reducible rfl))
              refine wpAnyH_take (i := 12) (v := ?_) rfl (by kernel_rfl) (by kernel_rfl) (by kernel_rfl) (fun _ _ _ h => h) (Or.inl ⟨by kernel_rfl, ?_⟩) r0 ?_
              rotate_left 1
              · (intro w hS; clear hS; go_simp; try (with_reducible rfl))
              refine wpAnyH_take (i := 2) (v := ?_) rfl (by kernel_rfl) (by kernel_rfl) (by kernel_rfl) (fun _ _ _ h => h) (Or.inl ⟨by kernel_rfl, ?_⟩) r0 ?_
              rotate_left 1
              · (intro w hS; have hs := hS.1; clear hS; go_simp; try (with_reducible rfl))
              refine wpAnyH_take (i := 6) (v := ?_) rfl (by kernel_rfl) (by kernel_rfl) (by kernel_rfl) (fun _ _ _ h => h) (Or.inl ⟨by kernel_rfl, ?_⟩) r0 ?_
              rotate_left 1
              · (intro w hS; have hs := hS.2.1; clear hS; go_simp; try (with_reducible rfl))
              refine wpAnyH_take (i := 10) (v := ?_) rfl (by kernel_rfl) (by kernel_rfl) (by kernel_rfl) (fun _ _ _ h => h) (Or.inl ⟨by kernel_rfl, ?_⟩) r0 ?_
              rotate_left 1
              · (intro w hS; have hs := hS.2.2.1; clear hS; go_simp; try (with_reducible rfl))
              refine wpAnyH_take (i := 13) (v := ?_) rfl (by kernel_rfl) (by kernel_rfl) (by kernel_rfl) (fun _ _ _ h => h) (Or.inl ⟨by kernel_rfl, ?_⟩) r0 ?_
              rotate_left 1
              · (intro w hS; have hs := hS.2.2.2; clear hS; go_simp; try (with_reducible rfl))
              refine wpAnyH_take (i := 3) (v := ?_) rfl (by kernel_rfl) (by kernel_rfl) (by kernel_rfl) (fun _ _ _ h => h) (Or.inl ⟨by kernel_rfl, ?_⟩) r0 ?_
              rotate_left 1
              · (intro w hS; clear hS; go_simp; try (with_reducible rfl))
              refine wpAnyH_take (i := 7) (v := ?_) rfl (by kernel_rfl) (by kernel_rfl) (by kernel_rfl) (fun _ _ _ h => h) (Or.inl ⟨by kernel_rfl, ?_⟩) r0 ?_
              rotate_left 1
              · (intro w hS; clear hS; go_simp; try (with_reducible rfl))
              refine wpAnyH_ready (rs := [4]) (by kernel_rfl) (by simp) ?_
              refine AllReadyH.cons rfl (fun K hK => ?_) AllReadyH.nil
              go_simp
              refine (refnum_t a 4 U (by decide) (by decide)).mono ?_
              rintro e w4 ⟨u, rfl, fr⟩
              obtain ⟨A4, k4, rfl, _, sr, bb⟩ := fresh_opO fr
              have Z4 := Lib.hid (Z0.out.below bb); have X4 := Lib.hid ((X0.out.below bb).snoc (c := k4) sr)
              have r4 := CELL.out _ Z4.out
              clear fr sr bb
              refine hK.out _ _ r4 (fun _ => ?_)
              clear hK K Z0 X0
              refine wpAnyH_ready (rs := [8]) (by kernel_rfl) (by simp) ?_
              refine AllReadyH.cons rfl (fun K hK => ?_) AllReadyH.nil
              go_simp
              refine (refnum_t d 1 w4 (by decide) (by decide)).mono ?_
              rintro e w8 ⟨u, rfl, fr⟩
              obtain ⟨A8, k8, rfl, _, sr, bb⟩ := fresh_opO fr
              have Z8 := Lib.hid (Z4.out.below bb); have X8 := Lib.hid ((X4.out.below bb).snoc (c := k8) sr)
              have r8 := CELL.out _ Z8.out
              clear fr sr bb
              refine hK.out _ _ r8 (fun _ => ?_)
              clear hK K Z4 X4
              refine wpAnyH_ready (rs := [11]) (by kernel_rfl) (by simp) ?_
              refine AllReadyH.cons rfl (fun K hK => ?_) AllReadyH.nil
              go_simp
              refine (bit_t tk w8).mono ?_
              rintro e w11 ⟨u, rfl, fr⟩
              obtain ⟨A11, k11, rfl, _, sr, bb⟩ := fresh_opO fr
              have Z11 := Lib.hid (Z8.out.below bb); have X11 := Lib.hid ((X8.out.below bb).snoc (c := k11) sr)
              have r11 := CELL.out _ Z11.out
              clear fr sr bb
              refine hK.out _ _ r11 (fun _ => ?_)
              clear hK K Z8 X8
              refine wpAnyH_ready (rs := [14]) (by kernel_rfl) (by simp) ?_
              refine AllReadyH.cons rfl (fun K hK => ?_) AllReadyH.nil
              go_simp
              refine (refpf_t tt.length yc yp (gl tt) w11 (TRF.out _ Z11.out).t PFH.out).mono ?_
              rintro e w14 ⟨u, rfl, fr⟩
              obtain ⟨A14, k14, rfl, _, sr, bb⟩ := fresh_opO fr
              have Z14 := Lib.hid (Z11.out.below bb); have Spf := Lib.hid sr
              have X14 := Lib.hid (X11.out.below bb)
              have r14 := CELL.out _ Z14.out
              clear fr sr bb Z11 X11
              refine hK.out _ _ r14 (fun _ => ?_)
              clear hK K
              refine wpAnyH_ready (rs := [15]) (by kernel_rfl) (by simp) ?_
              refine AllReadyH.cons rfl (fun K hK => ?_) AllReadyH.nil
              go_simp
              refine (reftext_t (pf tt.length (gl tt)) A14 _ k14 w14 rfl Spf.out (by have := PFL.out; omega)).mono ?_
              rintro e w15 ⟨u, rfl, fr⟩
              obtain ⟨A15, k15, rfl, _, sr, bb⟩ := fresh_opO fr
              have Z15 := Lib.hid (Z14.out.below bb); have X15 := Lib.hid ((X14.out.below bb).snoc (c := k15) sr)
              have r15 := CELL.out _ Z15.out
              clear fr sr bb Z14 X14 Spf
              refine hK.out _ _ r15 (fun _ => ?_)
              clear hK K
              obtain ⟨lp, hlp⟩ : ∃ l : List PartO, ((([⟨A0, k0, (oL x.sp j)⟩] ++ [⟨A4, k4, beN a 4⟩]) ++ [⟨A8, k8, beN d 1⟩]) ++ [⟨A11, k11, [if tk then 1 else 0]⟩]) ++ [⟨A15, k15, txtN (pf tt.length (gl tt))⟩] = l := ⟨_, rfl⟩
              rw [hlp] at X15
              have LL := Lib.hid (show lp.length = 5 by rw [← hlp]; rfl)
              have PL := Lib.hid (show partsO lp = [.slice A0 ((oL x.sp j)).length k0, .slice A4 (beN a 4).length k4, .slice A8 (beN d 1).length k8, .slice A11 [if tk then 1 else 0].length k11, .slice A15 (txtN (pf tt.length (gl tt))).length k15] by rw [← hlp]; rfl)
              have EL := Lib.hid (show catO lp = oL x.sp (j + 1) by rw [← hlp, HO.out]; simp [catO, putL, pfl, bit_eq])
              have LE := Lib.hid (show (oL x.sp (j + 1)).length ≤ 1000000 from by have := OLE.out.2.2.2 (j + 1); have := PLE.out; omega)
              clear hlp
              have bz : Below w15.heap.size w15 (w15.alloc (.cells (partsO lp).toArray 30)) := (Below.refl _ _).alloc (Nat.le_refl _) _
              have ZZ := Lib.hid (Z15.out.below bz); have XX := Lib.hid (X15.out.below bz)
              have BB := Lib.hid (Blk.new w15 30 (partsO lp))
              have rz := CELL.out _ ZZ.out
              clear bz Z15 X15
              refine wpAnyH_ready (rs := [16]) (by kernel_rfl) (by simp) ?_
              refine AllReadyH.cons rfl (fun K hK => ?_) AllReadyH.nil
              go_simp
              rw [PL.out] at ZZ XX BB rz
              refine hK.out _ _ rz (fun _ => ?_)
              clear hK K
              refine wpAnyH_ready (rs := [17]) (by kernel_rfl) (by simp) ?_
              refine AllReadyH.cons rfl (fun K hK => ?_) AllReadyH.nil
              go_simp
              refine (catO_t lp w15.heap.size 5 5 30 _ LL.out (by rw [PL.out]; exact BB.out) XX.out (by rw [EL.out]; exact LE.out) (by decide)).mono ?_
              rintro e wz ⟨u, rfl, fr⟩
              rw [EL.out] at fr
              have FR := Lib.hid (show PC w wz u (oL x.sp (j + 1)) from ⟨own_base fr.1 (fun k hk => Nat.le_trans ZZ.out.bel.size (fr.1.lt k hk).1), ZZ.out.bel.trans (fr.2.mono ZZ.out.bel.size)⟩)
              have ZE := Lib.hid (ZZ.out.below fr.2)
              have rq := CELL.out _ ZE.out
              clear fr ZZ XX BB
              refine hK.out _ _ rq (fun _ => ?_)
              clear hK K
              refine wpAnyH_take (i := 18) (v := ?_) rfl (by kernel_rfl) (by kernel_rfl) (by kernel_rfl) (fun _ _ _ h => h) (Or.inl ⟨by kernel_rfl, ?_⟩) rq ?_
              rotate_left 1
              · (intro w hS; clear hS; go_simp; try (with_reducible rfl))
              refine wpAnyH_done (by kernel_rfl) ?_ _
              go_simp
              go_wp2_with fail
              go_roundw
              case rel => exact ⟨j + 1, hlt, by go_num, ZE.out.sb, FR.out⟩
              case measure => simp [intOf]; omega
            · obtain rfl : j = 4 := by omega
              clear hlt
              rw [OPE.out] at FR ⊢
              go_wp2_with fail
              go_ret
              exact ⟨_, rfl, FR.out.own, FR.out.bel⟩
end Go.Proofs.YtphgognhjdbdjaaGreatDoor
namespace Go.Proofs.YtphgognhjdbdjaaGreatDoor
open Go Go.RowKit Sh

set_option maxRecDepth 100000 in
theorem refOfB_t (xs : List Nat) (p : Option Addr) (n c : Nat) (w : World) (hx : xs.length = n) (hp : Sr w p xs) (hb : Bytes xs) (hn : n ≤ 100000) :
    Calls Tryz.prog 23 #[.slice p n c] w fun e w' => e = .returned (.agg (u8s (sum (stM ++ xs))).toArray) ∧ Below w.heap.size w w' := by
  subst hx
  have HP := Lib.hid hp; have HB := Lib.hid hb; have HN := Lib.hid hn
  clear hp hb hn
  go_enter Tryz.func23, Tryz.ntmps23
  have RZ := Lib.hid (Blk.new w 36 (u8s zH))
  have BZ := Lib.hid ((Below.refl w.heap.size w).alloc (Nat.le_refl _) (.cells (u8s zH).toArray 36))
  go_upto_region 1 with (fail)
  change Code.wp _ _ _ _ (w.alloc (.cells (u8s zH).toArray 36))
  obtain ⟨w1, hw1⟩ : ∃ V, w.alloc (.cells (u8s zH).toArray 36) = V := ⟨_, rfl⟩
  rw [hw1] at RZ BZ ⊢
  clear hw1
  have S4 := Lib.hid (sr_frz stM w1 [] 5 (4, 5))
  have BA := Lib.hid (show Below w1.heap.size w1 (w1.alloc (.cells (u8s stM).toArray 5 (4, 5))) from (Below.refl _ _).alloc (Nat.le_refl _) _)
  rw [List.append_nil] at S4
  have kc := fun (w : World) (C : Array Value) (n c : Nat) => Lib.run_convert_bytes_const (P := Tryz.prog) w 30 5 C n c Tryz.underlying30 Tryz.underlying5
  go_wp2_with fail
  clear kc
  have E := Lib.hid (show catO [⟨some ⟨w1.heap.size, 0, none⟩, 4, stM⟩, ⟨p, c, xs⟩] = stM ++ xs by simp [catO])
  have BW := Lib.hid (show Below w1.heap.size w1 ((w1.alloc (.cells (u8s stM).toArray 5 (4, 5))).alloc (.cells (partsO [⟨some ⟨w1.heap.size, 0, none⟩, 4, stM⟩, ⟨p, c, xs⟩]).toArray 30)) from BA.out.alloc BA.out.size _)
  have BP := Lib.hid (Blk.new2 w1 (.cells (u8s stM).toArray 5 (4, 5)) 30 (partsO [⟨some ⟨w1.heap.size, 0, none⟩, 4, stM⟩, ⟨p, c, xs⟩]))
  refine (catO_t [⟨some ⟨w1.heap.size, 0, none⟩, 4, stM⟩, ⟨p, c, xs⟩] (w1.heap.size + 1) 2 2 30 _ rfl BP.out (fun x hx => by
    simp only [List.mem_cons, List.not_mem_nil, or_false] at hx
    rcases hx with rfl | rfl
    · exact S4.out.below ((Below.refl _ _).alloc (Nat.le_refl _) _)
    · exact HP.out.below (BZ.out.trans (BW.out.mono BZ.out.size))) (by rw [E.out, List.length_append]; have := HN.out; show 4 + xs.length ≤ _; omega) (by decide)).mono ?_
  rintro e w4 ⟨u, rfl, fr⟩
  rw [E.out] at fr
  have YB := Lib.hid (app_bytes stM_bytes HB.out)
  have YL := Lib.hid (show (stM ++ xs).length ≤ 100000000 by rw [List.length_append]; have := HN.out; show 4 + xs.length ≤ _; omega)
  obtain ⟨ys, hys⟩ : ∃ l, stM ++ xs = l := ⟨_, rfl⟩
  have HYS := Lib.hid hys
  rw [hys] at fr YB YL
  clear hys
  obtain ⟨L, hL⟩ : ∃ L, ys.length = L := ⟨_, rfl⟩
  have HL := Lib.hid hL
  obtain ⟨A4, c4, rfl, _, _, _⟩ := fresh_opO fr
  have B4 := Lib.hid (BZ.out.trans ((BW.out.trans (fr.2.mono BW.out.size)).mono BZ.out.size))
  have K4 := Lib.hid ((RZ.out.below BW.out RZ.out.lt).below fr.2 (Nat.lt_of_lt_of_le RZ.out.lt BW.out.size))
  have S5 := Lib.hid (Sr.of_own fr.1)
  rw [hL] at YL ⊢
  clear hL fr E BW BP S4 BA RZ BZ
  go_wp2_with fail
  refine (refsum_t ys A4 L c4 w4 HL.out S5.out YB.out YL.out).mono ?_
  rintro e w5 ⟨rfl, b5⟩
  have B5 := Lib.hid (B4.out.trans (b5.mono B4.out.size)); have K5 := Lib.hid (K4.out.below b5 K4.out.lt)
  clear b5 B4 K4 S5
  obtain ⟨S, hS⟩ : ∃ S, sum ys = S := ⟨_, rfl⟩
  have hSl : S.length = 32 := by rw [← hS]; rfl
  rw [hS]
  have HSL := Lib.hid hSl; have HSS := Lib.hid hS
  have HZL := Lib.hid (show (u8s zH).length = (u8s S).length by rw [u8s_length, u8s_length, hSl]; rfl)
  clear hS hSl
  go_wp2_with ((with_reducible refine at_op (.store 36 (.tmp 2) (.tmp 8)) rfl ?_); go_must (refine store_blk 36 (.tmp 2) (.tmp 8) w.heap.size 36 (u8s zH) (u8s S) rfl rfl K5.out HZL.out (hash_size _ HSL.out) (u8s_oneD _) rfl rfl ?_))
  exact ret_blk (p := 2) (ty := 36) rfl rfl w.heap.size 36 _ _ rfl (K5.out.setRow _) Tryz.underlying36 rfl (hash_size _ HSL.out) ⟨by rw [HYS.out, HSS.out], below_setRow B5.out (Nat.le_refl _) _⟩
end Go.Proofs.YtphgognhjdbdjaaGreatDoor
namespace Go.Proofs.YtphgognhjdbdjaaGreatDoor
open Go Go.RowKit Sh

/-- The document's digest of a space that may be. -/
theorem refDigS_t (x : Spv) (w : World) (hx : SpW w x) (hm : spMay x.sp = true) :
    Calls Tryz.prog 18 #[.agg (sv x).toArray] w fun e w' => e = .returned (.agg (u8s (sum (stM ++ putS x.sp))).toArray) ∧ Below w.heap.size w w' := by
  have B0 := Lib.hid ((Blk.new w 29 (sv x)).alloc (.cells (u8s zH).toArray 36))
  have R0 := Lib.hid (Blk.new2 w (.cells (sv x).toArray 29) 36 (u8s zH))
  have BW := Lib.hid (((Below.refl w.heap.size w).alloc (Nat.le_refl _) (.cells (sv x).toArray 29)).alloc (by simp) (.cells (u8s zH).toArray 36))
  have FX := Lib.hid (sv_size x hx.l4)
  have PY := Lib.hid (refPutS_t x _ (hx.below BW.out) hm)
  have HL := Lib.hid (putS_le hm (by show (x.last.map (·.r)).length = 4; rw [List.length_map]; exact hx.l4))
  have HB := Lib.hid (putS_bytes x.sp)
  obtain ⟨xs, hxs⟩ : ∃ l, putS x.sp = l := ⟨_, rfl⟩
  rw [hxs] at PY HL HB ⊢
  clear hx hm hxs
  go_enter Tryz.func18, Tryz.ntmps18
  go_wp2_with ((with_reducible refine load_blk 29 (.tmp 1) w.heap.size 29 (sv x) _ rfl rfl ?_ Tryz.underlying29 ?_ ?_ ?_ ?_); exact B0.out; exact rfl; exact FX.out; exact rfl)
  refine PY.out.mono ?_
  rintro e w2 ⟨u, rfl, fr⟩
  obtain ⟨A, c, rfl, hc, sr2, b2⟩ := fresh_opO fr
  have S2 := Lib.hid sr2
  have R2 := Lib.hid (R0.out.below b2 R0.out.lt); have B2 := Lib.hid (BW.out.trans (b2.mono BW.out.size))
  have OB_ := Lib.hid (refOfB_t xs A xs.length c w2 rfl S2.out HB.out (by have := HL.out; omega))
  clear b2 sr2 fr PY B0 R0 BW hc
  go_wp2_with fail
  refine OB_.out.mono ?_
  rintro e w3 ⟨rfl, b3⟩
  have R3 := Lib.hid (R2.out.below b3 R2.out.lt); have B3 := Lib.hid (B2.out.trans (b3.mono B2.out.size))
  obtain ⟨S, hS⟩ : ∃ S, sum (stM ++ xs) = S := ⟨_, rfl⟩
  have hSl : S.length = 32 := by rw [← hS]; rfl
  rw [hS]
  have HSS := Lib.hid hS; have HSL := Lib.hid hSl
  have HZL := Lib.hid (show (u8s zH).length = (u8s S).length by rw [u8s_length, u8s_length, hSl]; rfl)
  have R4 := Lib.hid (R3.out.setRow (u8s S)); have B4 := Lib.hid (below_setRow B3.out (by omega) (u8s S).toArray (g := w.heap.size + 1))
  clear b3 OB_ hS hSl R2 B2 S2
  go_wp2_with ((with_reducible refine at_op (.store 36 (.tmp 2) (.tmp 5)) rfl ?_); go_must (refine store_blk 36 (.tmp 2) (.tmp 5) (w.heap.size + 1) 36 (u8s zH) (u8s S) rfl rfl R3.out HZL.out (hash_size _ HSL.out) (u8s_oneD _) rfl rfl ?_))
  exact ret_blk (p := 2) (ty := 36) rfl rfl (w.heap.size + 1) 36 _ _ rfl R4.out Tryz.underlying36 rfl (hash_size _ HSL.out) ⟨by rw [HSS.out], B4.out⟩
/-- What both readers give. -/
def spG (xs : List Nat) : Sp := if okS xs then gotS xs else (gsp 0 0 0).sp
def erG (xs : List Nat) : Int := if okS xs then 0 else 2
theorem same_texts9 (xs ys : List Nat) (A B : Option Addr) (n m c d : Nat) (w : World) (hn : xs.length = n) (hm : ys.length = m) (ha : Sr w A xs) (hb : Sr w B ys) (hx : Bytes xs) (hy : Bytes ys) :
    Calls Tryz.prog 16 #[.slice A n c, .slice B m d] w fun e w' => e = .returned (.bool (decide (xs = ys))) ∧ w = w' := by
  have e1 := ha.conv hn c
  have e2 := hb.conv hm d
  have e3 := str_beqT xs ys hx hy
  obtain ⟨b, hbb⟩ : ∃ b, decide (xs = ys) = b := ⟨_, rfl⟩
  rw [hbb] at e3 ⊢
  obtain ⟨s, hs⟩ : ∃ s, str xs = s := ⟨_, rfl⟩
  obtain ⟨t, ht⟩ : ∃ t, str ys = t := ⟨_, rfl⟩
  rw [hs] at e1 e3
  rw [ht] at e2 e3
  clear ha hb hx hy hbb hs ht hn hm
  go_enter Tryz.func16, Tryz.ntmps16
  go_wp2
  go_ret
  exact ⟨rfl, rfl⟩
theorem SGetB_t (xs : List Nat) (p : Option Addr) (m c : Nat) (w : World) (hx : xs.length = m) (hp : Sr w p xs) (hb : Bytes xs) (hl : m ≤ 1000000) :
    Calls Tryz.prog 19 #[.slice p m c] w fun e W' => ∃ y : Spv, e = .returned (.tuple #[.agg (sv y).toArray, .int .i64 (erG xs)]) ∧ y.sp = spG xs ∧ SpW W' y ∧ Below w.heap.size w W' := by
  refine (SGet_t xs p m c w hx hp hb hl).mono ?_
  rintro e W' ⟨b, h⟩
  unfold erG spG
  rcases h with ⟨h, rfl⟩ | ⟨h, y, h1, rfl, h3⟩
  · exact ⟨gsp 0 0 0, by rw [h]; rfl, by rw [h]; rfl, gsp_w 0 0 0 _, b⟩
  · exact ⟨y, by rw [h]; rfl, by rw [h]; exact h1, h3, b⟩
theorem refGetB_t (xs : List Nat) (p : Option Addr) (m c : Nat) (w : World) (hx : xs.length = m) (hc : m ≤ c) (hp : Sr w p xs) (hb : Bytes xs) (hl : m ≤ 1000000) :
    Calls Tryz.prog 20 #[.slice p m c] w fun e W' => ∃ y : Spv, e = .returned (.tuple #[.agg (sv y).toArray, .int .i64 (erG xs)]) ∧ y.sp = spG xs ∧ SpW W' y ∧ Below w.heap.size w W' := by
  refine (refGetS_t xs p m c w hx hc hp hb hl).mono ?_
  rintro e W' ⟨b, h⟩
  unfold erG spG
  rcases h with ⟨h, rfl⟩ | ⟨h, y, h1, rfl, h3⟩
  · exact ⟨gsp 0 0 0, by rw [h]; rfl, by rw [h]; rfl, gsp_w 0 0 0 _, b⟩
  · exact ⟨y, by rw [h]; rfl, by rw [h]; exact h1, h3.w, b⟩
set_option maxRecDepth 100000 in
set_option maxHeartbeats 4000000 in
theorem stAsks_t (x : Spv) (A : Option Addr) (n c : Nat) (xs : List Nat) (w : World) (hx : SpW w x) (hn : xs.length = n) (hs : Sr w A xs) (hb : Bytes xs) (hnc : n ≤ c) (hm : n ≤ 9223372036854775807) (hk : KAt w) :
    Calls Tryz.prog 3 #[.agg (sv x).toArray, .slice A n c] w fun e w' => e = .returned (.bool true) ∧ Below w.heap.size w w' := by
  have S0 := Lib.hid (SB.new hx)
  have HK := Lib.hid hk; have HG := Lib.hid hk.lt; have HN := Lib.hid hn; have HS := Lib.hid hs; have HB := Lib.hid hb; have HC := Lib.hid hnc
  have FX := Lib.hid (sv_size x hx.l4)
  have L4 := Lib.hid (show x.sp.last.length = 4 from by show (x.last.map (·.r)).length = 4; rw [List.length_map]; exact hx.l4)
  clear hx hn hs hb hnc hk
  obtain ⟨V, hV⟩ : ∃ V, w.alloc (.cells (sv x).toArray 29) = V := ⟨_, rfl⟩
  rw [hV] at S0
  go_enter Tryz.func3, Tryz.ntmps3
  go_upto_region 1 with (fail)
  clear hV
  have F1 := Lib.hid (fewS_t x V S0.out.rx)
  go_wp2_with ((with_reducible refine load_blk 29 (.tmp 2) w.heap.size 29 (sv x) _ rfl rfl ?_ Tryz.underlying29 ?_ ?_ ?_ ?_); exact S0.out.a; exact rfl; exact FX.out; exact rfl)
  refine F1.out.mono ?_
  rintro e w1 ⟨f1, rfl, h1, b1⟩
  have S1 := Lib.hid (S0.out.below b1)
  clear S0 F1 b1 h1
  cases f1 with
  | false =>
    have TD := Lib.hid (told9_t w1 (HK.out.below S1.out.bel HG.out))
    go_wp2_with fail
    refine TD.out.mono ?_
    rintro e wT ⟨rfl, bT⟩
    go_wp2_with fail
    go_ret
    exact ⟨rfl, S1.out.bel.trans (bT.mono S1.out.bel.size)⟩
  | true =>
  by_cases h6 : (600 : Int) < (n : Int)
  · skip
    have TD := Lib.hid (told9_t w1 (HK.out.below S1.out.bel HG.out))
    go_wp2_with fail
    refine TD.out.mono ?_
    rintro e wT ⟨rfl, bT⟩
    go_wp2_with fail
    go_ret
    exact ⟨rfl, S1.out.bel.trans (bT.mono S1.out.bel.size)⟩
  have k6 : decide ((600 : Int) < (n : Int)) = false := decide_eq_false h6
  have n6 : n ≤ 600 := by omega
  have M1 := Lib.hid (refMaySpace_t x w1 S1.out.rx)
  cases hm1 : spMay x.sp with
  | true =>
    rw [hm1] at M1
    have MX := Lib.hid hm1
    go_upto_region 3 with (fail)
    clear k6 h6
    go_wp2_with ((with_reducible refine load_blk 29 (.tmp 2) w.heap.size 29 (sv x) _ rfl rfl ?_ Tryz.underlying29 ?_ ?_ ?_ ?_); exact S1.out.a; exact rfl; exact FX.out; exact rfl)
    refine M1.out.mono ?_
    rintro e w3 ⟨rfl, b3⟩
    have S3 := Lib.hid (S1.out.below b3)
    clear S1 M1 b3 hm1
    have PX := Lib.hid (SPut_yes x w3 S3.out.rx MX.out)
    have BX := Lib.hid (putS_bytes x.sp)
    have LX := Lib.hid (putS_le MX.out L4.out)
    obtain ⟨ys, hys⟩ : ∃ l, putS x.sp = l := ⟨_, rfl⟩
    have HYS := Lib.hid hys
    rw [hys] at PX BX LX
    clear hys
    go_wp2_with ((with_reducible refine load_blk 29 (.tmp 2) w.heap.size 29 (sv x) _ rfl rfl ?_ Tryz.underlying29 ?_ ?_ ?_ ?_); exact S3.out.a; exact rfl; exact FX.out; exact rfl)
    refine PX.out.mono ?_
    rintro e w5 ⟨u, rfl, o5, b5⟩
    obtain ⟨A1, c1, rfl, _⟩ := own_form o5
    have S5 := Lib.hid (S3.out.below b5); have X5 := Lib.hid (Sr.of_own o5)
    clear S3 PX b5 o5
    have DG := Lib.hid (Digest_yes x w5 S5.out.rx MX.out (HK.out.below S5.out.bel HG.out))
    rw [HYS.out] at DG
    obtain ⟨S, hS⟩ : ∃ S, sum (stM ++ ys) = S := ⟨_, rfl⟩
    have hSl : S.length = 32 := by rw [← hS]; rfl
    rw [hS] at DG
    have HSS := Lib.hid hS; have HSL := Lib.hid hSl
    have HZL := Lib.hid (show (u8s zH).length = (u8s S).length by rw [u8s_length, u8s_length, hSl]; rfl)
    clear hS hSl
    go_wp2_with ((with_reducible refine load_blk 29 (.tmp 2) w.heap.size 29 (sv x) _ rfl rfl ?_ Tryz.underlying29 ?_ ?_ ?_ ?_); exact S5.out.a; exact rfl; exact FX.out; exact rfl)
    refine DG.out.mono ?_
    rintro e w7 ⟨rfl, b7⟩
    have S7 := Lib.hid (S5.out.below b7); have X7 := Lib.hid (X5.out.below b7)
    have ZH := Lib.hid (Blk.new w7 36 (u8s zH))
    have RH := Lib.hid (ZH.out.setRow (u8s S))
    have BH := Lib.hid (below_setRow ((Below.refl w7.heap.size w7).alloc (Nat.le_refl _) (.cells (u8s zH).toArray 36)) (Nat.le_refl _) (u8s S).toArray)
    clear b7 DG S5 X5
    go_upto_region 6 with ((with_reducible refine at_op (.store 36 (.tmp 8) (.tmp 33)) rfl ?_); go_must (refine store_blk 36 (.tmp 8) (.tmp 33) w7.heap.size 36 (u8s zH) (u8s S) rfl rfl ZH.out HZL.out (hash_size _ HSL.out) (u8s_oneD _) rfl rfl ?_))
    obtain ⟨V4, hV4⟩ : ∃ V, (w7.alloc (.cells (u8s zH).toArray 36)).setRow w7.heap.size (u8s S).toArray = V := ⟨_, rfl⟩
    change Code.wp _ _ _ _ ((w7.alloc (.cells (u8s zH).toArray 36)).setRow w7.heap.size (u8s S).toArray)
    rw [hV4] at RH BH ⊢
    obtain ⟨g9, hg9⟩ : ∃ g, w7.heap.size = g := ⟨_, rfl⟩
    have S8 := Lib.hid (S7.out.below BH.out); have X8 := Lib.hid (X7.out.below BH.out)
    rw [hg9] at RH ⊢
    clear hV4 hg9 BH ZH S7 X7
    obtain ⟨U, hU⟩ : ∃ U, V4.drew = U := ⟨_, rfl⟩
    have BU := Lib.hid (show Below V4.heap.size V4 U from by rw [← hU]; exact (Below.refl _ _).drew)
    have SU := Lib.hid (S8.out.below BU.out)
    have FS := Lib.hid (fun (Y : World) (hb : Below U.heap.size U Y) => show Blk Y w.heap.size 29 (sv x) ∧ Blk Y g9 36 (u8s S) from
      ⟨(SU.out.below hb).a, (RH.out.below BU.out RH.out.lt).below hb (Nat.lt_of_lt_of_le RH.out.lt BU.out.size)⟩)
    have XU := Lib.hid (X8.out.below BU.out)
    have B0 := Lib.hid (Below.refl U.heap.size U)
    have s0 := FS.out U B0.out
    have eqh := fun w => eqIn_hash S HSL.out w
    have FH := Lib.hid (hash_size S HSL.out)
    refine wp_region_held (S := fun Y => Blk Y w.heap.size 29 (sv x) ∧ Blk Y g9 36 (u8s S)) (by kernel_rfl) ?_
    change wpAnyH _ _ _ _ _ _ _ _ V4.drew
    rw [hU]
    clear hU
    refine wpAnyH_take (i := 0) (v := ?_) rfl (by kernel_rfl) (by kernel_rfl) (by kernel_rfl) (fun _ _ _ h => h) (Or.inl ⟨by kernel_rfl, ?_⟩) s0 ?_
    rotate_left 1
    · (intro w hS; clear hS; go_simp; try (with_reducible rfl))
    refine wpAnyH_take (i := 1) (v := ?_) rfl (by kernel_rfl) (by kernel_rfl) (by kernel_rfl) (fun _ _ _ h => h) (Or.inl ⟨by kernel_rfl, ?_⟩) s0 ?_
    rotate_left 1
    · (intro w hS; clear hS; go_simp; try (with_reducible rfl))
    refine wpAnyH_take (i := 2) (v := ?_) rfl (by kernel_rfl) (by kernel_rfl) (by kernel_rfl) (fun _ _ _ h => h) (Or.inl ⟨by kernel_rfl, ?_⟩) s0 ?_
    rotate_left 1
    · (intro w hS; clear hS; go_simp; try (with_reducible rfl))
    refine wpAnyH_take (i := 3) (v := ?_) rfl (by kernel_rfl) (by kernel_rfl) (by kernel_rfl) (fun _ _ _ h => h) (Or.inl ⟨by kernel_rfl, ?_⟩) s0 ?_
    rotate_left 1
    · (intro w hS; clear hS; go_simp; try (with_reducible rfl))
    refine wpAnyH_take (i := 4) (v := ?_) rfl (by kernel_rfl) (by kernel_rfl) (by kernel_rfl) (fun _ _ _ h => h) (Or.inl ⟨by kernel_rfl, ?_⟩) s0 ?_
    rotate_left 1
    · (intro w hS; clear hS; go_simp; try (with_reducible rfl))
    refine wpAnyH_take (i := 5) (v := ?_) rfl (by kernel_rfl) (by kernel_rfl) (by kernel_rfl) (fun _ _ _ h => h) (Or.inl ⟨by kernel_rfl, ?_⟩) s0 ?_
    rotate_left 1
    · (intro w hS; clear hS; go_simp; try (with_reducible rfl))
    refine wpAnyH_take (i := 6) (v := ?_) rfl (by kernel_rfl) (by kernel_rfl) (by kernel_rfl) (fun _ _ _ h => h) (Or.inl ⟨by kernel_rfl, ?_⟩) s0 ?_
    rotate_left 1
    · (intro w hS; clear hS; go_simp; try (with_reducible rfl))
    refine wpAnyH_take (i := 7) (v := ?_) rfl (by kernel_rfl) (by kernel_rfl) (by kernel_rfl) (fun _ _ _ h => h) (Or.inl ⟨by kernel_rfl, ?_⟩) s0 ?_
    rotate_left 1
    · (intro w hS; clear hS; go_simp; try (with_reducible rfl))
    refine wpAnyH_take (i := 8) (v := ?_) rfl (by kernel_rfl) (by kernel_rfl) (by kernel_rfl) (fun _ _ _ h => h) (Or.inl ⟨by kernel_rfl, ?_⟩) s0 ?_
    rotate_left 1
    · (intro w hS; clear hS; go_simp; try (with_reducible rfl))
    refine wpAnyH_take (i := 9) (v := ?_) rfl (by kernel_rfl) (by kernel_rfl) (by kernel_rfl) (fun _ _ _ h => h) (Or.inl ⟨by kernel_rfl, ?_⟩) s0 ?_
    rotate_left 1
    · (intro w hS; clear hS; go_simp; try (with_reducible rfl))
    refine wpAnyH_take (i := 10) (v := ?_) rfl (by kernel_rfl) (by kernel_rfl) (by kernel_rfl) (fun _ _ _ h => h) (Or.inl ⟨by kernel_rfl, ?_⟩) s0 ?_
    rotate_left 1
    · (intro w hS; clear hS; go_simp; try (with_reducible rfl))
    refine wpAnyH_take (i := 11) (v := ?_) rfl (by kernel_rfl) (by kernel_rfl) (by kernel_rfl) (fun _ _ _ h => h) (Or.inl ⟨by kernel_rfl, ?_⟩) s0 ?_
    rotate_left 1
    · (intro w hS; clear hS; go_simp; try (with_reducible rfl))
    refine wpAnyH_take (i := 12) (v := ?_) rfl (by kernel_rfl) (by kernel_rfl) (by kernel_rfl) (fun _ _ _ h => h) (Or.inl ⟨by kernel_rfl, ?_⟩) s0 ?_
    rotate_left 1
    · (intro w hS; clear hS; go_simp; try (with_reducible rfl))
    refine wpAnyH_take (i := 13) (v := undef) rfl (by kernel_rfl) (by kernel_rfl) (by kernel_rfl) (fun _ _ _ h => h) (Or.inr ⟨by kernel_rfl, rfl⟩) s0 ?_
    refine wpAnyH_take (i := 14) (v := undef) rfl (by kernel_rfl) (by kernel_rfl) (by kernel_rfl) (fun _ _ _ h => h) (Or.inr ⟨by kernel_rfl, rfl⟩) s0 ?_
    refine wpAnyH_take (i := 15) (v := undef) rfl (by kernel_rfl) (by kernel_rfl) (by kernel_rfl) (fun _ _ _ h => h) (Or.inr ⟨by kernel_rfl, rfl⟩) s0 ?_
    refine wpAnyH_take (i := 16) (v := undef) rfl (by kernel_rfl) (by kernel_rfl) (by kernel_rfl) (fun _ _ _ h => h) (Or.inr ⟨by kernel_rfl, rfl⟩) s0 ?_
    refine wpAnyH_take (i := 17) (v := undef) rfl (by kernel_rfl) (by kernel_rfl) (by kernel_rfl) (fun _ _ _ h => h) (Or.inr ⟨by kernel_rfl, rfl⟩) s0 ?_
    refine wpAnyH_take (i := 18) (v := undef) rfl (by kernel_rfl) (by kernel_rfl) (by kernel_rfl) (fun _ _ _ h => h) (Or.inr ⟨by kernel_rfl, rfl⟩) s0 ?_
    refine wpAnyH_take (i := 19) (v := undef) rfl (by kernel_rfl) (by kernel_rfl) (by kernel_rfl) (fun _ _ _ h => h) (Or.inr ⟨by kernel_rfl, rfl⟩) s0 ?_
    refine wpAnyH_take (i := 20) (v := undef) rfl (by kernel_rfl) (by kernel_rfl) (by kernel_rfl) (fun _ _ _ h => h) (Or.inr ⟨by kernel_rfl, rfl⟩) s0 ?_
    refine wpAnyH_take (i := 21) (v := undef) rfl (by kernel_rfl) (by kernel_rfl) (by kernel_rfl) (fun _ _ _ h => h) (Or.inr ⟨by kernel_rfl, rfl⟩) s0 ?_
    refine wpAnyH_take (i := 22) (v := undef) rfl (by kernel_rfl) (by kernel_rfl) (by kernel_rfl) (fun _ _ _ h => h) (Or.inr ⟨by kernel_rfl, rfl⟩) s0 ?_
    refine wpAnyH_take (i := 23) (v := undef) rfl (by kernel_rfl) (by kernel_rfl) (by kernel_rfl) (fun _ _ _ h => h) (Or.inr ⟨by kernel_rfl, rfl⟩) s0 ?_
    refine wpAnyH_take (i := 24) (v := undef) rfl (by kernel_rfl) (by kernel_rfl) (by kernel_rfl) (fun _ _ _ h => h) (Or.inr ⟨by kernel_rfl, rfl⟩) s0 ?_
    refine wpAnyH_take (i := 25) (v := ?_) rfl (by kernel_rfl) (by kernel_rfl) (by kernel_rfl) (fun _ _ _ h => h) (Or.inl ⟨by kernel_rfl, ?_⟩) s0 ?_
    rotate_left 1
    · (intro w hS; clear hS; go_simp; try (with_reducible rfl))
    refine wpAnyH_take (i := 26) (v := ?_) rfl (by kernel_rfl) (by kernel_rfl) (by kernel_rfl) (fun _ _ _ h => h) (Or.inl ⟨by kernel_rfl, ?_⟩) s0 ?_
    rotate_left 1
    · (intro w hS; clear hS; go_simp; try (with_reducible rfl))
    refine wpAnyH_take (i := 27) (v := ?_) rfl (by kernel_rfl) (by kernel_rfl) (by kernel_rfl) (fun _ _ _ h => h) (Or.inl ⟨by kernel_rfl, ?_⟩) s0 ?_
    rotate_left 1
    · (intro w hS; clear hS; go_simp; try (with_reducible rfl))
    refine wpAnyH_take (i := 28) (v := ?_) rfl (by kernel_rfl) (by kernel_rfl) (by kernel_rfl) (fun _ _ _ h => h) (Or.inl ⟨by kernel_rfl, ?_⟩) s0 ?_
    rotate_left 1
    · (intro w hS; clear hS; go_simp; try (with_reducible rfl))
    refine wpAnyH_take (i := 29) (v := ?_) rfl (by kernel_rfl) (by kernel_rfl) (by kernel_rfl) (fun _ _ _ h => h) (Or.inl ⟨by kernel_rfl, ?_⟩) s0 ?_
    rotate_left 1
    · (intro w hS; clear hS; go_simp; try (with_reducible rfl))
    refine wpAnyH_take (i := 30) (v := ?_) rfl (by kernel_rfl) (by kernel_rfl) (by kernel_rfl) (fun _ _ _ h => h) (Or.inl ⟨by kernel_rfl, ?_⟩) s0 ?_
    rotate_left 1
    · (intro w hS; clear hS; go_simp; try (with_reducible rfl))
    refine wpAnyH_take (i := 31) (v := .agg ((sv x)).toArray) rfl (by kernel_rfl) (by kernel_rfl) (by kernel_rfl) (fun _ _ _ h => h) (yieldsIf_load_mid (by kernel_rfl) 29 (.tmp 2) rfl w.heap.size 0 (by go_simp) ((sv x)) _ (fun _ h => rows_of_blk h.1) Tryz.underlying29 rfl (FX.out)) s0 ?_
    have RP := Lib.hid (refPutS_t x U SU.out.rx MX.out)
    rw [HYS.out] at RP
    refine wpAnyH_ready (rs := [32]) (by kernel_rfl) (by simp) ?_
    refine AllReadyH.cons rfl (fun K hK => ?_) AllReadyH.nil
    rw [if_pos (by kernel_rfl)]
    go_simp
    refine RP.out.mono ?_
    rintro e wa ⟨u, rfl, fr⟩
    obtain ⟨A2, c2, rfl, _, sr2, ba⟩ := fresh_opO fr
    have Y2 := Lib.hid sr2; have Ba := Lib.hid ba
    have X9 := Lib.hid (XU.out.below ba)
    refine hK.out _ _ (FS.out _ Ba.out) (fun _ => ?_)
    clear hK K ba RP fr sr2
    have s1 := FS.out _ Ba.out
    have SM := Lib.hid (same_texts9 ys ys A1 A2 ys.length ys.length c1 c2 wa rfl rfl X9.out Y2.out BX.out BX.out)
    rw [decide_eq_true rfl] at SM
    refine wpAnyH_ready (rs := [33]) (by kernel_rfl) (by simp) ?_
    refine AllReadyH.cons rfl (fun K hK => ?_) AllReadyH.nil
    rw [if_pos (by kernel_rfl)]
    go_simp
    refine SM.out.mono ?_
    rintro e wb ⟨rfl, rfl⟩
    refine hK.out _ _ s1 (fun _ => ?_)
    clear hK K SM
    refine wpAnyH_take (i := 34) (v := ?_) rfl (by kernel_rfl) (by kernel_rfl) (by kernel_rfl) (fun _ _ _ h => h) (Or.inl ⟨by kernel_rfl, ?_⟩) s1 ?_
    rotate_left 1
    · (intro w hS; clear hS; go_simp; try (with_reducible rfl))
    refine wpAnyH_take (i := 35) (v := ?_) rfl (by kernel_rfl) (by kernel_rfl) (by kernel_rfl) (fun _ _ _ h => h) (Or.inl ⟨by kernel_rfl, ?_⟩) s1 ?_
    rotate_left 1
    · (intro w hS; clear hS; go_simp; try (with_reducible rfl))
    refine wpAnyH_take (i := 36) (v := .agg ((u8s S)).toArray) rfl (by kernel_rfl) (by kernel_rfl) (by kernel_rfl) (fun _ _ _ h => h) (yieldsIf_load_mid (by kernel_rfl) 36 (.tmp 8) rfl g9 0 (by go_simp) ((u8s S)) _ (fun _ h => rows_of_blk h.2) Tryz.underlying36 rfl (FH.out)) s1 ?_
    refine wpAnyH_take (i := 37) (v := .agg ((sv x)).toArray) rfl (by kernel_rfl) (by kernel_rfl) (by kernel_rfl) (fun _ _ _ h => h) (yieldsIf_load_mid (by kernel_rfl) 29 (.tmp 2) rfl w.heap.size 0 (by go_simp) ((sv x)) _ (fun _ h => rows_of_blk h.1) Tryz.underlying29 rfl (FX.out)) s1 ?_
    have RD := Lib.hid (refDigS_t x wa (SU.out.below Ba.out).rx MX.out)
    rw [HYS.out, HSS.out] at RD
    refine wpAnyH_ready (rs := [38]) (by kernel_rfl) (by simp) ?_
    refine AllReadyH.cons rfl (fun K hK => ?_) AllReadyH.nil
    rw [if_pos (by kernel_rfl)]
    go_simp
    refine RD.out.mono ?_
    rintro e wb ⟨rfl, bb⟩
    have Bb := Lib.hid (Ba.out.trans (bb.mono Ba.out.size))
    have s2 := FS.out _ Bb.out
    refine hK.out _ _ s2 (fun _ => ?_)
    clear hK K bb RD s1
    refine wpAnyH_take (i := 39) (v := ?_) rfl (by kernel_rfl) (by kernel_rfl) (by kernel_rfl) (fun _ _ _ h => h) (Or.inl ⟨by kernel_rfl, ?_⟩) s2 ?_
    rotate_left 1
    · (intro w hS; clear hS; go_simp; try (with_reducible rfl))
    refine wpAnyH_take (i := 40) (v := ?_) rfl (by kernel_rfl) (by kernel_rfl) (by kernel_rfl) (fun _ _ _ h => h) (Or.inl ⟨by kernel_rfl, ?_⟩) s2 ?_
    rotate_left 1
    · (intro w hS; clear hS; go_simp; try (with_reducible rfl))
    refine wpAnyH_take (i := 41) (v := ?_) rfl (by kernel_rfl) (by kernel_rfl) (by kernel_rfl) (fun _ _ _ h => h) (Or.inl ⟨by kernel_rfl, ?_⟩) s2 ?_
    rotate_left 1
    · (intro w hS; clear hS; go_simp; try (with_reducible rfl))
    refine wpAnyH_take (i := 42) (v := ?_) rfl (by kernel_rfl) (by kernel_rfl) (by kernel_rfl) (fun _ _ _ h => h) (Or.inl ⟨by kernel_rfl, ?_⟩) s2 ?_
    rotate_left 1
    · (intro w hS; clear hS; go_simp; try (with_reducible rfl))
    refine wpAnyH_done (by kernel_rfl) ?_ _
    go_simp
    have SZb := Lib.hid (SU.out.below Bb.out)
    clear eqh FS RH XU X8 X9 Y2 S8 Ba SU s0 s2 B0 BU FH
    have SZ := Lib.hid SZb.out
    obtain ⟨gz, hgz⟩ : ∃ g, spG xs = g := ⟨_, rfl⟩
    obtain ⟨ez, hez⟩ : ∃ g, erG xs = g := ⟨_, rfl⟩
    have HS1 := Lib.hid (HS.out.below SZ.out.bel)
    have GA := Lib.hid (SGetB_t xs A n c wb HN.out HS1.out HB.out (by omega))
    rw [hgz, hez] at GA
    have HGZ := Lib.hid hgz; have HEZ := Lib.hid hez
    clear hgz hez
    go_wp2_with fail
    refine GA.out.mono ?_
    rintro e w11 ⟨xA, rfl, pA, wA, b11⟩
    have PA := Lib.hid pA
    have SA := Lib.hid (SZ.out.below b11); have HS2 := Lib.hid (HS1.out.below b11)
    clear SZ HS1 GA b11 pA
    have FX_xA := Lib.hid (sv_size xA wA.l4); have FO_xA := Lib.hid (sv_one xA); have SL_xA := Lib.hid (sv_len xA wA.l4)
    have Z_xA := Lib.hid (Blk.new w11 29 [.int .i64 0, .slice none 0 0, .slice none 0 0, .int .i64 0, .int .i64 0, .int .i64 0, .int .i64 0, .int .i64 0, .slice none 0 0, .bool false, .int .i64 0, .int .i64 0, .int .i64 0, .slice none 0 0, .bool false, .int .i64 0, .int .i64 0, .int .i64 0, .slice none 0 0, .bool false, .int .i64 0, .int .i64 0, .int .i64 0, .slice none 0 0, .bool false])
    have KN_xA := Lib.hid (KSp.new (w1 := w11) (x := xA) wA)
    go_upto_region 9 with ((with_reducible refine at_op (.store 29 (.tmp 10) (.tmp 81)) rfl ?_); go_must (refine store_blk 29 (.tmp 10) (.tmp 81) (w11).heap.size 29 _ (sv xA) rfl rfl Z_xA.out SL_xA.out.symm FX_xA.out FO_xA.out rfl rfl ?_))
    obtain ⟨V11, hV11⟩ : ∃ V, ((w11).alloc (.cells #[.int .i64 0, .slice none 0 0, .slice none 0 0, .int .i64 0, .int .i64 0, .int .i64 0, .int .i64 0, .int .i64 0, .slice none 0 0, .bool false, .int .i64 0, .int .i64 0, .int .i64 0, .slice none 0 0, .bool false, .int .i64 0, .int .i64 0, .int .i64 0, .slice none 0 0, .bool false, .int .i64 0, .int .i64 0, .int .i64 0, .slice none 0 0, .bool false] 29)).setRow (w11).heap.size (sv xA).toArray = V := ⟨_, rfl⟩
    rw [hV11] at KN_xA ⊢
    have K_xA := Lib.hid KN_xA.out.1
    have B_xA := Lib.hid KN_xA.out.2
    clear hV11 KN_xA Z_xA FO_xA SL_xA
    clear wA
    obtain ⟨gA, hgA⟩ : ∃ g, w11.heap.size = g := ⟨_, rfl⟩
    have SB_ := Lib.hid (SA.out.below B_xA.out); have HS3 := Lib.hid (HS2.out.below B_xA.out)
    rw [hgA] at K_xA ⊢
    clear hgA SA HS2 B_xA
    have GB := Lib.hid (refGetB_t xs A n c V11 HN.out HC.out HS3.out HB.out (by omega))
    rw [HGZ.out, HEZ.out] at GB
    go_wp2_with fail
    refine GB.out.mono ?_
    rintro e w12 ⟨xB, rfl, pB, wB, b12⟩
    have PB := Lib.hid pB
    have SC := Lib.hid (SB_.out.below b12); have HS4 := Lib.hid (HS3.out.below b12); have KA := Lib.hid (K_xA.out.below b12)
    clear SB_ HS3 GB b12 pB K_xA
    have FX_xB := Lib.hid (sv_size xB wB.l4); have FO_xB := Lib.hid (sv_one xB); have SL_xB := Lib.hid (sv_len xB wB.l4)
    have Z_xB := Lib.hid (Blk.new w12 29 [.int .i64 0, .slice none 0 0, .slice none 0 0, .int .i64 0, .int .i64 0, .int .i64 0, .int .i64 0, .int .i64 0, .slice none 0 0, .bool false, .int .i64 0, .int .i64 0, .int .i64 0, .slice none 0 0, .bool false, .int .i64 0, .int .i64 0, .int .i64 0, .slice none 0 0, .bool false, .int .i64 0, .int .i64 0, .int .i64 0, .slice none 0 0, .bool false])
    have KN_xB := Lib.hid (KSp.new (w1 := w12) (x := xB) wB)
    go_upto_region 10 with ((with_reducible refine at_op (.store 29 (.tmp 12) (.tmp 86)) rfl ?_); go_must (refine store_blk 29 (.tmp 12) (.tmp 86) (w12).heap.size 29 _ (sv xB) rfl rfl Z_xB.out SL_xB.out.symm FX_xB.out FO_xB.out rfl rfl ?_))
    obtain ⟨V12, hV12⟩ : ∃ V, ((w12).alloc (.cells #[.int .i64 0, .slice none 0 0, .slice none 0 0, .int .i64 0, .int .i64 0, .int .i64 0, .int .i64 0, .int .i64 0, .slice none 0 0, .bool false, .int .i64 0, .int .i64 0, .int .i64 0, .slice none 0 0, .bool false, .int .i64 0, .int .i64 0, .int .i64 0, .slice none 0 0, .bool false, .int .i64 0, .int .i64 0, .int .i64 0, .slice none 0 0, .bool false] 29)).setRow (w12).heap.size (sv xB).toArray = V := ⟨_, rfl⟩
    rw [hV12] at KN_xB ⊢
    have K_xB := Lib.hid KN_xB.out.1
    have B_xB := Lib.hid KN_xB.out.2
    clear hV12 KN_xB Z_xB FO_xB SL_xB
    clear wB
    obtain ⟨gB, hgB⟩ : ∃ g, w12.heap.size = g := ⟨_, rfl⟩
    have SD := Lib.hid (SC.out.below B_xB.out); have HS5 := Lib.hid (HS4.out.below B_xB.out); have KA2 := Lib.hid (KA.out.below B_xB.out)
    rw [hgB] at K_xB ⊢
    clear hgB SC HS4 B_xB KA
    have TD := Lib.hid (told9_t V12 (HK.out.below SD.out.bel HG.out))
    go_wp2_with fail
    refine TD.out.mono ?_
    rintro e w13 ⟨rfl, b13⟩
    have SE := Lib.hid (SD.out.below b13); have HS6 := Lib.hid (HS5.out.below b13); have KA3 := Lib.hid (KA2.out.below b13); have KB3 := Lib.hid (K_xB.out.below b13)
    clear SD HS5 KA2 K_xB TD b13
    have SS := Lib.hid (refSameSpace_t xA xB w13 KA3.out.w KB3.out.w)
    rw [PA.out, PB.out, spS_iff.2 rfl] at SS
    go_wp2_with (first
      | ((with_reducible refine load_blk_gdO 95 29 (.tmp 10) gA 29 (sv xA) _ ?_ ?_ rfl ?_ Tryz.underlying29 ?_ ?_ ?_ ?_); exact rfl; kernel_rfl; exact KA3.out.box; exact rfl; exact FX_xA.out; exact rfl)
      | ((with_reducible refine load_blk_gdO 96 29 (.tmp 12) gB 29 (sv xB) _ ?_ ?_ rfl ?_ Tryz.underlying29 ?_ ?_ ?_ ?_); exact rfl; kernel_rfl; exact KB3.out.box; exact rfl; exact FX_xB.out; exact rfl))
    refine SS.out.mono ?_
    rintro e w14 ⟨rfl, b14⟩
    have SF_ := Lib.hid (SE.out.below b14); have HS7 := Lib.hid (HS6.out.below b14)
    clear SE HS6 SS b14 KA3 KB3
    have OA := Lib.hid (OfB_t xs A n c w14 HN.out HC.out HS7.out HB.out (by omega) (HK.out.below SF_.out.bel HG.out))
    obtain ⟨T, hT⟩ : ∃ S, sum (stM ++ xs) = S := ⟨_, rfl⟩
    have hTl : T.length = 32 := by rw [← hT]; rfl
    rw [hT] at OA
    have HTT := Lib.hid hT; have HTL := Lib.hid hTl
    clear hT hTl
    go_wp2_with fail
    refine OA.out.mono ?_
    rintro e w15 ⟨rfl, b15⟩
    have SG_ := Lib.hid (SF_.out.below b15); have HS8 := Lib.hid (HS7.out.below b15)
    clear SF_ HS7 OA b15
    have OR := Lib.hid (refOfB_t xs A n c w15 HN.out HS8.out HB.out (by omega))
    rw [HTT.out] at OR
    go_wp2_with fail
    refine OR.out.mono ?_
    rintro e w16 ⟨rfl, b16⟩
    have SH := Lib.hid (SG_.out.below b16)
    clear SG_ HS8 OR b16
    have eqh := fun w => eqIn_hash T HTL.out w
    go_wp2_with fail
    go_ret
    exact ⟨rfl, SH.out.bel⟩
  | false =>
    rw [hm1] at M1
    have MX := Lib.hid hm1
    go_upto_region 3 with (fail)
    clear k6 h6
    go_wp2_with ((with_reducible refine load_blk 29 (.tmp 2) w.heap.size 29 (sv x) _ rfl rfl ?_ Tryz.underlying29 ?_ ?_ ?_ ?_); exact S1.out.a; exact rfl; exact FX.out; exact rfl)
    refine M1.out.mono ?_
    rintro e w3 ⟨rfl, b3⟩
    have S3 := Lib.hid (S1.out.below b3)
    clear S1 M1 b3 hm1
    have PX := Lib.hid (SPut_no x w3 S3.out.rx MX.out)
    go_wp2_with ((with_reducible refine load_blk 29 (.tmp 2) w.heap.size 29 (sv x) _ rfl rfl ?_ Tryz.underlying29 ?_ ?_ ?_ ?_); exact S3.out.a; exact rfl; exact FX.out; exact rfl)
    refine PX.out.mono ?_
    rintro e w5 ⟨rfl, b5⟩
    have S5 := Lib.hid (S3.out.below b5)
    clear S3 PX b5
    have DG := Lib.hid (Digest_no x w5 S5.out.rx MX.out)
    obtain ⟨S, hS⟩ : ∃ S, zH = S := ⟨_, rfl⟩
    have hSl : S.length = 32 := by rw [← hS]; rfl
    rw [hS] at DG
    have HSS := Lib.hid hS; have HSL := Lib.hid hSl
    have HZL := Lib.hid (show (u8s zH).length = (u8s S).length by rw [u8s_length, u8s_length, hSl]; rfl)
    clear hS hSl
    go_wp2_with ((with_reducible refine load_blk 29 (.tmp 2) w.heap.size 29 (sv x) _ rfl rfl ?_ Tryz.underlying29 ?_ ?_ ?_ ?_); exact S5.out.a; exact rfl; exact FX.out; exact rfl)
    refine DG.out.mono ?_
    rintro e w7 ⟨rfl, b7⟩
    have S7 := Lib.hid (S5.out.below b7)
    have ZH := Lib.hid (Blk.new w7 36 (u8s zH))
    have RH := Lib.hid (ZH.out.setRow (u8s S))
    have BH := Lib.hid (below_setRow ((Below.refl w7.heap.size w7).alloc (Nat.le_refl _) (.cells (u8s zH).toArray 36)) (Nat.le_refl _) (u8s S).toArray)
    clear b7 DG S5
    go_upto_region 6 with ((with_reducible refine at_op (.store 36 (.tmp 8) (.tmp 33)) rfl ?_); go_must (refine store_blk 36 (.tmp 8) (.tmp 33) w7.heap.size 36 (u8s zH) (u8s S) rfl rfl ZH.out HZL.out (hash_size _ HSL.out) (u8s_oneD _) rfl rfl ?_))
    obtain ⟨V4, hV4⟩ : ∃ V, (w7.alloc (.cells (u8s zH).toArray 36)).setRow w7.heap.size (u8s S).toArray = V := ⟨_, rfl⟩
    change Code.wp _ _ _ _ ((w7.alloc (.cells (u8s zH).toArray 36)).setRow w7.heap.size (u8s S).toArray)
    rw [hV4] at RH BH ⊢
    obtain ⟨g9, hg9⟩ : ∃ g, w7.heap.size = g := ⟨_, rfl⟩
    have S8 := Lib.hid (S7.out.below BH.out)
    rw [hg9] at RH ⊢
    clear hV4 hg9 BH ZH S7
    obtain ⟨U, hU⟩ : ∃ U, V4.drew = U := ⟨_, rfl⟩
    have BU := Lib.hid (show Below V4.heap.size V4 U from by rw [← hU]; exact (Below.refl _ _).drew)
    have SU := Lib.hid (S8.out.below BU.out)
    have s0 : Blk U g9 36 (u8s S) := RH.out.below BU.out RH.out.lt
    have eqh := fun w => eqIn_hash S HSL.out w
    have FH := Lib.hid (hash_size S HSL.out)
    have eqh2 : ∀ w, (Op.equalIn 10000 36 (.agg (u8s S).toArray) (.agg #[Value.int IntKind.u8 0, Value.int IntKind.u8 0, Value.int IntKind.u8 0, Value.int IntKind.u8 0, Value.int IntKind.u8 0, Value.int IntKind.u8 0, Value.int IntKind.u8 0, Value.int IntKind.u8 0, Value.int IntKind.u8 0, Value.int IntKind.u8 0, Value.int IntKind.u8 0, Value.int IntKind.u8 0, Value.int IntKind.u8 0, Value.int IntKind.u8 0, Value.int IntKind.u8 0, Value.int IntKind.u8 0, Value.int IntKind.u8 0, Value.int IntKind.u8 0, Value.int IntKind.u8 0, Value.int IntKind.u8 0, Value.int IntKind.u8 0, Value.int IntKind.u8 0, Value.int IntKind.u8 0, Value.int IntKind.u8 0, Value.int IntKind.u8 0, Value.int IntKind.u8 0, Value.int IntKind.u8 0, Value.int IntKind.u8 0, Value.int IntKind.u8 0, Value.int IntKind.u8 0, Value.int IntKind.u8 0, Value.int IntKind.u8 0])).run Tryz.prog w = .ok true w := fun w => by
      rw [show (Value.agg #[Value.int IntKind.u8 0, Value.int IntKind.u8 0, Value.int IntKind.u8 0, Value.int IntKind.u8 0, Value.int IntKind.u8 0, Value.int IntKind.u8 0, Value.int IntKind.u8 0, Value.int IntKind.u8 0, Value.int IntKind.u8 0, Value.int IntKind.u8 0, Value.int IntKind.u8 0, Value.int IntKind.u8 0, Value.int IntKind.u8 0, Value.int IntKind.u8 0, Value.int IntKind.u8 0, Value.int IntKind.u8 0, Value.int IntKind.u8 0, Value.int IntKind.u8 0, Value.int IntKind.u8 0, Value.int IntKind.u8 0, Value.int IntKind.u8 0, Value.int IntKind.u8 0, Value.int IntKind.u8 0, Value.int IntKind.u8 0, Value.int IntKind.u8 0, Value.int IntKind.u8 0, Value.int IntKind.u8 0, Value.int IntKind.u8 0, Value.int IntKind.u8 0, Value.int IntKind.u8 0, Value.int IntKind.u8 0, Value.int IntKind.u8 0]) = .agg (u8s S).toArray from by rw [← HSS.out]; rfl]
      exact eqIn_hash S HSL.out w
    refine wp_region_held (S := fun Y => Blk Y g9 36 (u8s S)) (by kernel_rfl) ?_
    change wpAnyH _ _ _ _ _ _ _ _ V4.drew
    rw [hU]
    clear hU
    refine wpAnyH_take (i := 0) (v := ?_) rfl (by kernel_rfl) (by kernel_rfl) (by kernel_rfl) (fun _ _ _ h => h) (Or.inl ⟨by kernel_rfl, ?_⟩) s0 ?_
    rotate_left 1
    · (intro w hS; clear hS; go_simp; try (with_reducible rfl))
    refine wpAnyH_take (i := 1) (v := ?_) rfl (by kernel_rfl) (by kernel_rfl) (by kernel_rfl) (fun _ _ _ h => h) (Or.inl ⟨by kernel_rfl, ?_⟩) s0 ?_
    rotate_left 1
    · (intro w hS; clear hS; go_simp; try (with_reducible rfl))
    refine wpAnyH_take (i := 2) (v := ?_) rfl (by kernel_rfl) (by kernel_rfl) (by kernel_rfl) (fun _ _ _ h => h) (Or.inl ⟨by kernel_rfl, ?_⟩) s0 ?_
    rotate_left 1
    · (intro w hS; clear hS; go_simp; try (with_reducible rfl))
    refine wpAnyH_take (i := 3) (v := ?_) rfl (by kernel_rfl) (by kernel_rfl) (by kernel_rfl) (fun _ _ _ h => h) (Or.inl ⟨by kernel_rfl, ?_⟩) s0 ?_
    rotate_left 1
    · (intro w hS; clear hS; go_simp; try (with_reducible rfl))
    refine wpAnyH_take (i := 4) (v := ?_) rfl (by kernel_rfl) (by kernel_rfl) (by kernel_rfl) (fun _ _ _ h => h) (Or.inl ⟨by kernel_rfl, ?_⟩) s0 ?_
    rotate_left 1
    · (intro w hS; clear hS; go_simp; try (with_reducible rfl))
    refine wpAnyH_take (i := 5) (v := ?_) rfl (by kernel_rfl) (by kernel_rfl) (by kernel_rfl) (fun _ _ _ h => h) (Or.inl ⟨by kernel_rfl, ?_⟩) s0 ?_
    rotate_left 1
    · (intro w hS; clear hS; go_simp; try (with_reducible rfl))
    refine wpAnyH_take (i := 6) (v := ?_) rfl (by kernel_rfl) (by kernel_rfl) (by kernel_rfl) (fun _ _ _ h => h) (Or.inl ⟨by kernel_rfl, ?_⟩) s0 ?_
    rotate_left 1
    · (intro w hS; clear hS; go_simp; try (with_reducible rfl))
    refine wpAnyH_take (i := 7) (v := ?_) rfl (by kernel_rfl) (by kernel_rfl) (by kernel_rfl) (fun _ _ _ h => h) (Or.inl ⟨by kernel_rfl, ?_⟩) s0 ?_
    rotate_left 1
    · (intro w hS; clear hS; go_simp; try (with_reducible rfl))
    refine wpAnyH_take (i := 8) (v := ?_) rfl (by kernel_rfl) (by kernel_rfl) (by kernel_rfl) (fun _ _ _ h => h) (Or.inl ⟨by kernel_rfl, ?_⟩) s0 ?_
    rotate_left 1
    · (intro w hS; clear hS; go_simp; try (with_reducible rfl))
    refine wpAnyH_take (i := 9) (v := ?_) rfl (by kernel_rfl) (by kernel_rfl) (by kernel_rfl) (fun _ _ _ h => h) (Or.inl ⟨by kernel_rfl, ?_⟩) s0 ?_
    rotate_left 1
    · (intro w hS; clear hS; go_simp; try (with_reducible rfl))
    refine wpAnyH_take (i := 10) (v := ?_) rfl (by kernel_rfl) (by kernel_rfl) (by kernel_rfl) (fun _ _ _ h => h) (Or.inl ⟨by kernel_rfl, ?_⟩) s0 ?_
    rotate_left 1
    · (intro w hS; clear hS; go_simp; try (with_reducible rfl))
    refine wpAnyH_take (i := 11) (v := ?_) rfl (by kernel_rfl) (by kernel_rfl) (by kernel_rfl) (fun _ _ _ h => h) (Or.inl ⟨by kernel_rfl, ?_⟩) s0 ?_
    rotate_left 1
    · (intro w hS; clear hS; go_simp; try (with_reducible rfl))
    refine wpAnyH_take (i := 12) (v := ?_) rfl (by kernel_rfl) (by kernel_rfl) (by kernel_rfl) (fun _ _ _ h => h) (Or.inl ⟨by kernel_rfl, ?_⟩) s0 ?_
    rotate_left 1
    · (intro w hS; clear hS; go_simp; try (with_reducible rfl))
    refine wpAnyH_take (i := 13) (v := ?_) rfl (by kernel_rfl) (by kernel_rfl) (by kernel_rfl) (fun _ _ _ h => h) (Or.inl ⟨by kernel_rfl, ?_⟩) s0 ?_
    rotate_left 1
    · (intro w hS; clear hS; go_simp; try (with_reducible rfl))
    refine wpAnyH_take (i := 14) (v := ?_) rfl (by kernel_rfl) (by kernel_rfl) (by kernel_rfl) (fun _ _ _ h => h) (Or.inl ⟨by kernel_rfl, ?_⟩) s0 ?_
    rotate_left 1
    · (intro w hS; clear hS; go_simp; try (with_reducible rfl))
    refine wpAnyH_take (i := 15) (v := ?_) rfl (by kernel_rfl) (by kernel_rfl) (by kernel_rfl) (fun _ _ _ h => h) (Or.inl ⟨by kernel_rfl, ?_⟩) s0 ?_
    rotate_left 1
    · (intro w hS; clear hS; go_simp; try (with_reducible rfl))
    refine wpAnyH_take (i := 16) (v := ?_) rfl (by kernel_rfl) (by kernel_rfl) (by kernel_rfl) (fun _ _ _ h => h) (Or.inl ⟨by kernel_rfl, ?_⟩) s0 ?_
    rotate_left 1
    · (intro w hS; clear hS; go_simp; try (with_reducible rfl))
    refine wpAnyH_take (i := 17) (v := ?_) rfl (by kernel_rfl) (by kernel_rfl) (by kernel_rfl) (fun _ _ _ h => h) (Or.inl ⟨by kernel_rfl, ?_⟩) s0 ?_
    rotate_left 1
    · (intro w hS; clear hS; go_simp; try (with_reducible rfl))
    refine wpAnyH_take (i := 18) (v := ?_) rfl (by kernel_rfl) (by kernel_rfl) (by kernel_rfl) (fun _ _ _ h => h) (Or.inl ⟨by kernel_rfl, ?_⟩) s0 ?_
    rotate_left 1
    · (intro w hS; clear hS; go_simp; try (with_reducible rfl))
    refine wpAnyH_take (i := 19) (v := ?_) rfl (by kernel_rfl) (by kernel_rfl) (by kernel_rfl) (fun _ _ _ h => h) (Or.inl ⟨by kernel_rfl, ?_⟩) s0 ?_
    rotate_left 1
    · (intro w hS; clear hS; go_simp; try (with_reducible rfl))
    refine wpAnyH_take (i := 20) (v := ?_) rfl (by kernel_rfl) (by kernel_rfl) (by kernel_rfl) (fun _ _ _ h => h) (Or.inl ⟨by kernel_rfl, ?_⟩) s0 ?_
    rotate_left 1
    · (intro w hS; clear hS; go_simp; try (with_reducible rfl))
    refine wpAnyH_take (i := 21) (v := .agg ((u8s S)).toArray) rfl (by kernel_rfl) (by kernel_rfl) (by kernel_rfl) (fun _ _ _ h => h) (yieldsIf_load_mid (by kernel_rfl) 36 (.tmp 8) rfl g9 0 (by go_simp) ((u8s S)) _ (fun _ h => rows_of_blk h) Tryz.underlying36 rfl (FH.out)) s0 ?_
    refine wpAnyH_take (i := 22) (v := ?_) rfl (by kernel_rfl) (by kernel_rfl) (by kernel_rfl) (fun _ _ _ h => h) (Or.inl ⟨by kernel_rfl, ?_⟩) s0 ?_
    rotate_left 1
    · (intro w hS; clear hS; go_simp; try (with_reducible rfl))
    refine wpAnyH_take (i := 23) (v := ?_) rfl (by kernel_rfl) (by kernel_rfl) (by kernel_rfl) (fun _ _ _ h => h) (Or.inl ⟨by kernel_rfl, ?_⟩) s0 ?_
    rotate_left 1
    · (intro w hS; clear hS; go_simp; try (with_reducible rfl))
    refine wpAnyH_take (i := 24) (v := ?_) rfl (by kernel_rfl) (by kernel_rfl) (by kernel_rfl) (fun _ _ _ h => h) (Or.inl ⟨by kernel_rfl, ?_⟩) s0 ?_
    rotate_left 1
    · (intro w hS; clear hS; go_simp; try (with_reducible rfl))
    refine wpAnyH_take (i := 25) (v := ?_) rfl (by kernel_rfl) (by kernel_rfl) (by kernel_rfl) (fun _ _ _ h => h) (Or.inl ⟨by kernel_rfl, ?_⟩) s0 ?_
    rotate_left 1
    · (intro w hS; clear hS; go_simp; try (with_reducible rfl))
    refine wpAnyH_take (i := 26) (v := ?_) rfl (by kernel_rfl) (by kernel_rfl) (by kernel_rfl) (fun _ _ _ h => h) (Or.inl ⟨by kernel_rfl, ?_⟩) s0 ?_
    rotate_left 1
    · (intro w hS; clear hS; go_simp; try (with_reducible rfl))
    refine wpAnyH_take (i := 27) (v := ?_) rfl (by kernel_rfl) (by kernel_rfl) (by kernel_rfl) (fun _ _ _ h => h) (Or.inl ⟨by kernel_rfl, ?_⟩) s0 ?_
    rotate_left 1
    · (intro w hS; clear hS; go_simp; try (with_reducible rfl))
    refine wpAnyH_take (i := 28) (v := ?_) rfl (by kernel_rfl) (by kernel_rfl) (by kernel_rfl) (fun _ _ _ h => h) (Or.inl ⟨by kernel_rfl, ?_⟩) s0 ?_
    rotate_left 1
    · (intro w hS; clear hS; go_simp; try (with_reducible rfl))
    refine wpAnyH_take (i := 29) (v := ?_) rfl (by kernel_rfl) (by kernel_rfl) (by kernel_rfl) (fun _ _ _ h => h) (Or.inl ⟨by kernel_rfl, ?_⟩) s0 ?_
    rotate_left 1
    · (intro w hS; clear hS; go_simp; try (with_reducible rfl))
    refine wpAnyH_take (i := 30) (v := undef) rfl (by kernel_rfl) (by kernel_rfl) (by kernel_rfl) (fun _ _ _ h => h) (Or.inr ⟨by kernel_rfl, rfl⟩) s0 ?_
    refine wpAnyH_take (i := 31) (v := undef) rfl (by kernel_rfl) (by kernel_rfl) (by kernel_rfl) (fun _ _ _ h => h) (Or.inr ⟨by kernel_rfl, rfl⟩) s0 ?_
    refine wpAnyH_take (i := 32) (v := undef) rfl (by kernel_rfl) (by kernel_rfl) (by kernel_rfl) (fun _ _ _ h => h) (Or.inr ⟨by kernel_rfl, rfl⟩) s0 ?_
    refine wpAnyH_take (i := 33) (v := undef) rfl (by kernel_rfl) (by kernel_rfl) (by kernel_rfl) (fun _ _ _ h => h) (Or.inr ⟨by kernel_rfl, rfl⟩) s0 ?_
    refine wpAnyH_take (i := 34) (v := undef) rfl (by kernel_rfl) (by kernel_rfl) (by kernel_rfl) (fun _ _ _ h => h) (Or.inr ⟨by kernel_rfl, rfl⟩) s0 ?_
    refine wpAnyH_take (i := 35) (v := undef) rfl (by kernel_rfl) (by kernel_rfl) (by kernel_rfl) (fun _ _ _ h => h) (Or.inr ⟨by kernel_rfl, rfl⟩) s0 ?_
    refine wpAnyH_take (i := 36) (v := undef) rfl (by kernel_rfl) (by kernel_rfl) (by kernel_rfl) (fun _ _ _ h => h) (Or.inr ⟨by kernel_rfl, rfl⟩) s0 ?_
    refine wpAnyH_take (i := 37) (v := undef) rfl (by kernel_rfl) (by kernel_rfl) (by kernel_rfl) (fun _ _ _ h => h) (Or.inr ⟨by kernel_rfl, rfl⟩) s0 ?_
    refine wpAnyH_take (i := 38) (v := undef) rfl (by kernel_rfl) (by kernel_rfl) (by kernel_rfl) (fun _ _ _ h => h) (Or.inr ⟨by kernel_rfl, rfl⟩) s0 ?_
    refine wpAnyH_take (i := 39) (v := undef) rfl (by kernel_rfl) (by kernel_rfl) (by kernel_rfl) (fun _ _ _ h => h) (Or.inr ⟨by kernel_rfl, rfl⟩) s0 ?_
    refine wpAnyH_take (i := 40) (v := undef) rfl (by kernel_rfl) (by kernel_rfl) (by kernel_rfl) (fun _ _ _ h => h) (Or.inr ⟨by kernel_rfl, rfl⟩) s0 ?_
    refine wpAnyH_take (i := 41) (v := ?_) rfl (by kernel_rfl) (by kernel_rfl) (by kernel_rfl) (fun _ _ _ h => h) (Or.inl ⟨by kernel_rfl, ?_⟩) s0 ?_
    rotate_left 1
    · (intro w hS; clear hS; go_simp; try (with_reducible rfl))
    refine wpAnyH_take (i := 42) (v := ?_) rfl (by kernel_rfl) (by kernel_rfl) (by kernel_rfl) (fun _ _ _ h => h) (Or.inl ⟨by kernel_rfl, ?_⟩) s0 ?_
    rotate_left 1
    · (intro w hS; clear hS; go_simp; try (with_reducible rfl))
    refine wpAnyH_done (by kernel_rfl) ?_ _
    go_simp
    clear eqh eqh2 RH S8 s0 BU FH
    have SZ := Lib.hid SU.out
    obtain ⟨gz, hgz⟩ : ∃ g, spG xs = g := ⟨_, rfl⟩
    obtain ⟨ez, hez⟩ : ∃ g, erG xs = g := ⟨_, rfl⟩
    have HS1 := Lib.hid (HS.out.below SZ.out.bel)
    have GA := Lib.hid (SGetB_t xs A n c U HN.out HS1.out HB.out (by omega))
    rw [hgz, hez] at GA
    have HGZ := Lib.hid hgz; have HEZ := Lib.hid hez
    clear hgz hez
    go_wp2_with fail
    refine GA.out.mono ?_
    rintro e w11 ⟨xA, rfl, pA, wA, b11⟩
    have PA := Lib.hid pA
    have SA := Lib.hid (SZ.out.below b11); have HS2 := Lib.hid (HS1.out.below b11)
    clear SZ HS1 GA b11 pA
    have FX_xA := Lib.hid (sv_size xA wA.l4); have FO_xA := Lib.hid (sv_one xA); have SL_xA := Lib.hid (sv_len xA wA.l4)
    have Z_xA := Lib.hid (Blk.new w11 29 [.int .i64 0, .slice none 0 0, .slice none 0 0, .int .i64 0, .int .i64 0, .int .i64 0, .int .i64 0, .int .i64 0, .slice none 0 0, .bool false, .int .i64 0, .int .i64 0, .int .i64 0, .slice none 0 0, .bool false, .int .i64 0, .int .i64 0, .int .i64 0, .slice none 0 0, .bool false, .int .i64 0, .int .i64 0, .int .i64 0, .slice none 0 0, .bool false])
    have KN_xA := Lib.hid (KSp.new (w1 := w11) (x := xA) wA)
    go_upto_region 9 with ((with_reducible refine at_op (.store 29 (.tmp 10) (.tmp 81)) rfl ?_); go_must (refine store_blk 29 (.tmp 10) (.tmp 81) (w11).heap.size 29 _ (sv xA) rfl rfl Z_xA.out SL_xA.out.symm FX_xA.out FO_xA.out rfl rfl ?_))
    obtain ⟨V11, hV11⟩ : ∃ V, ((w11).alloc (.cells #[.int .i64 0, .slice none 0 0, .slice none 0 0, .int .i64 0, .int .i64 0, .int .i64 0, .int .i64 0, .int .i64 0, .slice none 0 0, .bool false, .int .i64 0, .int .i64 0, .int .i64 0, .slice none 0 0, .bool false, .int .i64 0, .int .i64 0, .int .i64 0, .slice none 0 0, .bool false, .int .i64 0, .int .i64 0, .int .i64 0, .slice none 0 0, .bool false] 29)).setRow (w11).heap.size (sv xA).toArray = V := ⟨_, rfl⟩
    rw [hV11] at KN_xA ⊢
    have K_xA := Lib.hid KN_xA.out.1
    have B_xA := Lib.hid KN_xA.out.2
    clear hV11 KN_xA Z_xA FO_xA SL_xA
    clear wA
    obtain ⟨gA, hgA⟩ : ∃ g, w11.heap.size = g := ⟨_, rfl⟩
    have SB_ := Lib.hid (SA.out.below B_xA.out); have HS3 := Lib.hid (HS2.out.below B_xA.out)
    rw [hgA] at K_xA ⊢
    clear hgA SA HS2 B_xA
    have GB := Lib.hid (refGetB_t xs A n c V11 HN.out HC.out HS3.out HB.out (by omega))
    rw [HGZ.out, HEZ.out] at GB
    go_wp2_with fail
    refine GB.out.mono ?_
    rintro e w12 ⟨xB, rfl, pB, wB, b12⟩
    have PB := Lib.hid pB
    have SC := Lib.hid (SB_.out.below b12); have HS4 := Lib.hid (HS3.out.below b12); have KA := Lib.hid (K_xA.out.below b12)
    clear SB_ HS3 GB b12 pB K_xA
    have FX_xB := Lib.hid (sv_size xB wB.l4); have FO_xB := Lib.hid (sv_one xB); have SL_xB := Lib.hid (sv_len xB wB.l4)
    have Z_xB := Lib.hid (Blk.new w12 29 [.int .i64 0, .slice none 0 0, .slice none 0 0, .int .i64 0, .int .i64 0, .int .i64 0, .int .i64 0, .int .i64 0, .slice none 0 0, .bool false, .int .i64 0, .int .i64 0, .int .i64 0, .slice none 0 0, .bool false, .int .i64 0, .int .i64 0, .int .i64 0, .slice none 0 0, .bool false, .int .i64 0, .int .i64 0, .int .i64 0, .slice none 0 0, .bool false])
    have KN_xB := Lib.hid (KSp.new (w1 := w12) (x := xB) wB)
    go_upto_region 10 with ((with_reducible refine at_op (.store 29 (.tmp 12) (.tmp 86)) rfl ?_); go_must (refine store_blk 29 (.tmp 12) (.tmp 86) (w12).heap.size 29 _ (sv xB) rfl rfl Z_xB.out SL_xB.out.symm FX_xB.out FO_xB.out rfl rfl ?_))
    obtain ⟨V12, hV12⟩ : ∃ V, ((w12).alloc (.cells #[.int .i64 0, .slice none 0 0, .slice none 0 0, .int .i64 0, .int .i64 0, .int .i64 0, .int .i64 0, .int .i64 0, .slice none 0 0, .bool false, .int .i64 0, .int .i64 0, .int .i64 0, .slice none 0 0, .bool false, .int .i64 0, .int .i64 0, .int .i64 0, .slice none 0 0, .bool false, .int .i64 0, .int .i64 0, .int .i64 0, .slice none 0 0, .bool false] 29)).setRow (w12).heap.size (sv xB).toArray = V := ⟨_, rfl⟩
    rw [hV12] at KN_xB ⊢
    have K_xB := Lib.hid KN_xB.out.1
    have B_xB := Lib.hid KN_xB.out.2
    clear hV12 KN_xB Z_xB FO_xB SL_xB
    clear wB
    obtain ⟨gB, hgB⟩ : ∃ g, w12.heap.size = g := ⟨_, rfl⟩
    have SD := Lib.hid (SC.out.below B_xB.out); have HS5 := Lib.hid (HS4.out.below B_xB.out); have KA2 := Lib.hid (KA.out.below B_xB.out)
    rw [hgB] at K_xB ⊢
    clear hgB SC HS4 B_xB KA
    have TD := Lib.hid (told9_t V12 (HK.out.below SD.out.bel HG.out))
    go_wp2_with fail
    refine TD.out.mono ?_
    rintro e w13 ⟨rfl, b13⟩
    have SE := Lib.hid (SD.out.below b13); have HS6 := Lib.hid (HS5.out.below b13); have KA3 := Lib.hid (KA2.out.below b13); have KB3 := Lib.hid (K_xB.out.below b13)
    clear SD HS5 KA2 K_xB TD b13
    have SS := Lib.hid (refSameSpace_t xA xB w13 KA3.out.w KB3.out.w)
    rw [PA.out, PB.out, spS_iff.2 rfl] at SS
    go_wp2_with (first
      | ((with_reducible refine load_blk_gdO 95 29 (.tmp 10) gA 29 (sv xA) _ ?_ ?_ rfl ?_ Tryz.underlying29 ?_ ?_ ?_ ?_); exact rfl; kernel_rfl; exact KA3.out.box; exact rfl; exact FX_xA.out; exact rfl)
      | ((with_reducible refine load_blk_gdO 96 29 (.tmp 12) gB 29 (sv xB) _ ?_ ?_ rfl ?_ Tryz.underlying29 ?_ ?_ ?_ ?_); exact rfl; kernel_rfl; exact KB3.out.box; exact rfl; exact FX_xB.out; exact rfl))
    refine SS.out.mono ?_
    rintro e w14 ⟨rfl, b14⟩
    have SF_ := Lib.hid (SE.out.below b14); have HS7 := Lib.hid (HS6.out.below b14)
    clear SE HS6 SS b14 KA3 KB3
    have OA := Lib.hid (OfB_t xs A n c w14 HN.out HC.out HS7.out HB.out (by omega) (HK.out.below SF_.out.bel HG.out))
    obtain ⟨T, hT⟩ : ∃ S, sum (stM ++ xs) = S := ⟨_, rfl⟩
    have hTl : T.length = 32 := by rw [← hT]; rfl
    rw [hT] at OA
    have HTT := Lib.hid hT; have HTL := Lib.hid hTl
    clear hT hTl
    go_wp2_with fail
    refine OA.out.mono ?_
    rintro e w15 ⟨rfl, b15⟩
    have SG_ := Lib.hid (SF_.out.below b15); have HS8 := Lib.hid (HS7.out.below b15)
    clear SF_ HS7 OA b15
    have OR := Lib.hid (refOfB_t xs A n c w15 HN.out HS8.out HB.out (by omega))
    rw [HTT.out] at OR
    go_wp2_with fail
    refine OR.out.mono ?_
    rintro e w16 ⟨rfl, b16⟩
    have SH := Lib.hid (SG_.out.below b16)
    clear SG_ HS8 OR b16
    have eqh := fun w => eqIn_hash T HTL.out w
    go_wp2_with fail
    go_ret
    exact ⟨rfl, SH.out.bel⟩
end Go.Proofs.YtphgognhjdbdjaaGreatDoor
