/-
  THE REFERENCE OF CHAPTER 6: PutFields, of what may be.
-/
import Derived.Test.YtigbnjgmdgkgjaaDoorTrB
import Derived.Test.YtigbnjgmdgkgjaaDoorTpMz
namespace Go.Proofs.YtigbnjgmdgkgjaaDoor
open Go Go.RowKit Sh

theorem beN_k1 (k : Nat) (h : k < 256) : beN k 1 = [k] := by
  simp [beN]
  omega
/-- The row so far. -/
structure PC (w0 W : World) (v : Value) (xs : List Nat) : Prop where
  own : W.ownsRow w0.heap.size 5 1 v xs.length (u8s xs)
  bel : Below w0.heap.size w0 W
theorem PC.below {w0 W W' : World} {v : Value} {xs : List Nat} (h : PC w0 W v xs) (hb : Below W.heap.size W W') : PC w0 W' v xs := ⟨own_below h.own hb, h.bel.trans (hb.mono h.bel.size)⟩
theorem PC.grow {w0 W W' : World} {v v' : Value} {xs ys : List Nat} {m : Nat} (h : PC w0 W v xs) (a1 : W'.ownsRow w0.heap.size 5 1 v' (xs.length + m) (u8s (xs ++ ys))) (hm : ys.length = m) (a2 : W.grownBy W' v.ownBlock) : PC w0 W' v' (xs ++ ys) :=
  ⟨by rw [List.length_append, hm]; exact a1, h.bel.grown a2 h.bel.size (fun k e => (h.own.lt k e).1)⟩
set_option maxRecDepth 100000 in
set_option maxHeartbeats 1000000 in
theorem refput_t (n c : Nat) (p : Option Addr) (G : Nat → Fld) (w : World) (hr : Rw w p n G) (h : mayP n G = true) :
    Calls Tryd.prog 34 #[.slice p n c] w fun e w' => ∃ u, e = .returned u ∧ w'.ownsRow w.heap.size 5 1 u (putN n G).length (u8s (putN n G)) ∧ Below w.heap.size w w' := by
  obtain ⟨h1, h6, hk⟩ := mayP_iff h
  have HR := Lib.hid hr; have HK := Lib.hid hk
  have i0 : (n : Int) ≠ 0 := by omega
  have iw : IntKind.u64.wrap (n : Int) = (n : Int) := IntWalk.u64_in _ (by omega)
  have e0 : ((n : Int) == 0) = false := by rw [beq_eq_false_iff_ne]; exact i0
  clear hr hk h
  go_enter Tryd.func34, Tryd.ntmps34
  go_wp2_with fail
  refine (refnum_t n 1 _ (by decide) (by decide)).mono ?_
  rintro e w1 ⟨u, rfl, o1, b1⟩
  have P1 := Lib.hid (show PC w w1 u (beN n 1 ++ catF G 0) from ⟨by rw [catF, List.append_nil]; exact o1, b1⟩)
  clear o1 b1 i0 iw e0
  go_upto_region 5 with (fail)
  go_loopw [3, 4] (fun v x wr => ∃ (j : Nat) (ys : List Nat), j ≤ n ∧ x = .int .i64 (j : Int) ∧ ys = beN n 1 ++ catF G j ∧ PC w wr v ys) (fun _ x _ => n - (intOf x).toNat)
  case atStart => exact ⟨0, _, by omega, rfl, rfl, P1.out⟩
  case round =>
    clear P1
    obtain ⟨j, xs, hj, rfl, hxs, pc⟩ := hrel
    have PJ0 := Lib.hid pc
    by_cases hlt : j < n
    · obtain ⟨b, o, hp, rg⟩ := (HR.out.below pc.bel).read hlt
      subst hp
      have j1 : (j : Int) < (n : Int) := by omega
      have LX := Lib.hid (show xs.length ≤ 1000 by
        have := catF_length G j (fun i hi => HK.out i (by omega))
        rw [hxs, List.length_append, beN_length]; omega)
      have OK := Lib.hid (okP_kinds (G j) (HK.out j hlt))
      have OK2 := Lib.hid (HK.out j hlt)
      clear rg pc
      have AL := (Below.refl wr.heap.size wr)
      obtain ⟨f, hf⟩ : ∃ f, G j = f := ⟨_, rfl⟩
      rw [hf] at OK OK2
      obtain ⟨k, m, s⟩ := f
      have hk0 : (G j).k = k := by rw [hf]
      have HF := Lib.hid hf
      have c0 : wr.cell? ⟨b, o + j * 3, none⟩ = some (.int .i64 k) := by
        have h := (HR.out.below PJ0.out.bel).kind rfl hlt
        rwa [hk0] at h
      have HXS := Lib.hid hxs
      clear AL hf hxs
      have hk5 : k = 1 ∨ k = 2 ∨ k = 3 ∨ k = 4 ∨ k = 5 := OK.out.1
      rcases hk5 with rfl | rfl | rfl | rfl | rfl
      · have PA := Lib.hid (PJ0.out.below ((Below.refl wr.heap.size wr).alloc (Nat.le_refl _) (.cells #[.int .u8 1] 5)))
        have SM := Lib.hid (Sr.one 1 1 rfl wr 5 (0, 0))
        obtain ⟨v, hv, hv2⟩ : ∃ v : Nat, IntKind.u64.wrap m = (v : Int) ∧ v < 18446744073709551616 := ⟨(IntKind.u64.wrap m).toNat, by simp [IntKind.wrap, IntKind.bits, IntKind.signed]; omega, by simp [IntKind.wrap, IntKind.bits, IntKind.signed]; omega⟩
        go_upto_region 8 with (with_reducible refine at_op (.call { callee := .builtin .append, args := #[.tmp 18, .tmp 25], argTypes := #[25, 25] }) rfl ?_; go_must (refine append_bytes (.tmp 18) (.tmp 25) 25 rfl rfl 5 Tryd.underlying25 byte_info w.heap.size u3 xs.length xs [1] rfl PA.out.own (some ⟨wr.heap.size, 0, none⟩) 1 1 rfl rfl SM.out (by have := LX.out; omega) PA.out.bel.size ?_); intro v1 w5 a1 a2 a3)
        have P5 := Lib.hid (PA.out.grow a1.out rfl a2.out)
        have R5 := HR.out.below P5.out.bel
        clear c0 a1 a2 a3 PA SM
        have c0 : w5.cell? ⟨b, o + j * 3, none⟩ = some (.int .i64 1) := by
          have h := R5.kind rfl hlt
          rwa [hk0] at h
        have c1 : w5.cell? ⟨b, o + j * 3 + 1, none⟩ = some (.int .i64 m) := by
          obtain ⟨b', o', e, _, r⟩ := R5 j hlt
          injection e with e
          injection e with e1 e2
          subst e1 e2
          have := r 1 (.int .i64 (G j).n) rfl
          rwa [HF.out] at this
        have HPF := Lib.hid (show putF (G j) = [1] ++ beN v 8 by rw [HF.out]; unfold putF; rw [if_pos rfl]; show beN 1 1 ++ beN (IntKind.u64.wrap m).toNat 8 = _; rw [hv, Int.toNat_natCast, beN_k1 1 (by decide)])
        clear R5
        go_wp2_with fail
        refine (refnum_t v 8 w5 (by decide) (by decide)).mono ?_
        rintro e w6 ⟨u2, rfl, o6, b6⟩
        obtain ⟨A6, c6, rfl, _⟩ := own_form o6
        rw [beN_length] at o6 ⊢
        have P6 := Lib.hid (P5.out.below b6); have S6 := Lib.hid (Sr.of_own o6)
        clear o6 b6 P5 c0 c1
        go_wp2_with (with_reducible refine at_op (.call { callee := .builtin .append, args := #[.tmp 34, .tmp 41], argTypes := #[25, 25] }) rfl ?_; go_must (refine append_bytes (.tmp 34) (.tmp 41) 25 rfl rfl 5 Tryd.underlying25 byte_info w.heap.size v1 (xs ++ [1]).length (xs ++ [1]) (beN v 8) rfl P6.out.own A6 8 c6 rfl (beN_length v 8) S6.out (by have := LX.out; rw [List.length_append]; simp; omega) P6.out.bel.size ?_); intro v2 w7 a1 a2 a3)
        have P7 := P6.out.grow a1.out (beN_length v 8) a2.out
        rw [List.append_assoc, ← HPF.out] at P7
        rw [HXS.out] at P7
        exact ⟨⟨j + 1, _, hlt, by go_num, rfl, by rw [catF, ← List.append_assoc]; exact P7⟩, by simp [intOf]; omega⟩
      · have PA := Lib.hid (PJ0.out.below ((Below.refl wr.heap.size wr).alloc (Nat.le_refl _) (.cells #[.int .u8 2] 5)))
        have SM := Lib.hid (Sr.one 2 2 rfl wr 5 (0, 0))
        have hs40 : s.size ≤ 40 := OK.out.2 rfl
        go_upto_region 8 with (with_reducible refine at_op (.call { callee := .builtin .append, args := #[.tmp 18, .tmp 25], argTypes := #[25, 25] }) rfl ?_; go_must (refine append_bytes (.tmp 18) (.tmp 25) 25 rfl rfl 5 Tryd.underlying25 byte_info w.heap.size u3 xs.length xs [2] rfl PA.out.own (some ⟨wr.heap.size, 0, none⟩) 1 1 rfl rfl SM.out (by have := LX.out; omega) PA.out.bel.size ?_); intro v1 w5 a1 a2 a3)
        have P5 := Lib.hid (PA.out.grow a1.out rfl a2.out)
        have R5 := HR.out.below P5.out.bel
        clear c0 a1 a2 a3 PA SM
        have c0 : w5.cell? ⟨b, o + j * 3, none⟩ = some (.int .i64 2) := by
          have h := R5.kind rfl hlt
          rwa [hk0] at h
        have c2 : w5.cell? ⟨b, o + j * 3 + 2, none⟩ = some (.string s) := by
          obtain ⟨b', o', e, _, r⟩ := R5 j hlt
          injection e with e
          injection e with e1 e2
          subst e1 e2
          have := r 2 (.string (G j).s) rfl
          rwa [HF.out] at this
        have HPF := Lib.hid (show putF (G j) = [2] ++ txtN (bs s) by rw [HF.out]; unfold putF; rw [if_neg (show ¬ ((2 : Int) = 1) by decide), if_pos rfl]; show beN 2 1 ++ txtN (bs s) = _; rw [beN_k1 2 (by decide)])
        obtain ⟨w6, cc, hc, _, hsr, hb3⟩ := conv_txt s w5
        have SR := Lib.hid hsr; have P6 := Lib.hid (P5.out.below hb3)
        clear R5 hsr hb3
        go_wp2_with fail
        refine (reftext_t (bs s) (some ⟨w5.heap.size, 0, none⟩) s.size cc w6 (bs_length s) SR.out (by omega)).mono ?_
        rintro e w7 ⟨u2, rfl, o7, b7⟩
        obtain ⟨A7, c7, rfl, _⟩ := own_form o7
        have HTL := Lib.hid (show (txtN (bs s)).length ≤ 44 by rw [txtN, List.length_append, beN_length, bs_length]; omega)
        have P7 := Lib.hid (P6.out.below b7); have S7 := Lib.hid (Sr.of_own o7)
        clear o7 b7 P5 P6 c0 c2 hc SR
        go_wp2_with (with_reducible refine at_op (.call { callee := .builtin .append, args := #[.tmp 45, .tmp 52], argTypes := #[25, 25] }) rfl ?_; go_must (refine append_bytes (.tmp 45) (.tmp 52) 25 rfl rfl 5 Tryd.underlying25 byte_info w.heap.size v1 (xs ++ [2]).length (xs ++ [2]) (txtN (bs s)) rfl P7.out.own A7 _ c7 rfl rfl S7.out (by have := LX.out; have := HTL.out; rw [List.length_append]; simp; omega) P7.out.bel.size ?_); intro v2 w8 a1 a2 a3)
        have P8 := P7.out.grow a1.out rfl a2.out
        rw [List.append_assoc, ← HPF.out] at P8
        rw [HXS.out] at P8
        exact ⟨⟨j + 1, _, hlt, by go_num, rfl, by rw [catF, ← List.append_assoc]; exact P8⟩, by simp [intOf]; omega⟩
      · have PA := Lib.hid (PJ0.out.below ((Below.refl wr.heap.size wr).alloc (Nat.le_refl _) (.cells #[.int .u8 3] 5)))
        have SM := Lib.hid (Sr.one 3 3 rfl wr 5 (0, 0))
        go_upto_region 8 with (with_reducible refine at_op (.call { callee := .builtin .append, args := #[.tmp 18, .tmp 25], argTypes := #[25, 25] }) rfl ?_; go_must (refine append_bytes (.tmp 18) (.tmp 25) 25 rfl rfl 5 Tryd.underlying25 byte_info w.heap.size u3 xs.length xs [3] rfl PA.out.own (some ⟨wr.heap.size, 0, none⟩) 1 1 rfl rfl SM.out (by have := LX.out; omega) PA.out.bel.size ?_); intro v1 w5 a1 a2 a3)
        have P5 := Lib.hid (PA.out.grow a1.out rfl a2.out)
        have R5 := HR.out.below P5.out.bel
        clear c0 a1 a2 a3 PA SM
        have c0 : w5.cell? ⟨b, o + j * 3, none⟩ = some (.int .i64 3) := by
          have h := R5.kind rfl hlt
          rwa [hk0] at h
        have HPF := Lib.hid (show putF (G j) = [3] by rw [HF.out]; unfold putF; rw [if_neg (show ¬ ((3 : Int) = 1) by decide), if_neg (show ¬ ((3 : Int) = 2) by decide), List.append_nil]; show beN 3 1 = _; rw [beN_k1 3 (by decide)])
        clear R5
        have P7 := P5.out
        rw [← HPF.out] at P7
        rw [HXS.out] at P7
        clear P5
        go_wp2_with fail
        exact ⟨⟨j + 1, _, hlt, by go_num, rfl, by rw [catF, ← List.append_assoc]; exact P7⟩, by simp [intOf]; omega⟩
      · have PA := Lib.hid (PJ0.out.below ((Below.refl wr.heap.size wr).alloc (Nat.le_refl _) (.cells #[.int .u8 4] 5)))
        have SM := Lib.hid (Sr.one 4 4 rfl wr 5 (0, 0))
        go_upto_region 8 with (with_reducible refine at_op (.call { callee := .builtin .append, args := #[.tmp 18, .tmp 25], argTypes := #[25, 25] }) rfl ?_; go_must (refine append_bytes (.tmp 18) (.tmp 25) 25 rfl rfl 5 Tryd.underlying25 byte_info w.heap.size u3 xs.length xs [4] rfl PA.out.own (some ⟨wr.heap.size, 0, none⟩) 1 1 rfl rfl SM.out (by have := LX.out; omega) PA.out.bel.size ?_); intro v1 w5 a1 a2 a3)
        have P5 := Lib.hid (PA.out.grow a1.out rfl a2.out)
        have R5 := HR.out.below P5.out.bel
        clear c0 a1 a2 a3 PA SM
        have c0 : w5.cell? ⟨b, o + j * 3, none⟩ = some (.int .i64 4) := by
          have h := R5.kind rfl hlt
          rwa [hk0] at h
        have HPF := Lib.hid (show putF (G j) = [4] by rw [HF.out]; unfold putF; rw [if_neg (show ¬ ((4 : Int) = 1) by decide), if_neg (show ¬ ((4 : Int) = 2) by decide), List.append_nil]; show beN 4 1 = _; rw [beN_k1 4 (by decide)])
        clear R5
        have P7 := P5.out
        rw [← HPF.out] at P7
        rw [HXS.out] at P7
        clear P5
        go_wp2_with fail
        exact ⟨⟨j + 1, _, hlt, by go_num, rfl, by rw [catF, ← List.append_assoc]; exact P7⟩, by simp [intOf]; omega⟩
      · have PA := Lib.hid (PJ0.out.below ((Below.refl wr.heap.size wr).alloc (Nat.le_refl _) (.cells #[.int .u8 5] 5)))
        have SM := Lib.hid (Sr.one 5 5 rfl wr 5 (0, 0))
        go_upto_region 8 with (with_reducible refine at_op (.call { callee := .builtin .append, args := #[.tmp 18, .tmp 25], argTypes := #[25, 25] }) rfl ?_; go_must (refine append_bytes (.tmp 18) (.tmp 25) 25 rfl rfl 5 Tryd.underlying25 byte_info w.heap.size u3 xs.length xs [5] rfl PA.out.own (some ⟨wr.heap.size, 0, none⟩) 1 1 rfl rfl SM.out (by have := LX.out; omega) PA.out.bel.size ?_); intro v1 w5 a1 a2 a3)
        have P5 := Lib.hid (PA.out.grow a1.out rfl a2.out)
        have R5 := HR.out.below P5.out.bel
        clear c0 a1 a2 a3 PA SM
        have c0 : w5.cell? ⟨b, o + j * 3, none⟩ = some (.int .i64 5) := by
          have h := R5.kind rfl hlt
          rwa [hk0] at h
        have HPF := Lib.hid (show putF (G j) = [5] by rw [HF.out]; unfold putF; rw [if_neg (show ¬ ((5 : Int) = 1) by decide), if_neg (show ¬ ((5 : Int) = 2) by decide), List.append_nil]; show beN 5 1 = _; rw [beN_k1 5 (by decide)])
        clear R5
        have P7 := P5.out
        rw [← HPF.out] at P7
        rw [HXS.out] at P7
        clear P5
        go_wp2_with fail
        exact ⟨⟨j + 1, _, hlt, by go_num, rfl, by rw [catF, ← List.append_assoc]; exact P7⟩, by simp [intOf]; omega⟩
    · obtain rfl : j = n := by omega
      clear hlt hj
      have PE := Lib.hid (show PC w wr u3 (putN j G) by rw [putN, ← hxs]; exact pc)
      clear PJ0 pc hxs
      go_wp2_with fail
      go_ret
      exact ⟨_, rfl, PE.out.own, PE.out.bel⟩
end Go.Proofs.YtigbnjgmdgkgjaaDoor
