/-
  THE REFERENCE OF CHAPTER 3: Digits.
-/
import Derived.Test.YtahghfjjpbjemaaDoorRfD
namespace Go.Proofs.YtahghfjjpbjemaaDoor
open Go Go.RowKit Sh

/-- The first k digits. -/
def digK (i : Nat) (h : List Nat) (k : Nat) : List Nat := (List.range k).map (digN (kd i).w (kd i).ls h)
theorem digK_succ (i : Nat) (h : List Nat) (k : Nat) : digK i h (k + 1) = digK i h k ++ [digN (kd i).w (kd i).ls h k] := by
  unfold digK; rw [List.range_succ, List.map_append]; rfl
theorem digK_length (i : Nat) (h : List Nat) (k : Nat) : (digK i h k).length = k := by simp [digK]
/-- Rows of unlike element types lie in unlike blocks. -/
theorem own_types {w : World} {base base' : Nat} {e e' : TypeId} {size size' : Nat} {v v' : Value} {n n' : Nat} {xs xs' : List Value} (h : w.ownsRow base e size v n xs) (h' : w.ownsRow base' e' size' v' n' xs') (hne : e ≠ e') (k : Nat) (hk : v.ownBlock = some k) : v'.ownBlock ≠ some k := by
  rcases h.2 with ⟨rfl, _⟩ | ⟨g, cap, cur, rfl, _, hh, _⟩
  · simp [Value.ownBlock] at hk
  · rcases h'.2 with ⟨rfl, _⟩ | ⟨g', cap', cur', rfl, _, hh', _⟩
    · simp [Value.ownBlock]
    · intro he
      have e1 : g = k := by simpa [Value.ownBlock] using hk
      have e2 : g' = k := by simpa [Value.ownBlock] using he
      subst e1
      subst e2
      rw [hh] at hh'
      injection hh' with hh'
      injection hh' with _ ht
      exact hne ht
set_option maxRecDepth 100000 in
set_option maxHeartbeats 1000000 in
theorem refdigits_0 (h : List Nat) (w : World) (hl : h.length = 32) (hb : Bytes h) :
    Calls Tryd.prog 11 #[.int .i64 1, .agg (u8s h).toArray] w fun e w' => ∃ v, e = .returned v ∧ FreshI w w' v (digs 0 h) := by
  have HL := Lib.hid hl; have HB := Lib.hid hb
  have B0 := Lib.hid (((Below.refl w.heap.size w).alloc (Nat.le_refl _) (.cells (u8s h).toArray 23)).alloc (by simp) (.cells #[] 5))
  have SI := Lib.hid (Sr.of_blk (xs := h) (rest := []) ((Blk.new w 23 (u8s h)).alloc (.cells #[] 5)) (by simp))
  clear hl hb
  go_enter Tryd.func11, Tryd.ntmps11
  go_wp2_with ((with_reducible refine at_op (.call { callee := .builtin .append, args := #[.tmp 10, .tmp 11], argTypes := #[34, 34] }) rfl ?_); go_must (refine append_bytes (.tmp 10) (.tmp 11) 34 rfl rfl 5 Tryd.underlying34 byte_info w.heap.size (.slice (some ⟨w.heap.size + 1, 0, none⟩) 0 0) 0 [] h rfl (own_empty _ _ _ (by simp) (by simp)) (some ⟨w.heap.size, 0, none⟩) 32 32 rfl HL.out SI.out (by omega) (by simp; omega) ?_); intro v1 w1 a1 a2 a3)
  have b1 : Below w.heap.size w w1 := B0.out.grown a2.out B0.out.size (fun k e => by have := Option.some.inj e; simp at this; omega)
  have o1 := a1.out
  rw [List.nil_append, Nat.zero_add] at o1
  obtain ⟨A, c, rfl, hc⟩ := own_form o1
  have B1 := Lib.hid b1; have O1 := Lib.hid o1; have S1 := Lib.hid (Sr.of_own o1)
  clear b1 o1 a1 a2 a3 B0 SI hc
  go_loopw [6, 7] (fun s i wr => ∃ k : Nat, k ≤ 256 ∧ i = .int .i64 k ∧ s = .int .i64 ((sumN 1 h k : Nat) : Int) ∧ wr = w1) (fun _ i _ => 256 - (intOf i).toNat)
  case atStart => exact ⟨0, by omega, rfl, rfl, by first | rfl | trivial⟩
  case round =>
    obtain ⟨k, hk, rfl, rfl, rfl⟩ := hrel
    have hsu := sumN_le 1 h k
    by_cases hlt : k < 256
    · have i1 : (k : Int) < 256 := by omega
      have hc := coefN_lt 1 h k
      have HSU := Lib.hid (show sumN 1 h (k + 1) = sumN 1 h k + (2 ^ 1 - 1 - coefN 1 h k) from rfl)
      have CO := Lib.hid (refcoef_0 h A 32 k c wr HL.out S1.out HB.out (by simp; omega) (by decide))
      obtain ⟨d, hd⟩ : ∃ d, coefN 1 h k = d := ⟨_, rfl⟩
      obtain ⟨s, hs⟩ : ∃ s, sumN 1 h k = s := ⟨_, rfl⟩
      rw [hd] at hc HSU CO
      rw [hs] at hsu HSU ⊢
      have d1 : (d : Int) < 2 := by simp at hc; omega
      have s1 : (s : Int) ≤ 8160 := by simp at hsu; omega
      clear hd hs hc hsu
      go_wp2_with fail
      refine CO.out.mono ?_
      rintro e w2 ⟨rfl, rfl⟩
      go_wp2_with fail
      go_roundw
      case rel =>
        refine ⟨k + 1, by omega, by go_num, ?_, by first | rfl | trivial⟩
        rw [HSU.out]; exact congrArg (Value.int .i64) (by omega)
      case measure => simp [intOf]; omega
    · obtain rfl : k = 256 := by omega
      rw [show ((256 : Nat) : Int) = 256 from rfl]
      have SH := Lib.hid (refshift_t 0 (by decide) wr)
      obtain ⟨s, hs⟩ : ∃ s, sumN 1 h 256 = s := ⟨_, rfl⟩
      rw [hs] at hsu ⊢
      have s1 : (s : Int) ≤ 8160 := by simp at hsu; omega
      have HSS := Lib.hid hs; have HSL := Lib.hid hsu
      have HCC := Lib.hid (show cksN 1 7 h = s * 2 ^ 7 by unfold cksN; rw [show 256 / 1 = 256 from rfl, hs])
      clear hs hsu hlt hk
      go_wp2_with fail
      refine SH.out.mono ?_
      rintro e w2 ⟨rfl, rfl⟩
      rw [show (kd 0).ls = 7 from rfl]
      go_upto_region 8 with (fail)
      obtain ⟨C, hC⟩ : ∃ C, s * 2 ^ 7 = C := ⟨_, rfl⟩
      rw [show (s : Int) * 128 = (C : Int) from by simp at hC; omega]
      have hC2 : C < 65536 := by rw [← hC]; have := HSL.out; simp at this ⊢; omega
      rw [hC] at HCC
      obtain ⟨x, hx⟩ : ∃ x, C / 256 = x := ⟨_, rfl⟩
      obtain ⟨y, hy⟩ : ∃ y, C % 256 = y := ⟨_, rfl⟩
      have q1 : (C : Int) / 256 = (x : Int) := by omega
      have q2 : (C : Int) % 256 = (y : Int) := by omega
      have x1 : (x : Int) < 256 := by omega
      have y1 : (y : Int) < 256 := by omega
      have HXT := Lib.hid (show h ++ [x, y] = extN 1 7 h by unfold extN; rw [HCC.out, hx, hy, Nat.mod_eq_of_lt (show x < 256 by omega)])
      have BA := Lib.hid ((Below.refl wr.heap.size wr).alloc (Nat.le_refl _) (.cells (u8s [x, y]).toArray 5))
      clear hC hC2 hx hy
      go_wp2_with ((with_reducible refine at_op (.call { callee := .builtin .append, args := #[.tmp 34, .tmp 40], argTypes := #[34, 34] }) rfl ?_); go_must (refine append_bytes (.tmp 34) (.tmp 40) 34 rfl rfl 5 Tryd.underlying34 byte_info w.heap.size (.slice A 32 c) 32 h [x, y] rfl (own_below O1.out BA.out) (some ⟨wr.heap.size, 0, none⟩) 2 2 rfl rfl (Sr.made [x, y] wr _ _) (by omega) (by have := B1.out.size; simp; omega) ?_); intro v3 w3 e1 e2 e3)
      have b3 : Below w.heap.size w w3 := (B1.out.alloc B1.out.size _).grown e2.out (by have := B1.out.size; simp; omega) (fun k e => (O1.out.lt k e).1)
      have o3 := e1.out
      rw [HXT.out, show 32 + 2 = 34 from rfl] at o3
      obtain ⟨A3, c3, rfl, hc3⟩ := own_form o3
      have HE := Lib.hid (show (extN 1 7 h).length = 34 from extN_length _ _ _ HL.out)
      have HEB := Lib.hid (extN_bytes 1 7 h HB.out)
      have B3 := Lib.hid b3; have O3 := Lib.hid o3
      clear b3 o3 e1 e2 e3 hc3 q1 q2 x1 y1
      go_loopw [8, 9] (fun o i wx => ∃ k : Nat, k ≤ 265 ∧ i = .int .i64 k ∧ wx.ownsRow w.heap.size 3 1 o k (ints (digK 0 h k)) ∧ wx.ownsRow w.heap.size 5 1 (.slice A3 34 c3) 34 (u8s (extN 1 7 h)) ∧ Below w.heap.size w wx) (fun _ i _ => 265 - (intOf i).toNat)
      case atStart => exact ⟨0, by omega, rfl, int_nil_own _ _, O3.out, B3.out⟩
      case round =>
        clear B3 O3
        obtain ⟨k, hk, rfl, oo, ob, bw⟩ := hrel
        have OO := Lib.hid oo; have OB := Lib.hid ob; have BW := Lib.hid bw
        have CH := Lib.hid (refchains_t 0 (by decide) wr)
        clear oo ob bw
        by_cases hlt : k < 265
        · have i1 : (k : Int) < 265 := by omega
          have CO := Lib.hid (refcoef_0 (extN 1 7 h) A3 34 k c3 wr HE.out (Sr.of_own OB.out) HEB.out (by simp; omega) (by decide))
          have HD := Lib.hid (show coefN 1 (extN 1 7 h) k = digN (kd 0).w (kd 0).ls h k from rfl)
          obtain ⟨d, hd⟩ : ∃ d, coefN 1 (extN 1 7 h) k = d := ⟨_, rfl⟩
          rw [hd] at CO HD
          clear hd
          go_wp2_with fail
          refine CH.out.mono ?_
          rintro e w4 ⟨rfl, rfl⟩
          rw [show (kd 0).p = 265 from rfl]
          go_wp2_with fail
          refine CO.out.mono ?_
          rintro e w5 ⟨rfl, rfl⟩
          have BB := Lib.hid ((Below.refl wr.heap.size wr).alloc (Nat.le_refl _) (.cells #[.int .i64 (d : Int)] 3))
          go_wp2_with ((with_reducible refine at_op (.call { callee := .builtin .append, args := #[.tmp 48, .tmp 53], argTypes := #[24, 24] }) rfl ?_); go_must (refine append_cells (.tmp 48) (.tmp 53) 24 rfl rfl 3 (.int .i64 0) 8 Tryd.underlying24 int_info rfl w.heap.size _ k _ (ints [d]) rfl (own_below OO.out BB.out) ⟨wr.heap.size, 0, none⟩ 1 1 rfl rfl (fun j u hu => by rw [Addr.add_mid, Nat.zero_add]; exact ((Blk.new wr 3 (ints [d])).cell j).trans hu) (ints_each _) (by unfold maxLen; omega) (by omega) (by have := BW.out.size; simp; omega) ?_); intro v6 w6 a1 a2 a3)
          go_roundw
          case rel =>
            refine ⟨k + 1, by omega, by go_num, ?_, ?_, ?_⟩
            · have h := a1.out
              rw [← ints_app] at h
              rw [digK_succ, ← HD.out]
              exact h
            · have h := own_below OB.out BB.out
              exact own_kept (F := fun q => _ = some q) h ((Kept.refl (fun q => _ = some q) _).grown a2.out (fun q e => .inl e)) (fun q e he => own_types h (own_below OO.out BB.out) (by decide) q e he)
            · exact (BW.out.alloc BW.out.size _).grown a2.out (by have := BW.out.size; simp; omega) (fun i e => (OO.out.lt i e).1)
          case measure => simp [intOf]; omega
        · obtain rfl : k = 265 := by omega
          go_wp2_with fail
          refine CH.out.mono ?_
          rintro e w4 ⟨rfl, rfl⟩
          rw [show (kd 0).p = 265 from rfl]
          go_wp2_with fail
          go_ret
          refine ⟨_, rfl, ?_, BW.out⟩
          rw [digs_length]
          exact OO.out
set_option maxRecDepth 100000 in
set_option maxHeartbeats 1000000 in
theorem refdigits_1 (h : List Nat) (w : World) (hl : h.length = 32) (hb : Bytes h) :
    Calls Tryd.prog 11 #[.int .i64 2, .agg (u8s h).toArray] w fun e w' => ∃ v, e = .returned v ∧ FreshI w w' v (digs 1 h) := by
  have HL := Lib.hid hl; have HB := Lib.hid hb
  have B0 := Lib.hid (((Below.refl w.heap.size w).alloc (Nat.le_refl _) (.cells (u8s h).toArray 23)).alloc (by simp) (.cells #[] 5))
  have SI := Lib.hid (Sr.of_blk (xs := h) (rest := []) ((Blk.new w 23 (u8s h)).alloc (.cells #[] 5)) (by simp))
  clear hl hb
  go_enter Tryd.func11, Tryd.ntmps11
  go_wp2_with ((with_reducible refine at_op (.call { callee := .builtin .append, args := #[.tmp 10, .tmp 11], argTypes := #[34, 34] }) rfl ?_); go_must (refine append_bytes (.tmp 10) (.tmp 11) 34 rfl rfl 5 Tryd.underlying34 byte_info w.heap.size (.slice (some ⟨w.heap.size + 1, 0, none⟩) 0 0) 0 [] h rfl (own_empty _ _ _ (by simp) (by simp)) (some ⟨w.heap.size, 0, none⟩) 32 32 rfl HL.out SI.out (by omega) (by simp; omega) ?_); intro v1 w1 a1 a2 a3)
  have b1 : Below w.heap.size w w1 := B0.out.grown a2.out B0.out.size (fun k e => by have := Option.some.inj e; simp at this; omega)
  have o1 := a1.out
  rw [List.nil_append, Nat.zero_add] at o1
  obtain ⟨A, c, rfl, hc⟩ := own_form o1
  have B1 := Lib.hid b1; have O1 := Lib.hid o1; have S1 := Lib.hid (Sr.of_own o1)
  clear b1 o1 a1 a2 a3 B0 SI hc
  go_loopw [6, 7] (fun s i wr => ∃ k : Nat, k ≤ 128 ∧ i = .int .i64 k ∧ s = .int .i64 ((sumN 2 h k : Nat) : Int) ∧ wr = w1) (fun _ i _ => 128 - (intOf i).toNat)
  case atStart => exact ⟨0, by omega, rfl, rfl, by first | rfl | trivial⟩
  case round =>
    obtain ⟨k, hk, rfl, rfl, rfl⟩ := hrel
    have hsu := sumN_le 2 h k
    by_cases hlt : k < 128
    · have i1 : (k : Int) < 128 := by omega
      have hc := coefN_lt 2 h k
      have HSU := Lib.hid (show sumN 2 h (k + 1) = sumN 2 h k + (2 ^ 2 - 1 - coefN 2 h k) from rfl)
      have CO := Lib.hid (refcoef_1 h A 32 k c wr HL.out S1.out HB.out (by simp; omega) (by decide))
      obtain ⟨d, hd⟩ : ∃ d, coefN 2 h k = d := ⟨_, rfl⟩
      obtain ⟨s, hs⟩ : ∃ s, sumN 2 h k = s := ⟨_, rfl⟩
      rw [hd] at hc HSU CO
      rw [hs] at hsu HSU ⊢
      have d1 : (d : Int) < 4 := by simp at hc; omega
      have s1 : (s : Int) ≤ 8160 := by simp at hsu; omega
      clear hd hs hc hsu
      go_wp2_with fail
      refine CO.out.mono ?_
      rintro e w2 ⟨rfl, rfl⟩
      go_wp2_with fail
      go_roundw
      case rel =>
        refine ⟨k + 1, by omega, by go_num, ?_, by first | rfl | trivial⟩
        rw [HSU.out]; exact congrArg (Value.int .i64) (by omega)
      case measure => simp [intOf]; omega
    · obtain rfl : k = 128 := by omega
      rw [show ((128 : Nat) : Int) = 128 from rfl]
      have SH := Lib.hid (refshift_t 1 (by decide) wr)
      obtain ⟨s, hs⟩ : ∃ s, sumN 2 h 128 = s := ⟨_, rfl⟩
      rw [hs] at hsu ⊢
      have s1 : (s : Int) ≤ 8160 := by simp at hsu; omega
      have HSS := Lib.hid hs; have HSL := Lib.hid hsu
      have HCC := Lib.hid (show cksN 2 6 h = s * 2 ^ 6 by unfold cksN; rw [show 256 / 2 = 128 from rfl, hs])
      clear hs hsu hlt hk
      go_wp2_with fail
      refine SH.out.mono ?_
      rintro e w2 ⟨rfl, rfl⟩
      rw [show (kd 1).ls = 6 from rfl]
      go_upto_region 8 with (fail)
      obtain ⟨C, hC⟩ : ∃ C, s * 2 ^ 6 = C := ⟨_, rfl⟩
      rw [show (s : Int) * 64 = (C : Int) from by simp at hC; omega]
      have hC2 : C < 65536 := by rw [← hC]; have := HSL.out; simp at this ⊢; omega
      rw [hC] at HCC
      obtain ⟨x, hx⟩ : ∃ x, C / 256 = x := ⟨_, rfl⟩
      obtain ⟨y, hy⟩ : ∃ y, C % 256 = y := ⟨_, rfl⟩
      have q1 : (C : Int) / 256 = (x : Int) := by omega
      have q2 : (C : Int) % 256 = (y : Int) := by omega
      have x1 : (x : Int) < 256 := by omega
      have y1 : (y : Int) < 256 := by omega
      have HXT := Lib.hid (show h ++ [x, y] = extN 2 6 h by unfold extN; rw [HCC.out, hx, hy, Nat.mod_eq_of_lt (show x < 256 by omega)])
      have BA := Lib.hid ((Below.refl wr.heap.size wr).alloc (Nat.le_refl _) (.cells (u8s [x, y]).toArray 5))
      clear hC hC2 hx hy
      go_wp2_with ((with_reducible refine at_op (.call { callee := .builtin .append, args := #[.tmp 34, .tmp 40], argTypes := #[34, 34] }) rfl ?_); go_must (refine append_bytes (.tmp 34) (.tmp 40) 34 rfl rfl 5 Tryd.underlying34 byte_info w.heap.size (.slice A 32 c) 32 h [x, y] rfl (own_below O1.out BA.out) (some ⟨wr.heap.size, 0, none⟩) 2 2 rfl rfl (Sr.made [x, y] wr _ _) (by omega) (by have := B1.out.size; simp; omega) ?_); intro v3 w3 e1 e2 e3)
      have b3 : Below w.heap.size w w3 := (B1.out.alloc B1.out.size _).grown e2.out (by have := B1.out.size; simp; omega) (fun k e => (O1.out.lt k e).1)
      have o3 := e1.out
      rw [HXT.out, show 32 + 2 = 34 from rfl] at o3
      obtain ⟨A3, c3, rfl, hc3⟩ := own_form o3
      have HE := Lib.hid (show (extN 2 6 h).length = 34 from extN_length _ _ _ HL.out)
      have HEB := Lib.hid (extN_bytes 2 6 h HB.out)
      have B3 := Lib.hid b3; have O3 := Lib.hid o3
      clear b3 o3 e1 e2 e3 hc3 q1 q2 x1 y1
      go_loopw [8, 9] (fun o i wx => ∃ k : Nat, k ≤ 133 ∧ i = .int .i64 k ∧ wx.ownsRow w.heap.size 3 1 o k (ints (digK 1 h k)) ∧ wx.ownsRow w.heap.size 5 1 (.slice A3 34 c3) 34 (u8s (extN 2 6 h)) ∧ Below w.heap.size w wx) (fun _ i _ => 133 - (intOf i).toNat)
      case atStart => exact ⟨0, by omega, rfl, int_nil_own _ _, O3.out, B3.out⟩
      case round =>
        clear B3 O3
        obtain ⟨k, hk, rfl, oo, ob, bw⟩ := hrel
        have OO := Lib.hid oo; have OB := Lib.hid ob; have BW := Lib.hid bw
        have CH := Lib.hid (refchains_t 1 (by decide) wr)
        clear oo ob bw
        by_cases hlt : k < 133
        · have i1 : (k : Int) < 133 := by omega
          have CO := Lib.hid (refcoef_1 (extN 2 6 h) A3 34 k c3 wr HE.out (Sr.of_own OB.out) HEB.out (by simp; omega) (by decide))
          have HD := Lib.hid (show coefN 2 (extN 2 6 h) k = digN (kd 1).w (kd 1).ls h k from rfl)
          obtain ⟨d, hd⟩ : ∃ d, coefN 2 (extN 2 6 h) k = d := ⟨_, rfl⟩
          rw [hd] at CO HD
          clear hd
          go_wp2_with fail
          refine CH.out.mono ?_
          rintro e w4 ⟨rfl, rfl⟩
          rw [show (kd 1).p = 133 from rfl]
          go_wp2_with fail
          refine CO.out.mono ?_
          rintro e w5 ⟨rfl, rfl⟩
          have BB := Lib.hid ((Below.refl wr.heap.size wr).alloc (Nat.le_refl _) (.cells #[.int .i64 (d : Int)] 3))
          go_wp2_with ((with_reducible refine at_op (.call { callee := .builtin .append, args := #[.tmp 48, .tmp 53], argTypes := #[24, 24] }) rfl ?_); go_must (refine append_cells (.tmp 48) (.tmp 53) 24 rfl rfl 3 (.int .i64 0) 8 Tryd.underlying24 int_info rfl w.heap.size _ k _ (ints [d]) rfl (own_below OO.out BB.out) ⟨wr.heap.size, 0, none⟩ 1 1 rfl rfl (fun j u hu => by rw [Addr.add_mid, Nat.zero_add]; exact ((Blk.new wr 3 (ints [d])).cell j).trans hu) (ints_each _) (by unfold maxLen; omega) (by omega) (by have := BW.out.size; simp; omega) ?_); intro v6 w6 a1 a2 a3)
          go_roundw
          case rel =>
            refine ⟨k + 1, by omega, by go_num, ?_, ?_, ?_⟩
            · have h := a1.out
              rw [← ints_app] at h
              rw [digK_succ, ← HD.out]
              exact h
            · have h := own_below OB.out BB.out
              exact own_kept (F := fun q => _ = some q) h ((Kept.refl (fun q => _ = some q) _).grown a2.out (fun q e => .inl e)) (fun q e he => own_types h (own_below OO.out BB.out) (by decide) q e he)
            · exact (BW.out.alloc BW.out.size _).grown a2.out (by have := BW.out.size; simp; omega) (fun i e => (OO.out.lt i e).1)
          case measure => simp [intOf]; omega
        · obtain rfl : k = 133 := by omega
          go_wp2_with fail
          refine CH.out.mono ?_
          rintro e w4 ⟨rfl, rfl⟩
          rw [show (kd 1).p = 133 from rfl]
          go_wp2_with fail
          go_ret
          refine ⟨_, rfl, ?_, BW.out⟩
          rw [digs_length]
          exact OO.out
set_option maxRecDepth 100000 in
set_option maxHeartbeats 1000000 in
theorem refdigits_2 (h : List Nat) (w : World) (hl : h.length = 32) (hb : Bytes h) :
    Calls Tryd.prog 11 #[.int .i64 4, .agg (u8s h).toArray] w fun e w' => ∃ v, e = .returned v ∧ FreshI w w' v (digs 2 h) := by
  have HL := Lib.hid hl; have HB := Lib.hid hb
  have B0 := Lib.hid (((Below.refl w.heap.size w).alloc (Nat.le_refl _) (.cells (u8s h).toArray 23)).alloc (by simp) (.cells #[] 5))
  have SI := Lib.hid (Sr.of_blk (xs := h) (rest := []) ((Blk.new w 23 (u8s h)).alloc (.cells #[] 5)) (by simp))
  clear hl hb
  go_enter Tryd.func11, Tryd.ntmps11
  go_wp2_with ((with_reducible refine at_op (.call { callee := .builtin .append, args := #[.tmp 10, .tmp 11], argTypes := #[34, 34] }) rfl ?_); go_must (refine append_bytes (.tmp 10) (.tmp 11) 34 rfl rfl 5 Tryd.underlying34 byte_info w.heap.size (.slice (some ⟨w.heap.size + 1, 0, none⟩) 0 0) 0 [] h rfl (own_empty _ _ _ (by simp) (by simp)) (some ⟨w.heap.size, 0, none⟩) 32 32 rfl HL.out SI.out (by omega) (by simp; omega) ?_); intro v1 w1 a1 a2 a3)
  have b1 : Below w.heap.size w w1 := B0.out.grown a2.out B0.out.size (fun k e => by have := Option.some.inj e; simp at this; omega)
  have o1 := a1.out
  rw [List.nil_append, Nat.zero_add] at o1
  obtain ⟨A, c, rfl, hc⟩ := own_form o1
  have B1 := Lib.hid b1; have O1 := Lib.hid o1; have S1 := Lib.hid (Sr.of_own o1)
  clear b1 o1 a1 a2 a3 B0 SI hc
  go_loopw [6, 7] (fun s i wr => ∃ k : Nat, k ≤ 64 ∧ i = .int .i64 k ∧ s = .int .i64 ((sumN 4 h k : Nat) : Int) ∧ wr = w1) (fun _ i _ => 64 - (intOf i).toNat)
  case atStart => exact ⟨0, by omega, rfl, rfl, by first | rfl | trivial⟩
  case round =>
    obtain ⟨k, hk, rfl, rfl, rfl⟩ := hrel
    have hsu := sumN_le 4 h k
    by_cases hlt : k < 64
    · have i1 : (k : Int) < 64 := by omega
      have hc := coefN_lt 4 h k
      have HSU := Lib.hid (show sumN 4 h (k + 1) = sumN 4 h k + (2 ^ 4 - 1 - coefN 4 h k) from rfl)
      have CO := Lib.hid (refcoef_2 h A 32 k c wr HL.out S1.out HB.out (by simp; omega) (by decide))
      obtain ⟨d, hd⟩ : ∃ d, coefN 4 h k = d := ⟨_, rfl⟩
      obtain ⟨s, hs⟩ : ∃ s, sumN 4 h k = s := ⟨_, rfl⟩
      rw [hd] at hc HSU CO
      rw [hs] at hsu HSU ⊢
      have d1 : (d : Int) < 16 := by simp at hc; omega
      have s1 : (s : Int) ≤ 8160 := by simp at hsu; omega
      clear hd hs hc hsu
      go_wp2_with fail
      refine CO.out.mono ?_
      rintro e w2 ⟨rfl, rfl⟩
      go_wp2_with fail
      go_roundw
      case rel =>
        refine ⟨k + 1, by omega, by go_num, ?_, by first | rfl | trivial⟩
        rw [HSU.out]; exact congrArg (Value.int .i64) (by omega)
      case measure => simp [intOf]; omega
    · obtain rfl : k = 64 := by omega
      rw [show ((64 : Nat) : Int) = 64 from rfl]
      have SH := Lib.hid (refshift_t 2 (by decide) wr)
      obtain ⟨s, hs⟩ : ∃ s, sumN 4 h 64 = s := ⟨_, rfl⟩
      rw [hs] at hsu ⊢
      have s1 : (s : Int) ≤ 8160 := by simp at hsu; omega
      have HSS := Lib.hid hs; have HSL := Lib.hid hsu
      have HCC := Lib.hid (show cksN 4 4 h = s * 2 ^ 4 by unfold cksN; rw [show 256 / 4 = 64 from rfl, hs])
      clear hs hsu hlt hk
      go_wp2_with fail
      refine SH.out.mono ?_
      rintro e w2 ⟨rfl, rfl⟩
      rw [show (kd 2).ls = 4 from rfl]
      go_upto_region 8 with (fail)
      obtain ⟨C, hC⟩ : ∃ C, s * 2 ^ 4 = C := ⟨_, rfl⟩
      rw [show (s : Int) * 16 = (C : Int) from by simp at hC; omega]
      have hC2 : C < 65536 := by rw [← hC]; have := HSL.out; simp at this ⊢; omega
      rw [hC] at HCC
      obtain ⟨x, hx⟩ : ∃ x, C / 256 = x := ⟨_, rfl⟩
      obtain ⟨y, hy⟩ : ∃ y, C % 256 = y := ⟨_, rfl⟩
      have q1 : (C : Int) / 256 = (x : Int) := by omega
      have q2 : (C : Int) % 256 = (y : Int) := by omega
      have x1 : (x : Int) < 256 := by omega
      have y1 : (y : Int) < 256 := by omega
      have HXT := Lib.hid (show h ++ [x, y] = extN 4 4 h by unfold extN; rw [HCC.out, hx, hy, Nat.mod_eq_of_lt (show x < 256 by omega)])
      have BA := Lib.hid ((Below.refl wr.heap.size wr).alloc (Nat.le_refl _) (.cells (u8s [x, y]).toArray 5))
      clear hC hC2 hx hy
      go_wp2_with ((with_reducible refine at_op (.call { callee := .builtin .append, args := #[.tmp 34, .tmp 40], argTypes := #[34, 34] }) rfl ?_); go_must (refine append_bytes (.tmp 34) (.tmp 40) 34 rfl rfl 5 Tryd.underlying34 byte_info w.heap.size (.slice A 32 c) 32 h [x, y] rfl (own_below O1.out BA.out) (some ⟨wr.heap.size, 0, none⟩) 2 2 rfl rfl (Sr.made [x, y] wr _ _) (by omega) (by have := B1.out.size; simp; omega) ?_); intro v3 w3 e1 e2 e3)
      have b3 : Below w.heap.size w w3 := (B1.out.alloc B1.out.size _).grown e2.out (by have := B1.out.size; simp; omega) (fun k e => (O1.out.lt k e).1)
      have o3 := e1.out
      rw [HXT.out, show 32 + 2 = 34 from rfl] at o3
      obtain ⟨A3, c3, rfl, hc3⟩ := own_form o3
      have HE := Lib.hid (show (extN 4 4 h).length = 34 from extN_length _ _ _ HL.out)
      have HEB := Lib.hid (extN_bytes 4 4 h HB.out)
      have B3 := Lib.hid b3; have O3 := Lib.hid o3
      clear b3 o3 e1 e2 e3 hc3 q1 q2 x1 y1
      go_loopw [8, 9] (fun o i wx => ∃ k : Nat, k ≤ 67 ∧ i = .int .i64 k ∧ wx.ownsRow w.heap.size 3 1 o k (ints (digK 2 h k)) ∧ wx.ownsRow w.heap.size 5 1 (.slice A3 34 c3) 34 (u8s (extN 4 4 h)) ∧ Below w.heap.size w wx) (fun _ i _ => 67 - (intOf i).toNat)
      case atStart => exact ⟨0, by omega, rfl, int_nil_own _ _, O3.out, B3.out⟩
      case round =>
        clear B3 O3
        obtain ⟨k, hk, rfl, oo, ob, bw⟩ := hrel
        have OO := Lib.hid oo; have OB := Lib.hid ob; have BW := Lib.hid bw
        have CH := Lib.hid (refchains_t 2 (by decide) wr)
        clear oo ob bw
        by_cases hlt : k < 67
        · have i1 : (k : Int) < 67 := by omega
          have CO := Lib.hid (refcoef_2 (extN 4 4 h) A3 34 k c3 wr HE.out (Sr.of_own OB.out) HEB.out (by simp; omega) (by decide))
          have HD := Lib.hid (show coefN 4 (extN 4 4 h) k = digN (kd 2).w (kd 2).ls h k from rfl)
          obtain ⟨d, hd⟩ : ∃ d, coefN 4 (extN 4 4 h) k = d := ⟨_, rfl⟩
          rw [hd] at CO HD
          clear hd
          go_wp2_with fail
          refine CH.out.mono ?_
          rintro e w4 ⟨rfl, rfl⟩
          rw [show (kd 2).p = 67 from rfl]
          go_wp2_with fail
          refine CO.out.mono ?_
          rintro e w5 ⟨rfl, rfl⟩
          have BB := Lib.hid ((Below.refl wr.heap.size wr).alloc (Nat.le_refl _) (.cells #[.int .i64 (d : Int)] 3))
          go_wp2_with ((with_reducible refine at_op (.call { callee := .builtin .append, args := #[.tmp 48, .tmp 53], argTypes := #[24, 24] }) rfl ?_); go_must (refine append_cells (.tmp 48) (.tmp 53) 24 rfl rfl 3 (.int .i64 0) 8 Tryd.underlying24 int_info rfl w.heap.size _ k _ (ints [d]) rfl (own_below OO.out BB.out) ⟨wr.heap.size, 0, none⟩ 1 1 rfl rfl (fun j u hu => by rw [Addr.add_mid, Nat.zero_add]; exact ((Blk.new wr 3 (ints [d])).cell j).trans hu) (ints_each _) (by unfold maxLen; omega) (by omega) (by have := BW.out.size; simp; omega) ?_); intro v6 w6 a1 a2 a3)
          go_roundw
          case rel =>
            refine ⟨k + 1, by omega, by go_num, ?_, ?_, ?_⟩
            · have h := a1.out
              rw [← ints_app] at h
              rw [digK_succ, ← HD.out]
              exact h
            · have h := own_below OB.out BB.out
              exact own_kept (F := fun q => _ = some q) h ((Kept.refl (fun q => _ = some q) _).grown a2.out (fun q e => .inl e)) (fun q e he => own_types h (own_below OO.out BB.out) (by decide) q e he)
            · exact (BW.out.alloc BW.out.size _).grown a2.out (by have := BW.out.size; simp; omega) (fun i e => (OO.out.lt i e).1)
          case measure => simp [intOf]; omega
        · obtain rfl : k = 67 := by omega
          go_wp2_with fail
          refine CH.out.mono ?_
          rintro e w4 ⟨rfl, rfl⟩
          rw [show (kd 2).p = 67 from rfl]
          go_wp2_with fail
          go_ret
          refine ⟨_, rfl, ?_, BW.out⟩
          rw [digs_length]
          exact OO.out
set_option maxRecDepth 100000 in
set_option maxHeartbeats 1000000 in
theorem refdigits_3 (h : List Nat) (w : World) (hl : h.length = 32) (hb : Bytes h) :
    Calls Tryd.prog 11 #[.int .i64 8, .agg (u8s h).toArray] w fun e w' => ∃ v, e = .returned v ∧ FreshI w w' v (digs 3 h) := by
  have HL := Lib.hid hl; have HB := Lib.hid hb
  have B0 := Lib.hid (((Below.refl w.heap.size w).alloc (Nat.le_refl _) (.cells (u8s h).toArray 23)).alloc (by simp) (.cells #[] 5))
  have SI := Lib.hid (Sr.of_blk (xs := h) (rest := []) ((Blk.new w 23 (u8s h)).alloc (.cells #[] 5)) (by simp))
  clear hl hb
  go_enter Tryd.func11, Tryd.ntmps11
  go_wp2_with ((with_reducible refine at_op (.call { callee := .builtin .append, args := #[.tmp 10, .tmp 11], argTypes := #[34, 34] }) rfl ?_); go_must (refine append_bytes (.tmp 10) (.tmp 11) 34 rfl rfl 5 Tryd.underlying34 byte_info w.heap.size (.slice (some ⟨w.heap.size + 1, 0, none⟩) 0 0) 0 [] h rfl (own_empty _ _ _ (by simp) (by simp)) (some ⟨w.heap.size, 0, none⟩) 32 32 rfl HL.out SI.out (by omega) (by simp; omega) ?_); intro v1 w1 a1 a2 a3)
  have b1 : Below w.heap.size w w1 := B0.out.grown a2.out B0.out.size (fun k e => by have := Option.some.inj e; simp at this; omega)
  have o1 := a1.out
  rw [List.nil_append, Nat.zero_add] at o1
  obtain ⟨A, c, rfl, hc⟩ := own_form o1
  have B1 := Lib.hid b1; have O1 := Lib.hid o1; have S1 := Lib.hid (Sr.of_own o1)
  clear b1 o1 a1 a2 a3 B0 SI hc
  go_loopw [6, 7] (fun s i wr => ∃ k : Nat, k ≤ 32 ∧ i = .int .i64 k ∧ s = .int .i64 ((sumN 8 h k : Nat) : Int) ∧ wr = w1) (fun _ i _ => 32 - (intOf i).toNat)
  case atStart => exact ⟨0, by omega, rfl, rfl, by first | rfl | trivial⟩
  case round =>
    obtain ⟨k, hk, rfl, rfl, rfl⟩ := hrel
    have hsu := sumN_le 8 h k
    by_cases hlt : k < 32
    · have i1 : (k : Int) < 32 := by omega
      have hc := coefN_lt 8 h k
      have HSU := Lib.hid (show sumN 8 h (k + 1) = sumN 8 h k + (2 ^ 8 - 1 - coefN 8 h k) from rfl)
      have CO := Lib.hid (refcoef_3 h A 32 k c wr HL.out S1.out HB.out (by simp; omega) (by decide))
      obtain ⟨d, hd⟩ : ∃ d, coefN 8 h k = d := ⟨_, rfl⟩
      obtain ⟨s, hs⟩ : ∃ s, sumN 8 h k = s := ⟨_, rfl⟩
      rw [hd] at hc HSU CO
      rw [hs] at hsu HSU ⊢
      have d1 : (d : Int) < 256 := by simp at hc; omega
      have s1 : (s : Int) ≤ 8160 := by simp at hsu; omega
      clear hd hs hc hsu
      go_wp2_with fail
      refine CO.out.mono ?_
      rintro e w2 ⟨rfl, rfl⟩
      go_wp2_with fail
      go_roundw
      case rel =>
        refine ⟨k + 1, by omega, by go_num, ?_, by first | rfl | trivial⟩
        rw [HSU.out]; exact congrArg (Value.int .i64) (by omega)
      case measure => simp [intOf]; omega
    · obtain rfl : k = 32 := by omega
      rw [show ((32 : Nat) : Int) = 32 from rfl]
      have SH := Lib.hid (refshift_t 3 (by decide) wr)
      obtain ⟨s, hs⟩ : ∃ s, sumN 8 h 32 = s := ⟨_, rfl⟩
      rw [hs] at hsu ⊢
      have s1 : (s : Int) ≤ 8160 := by simp at hsu; omega
      have HSS := Lib.hid hs; have HSL := Lib.hid hsu
      have HCC := Lib.hid (show cksN 8 0 h = s * 2 ^ 0 by unfold cksN; rw [show 256 / 8 = 32 from rfl, hs])
      clear hs hsu hlt hk
      go_wp2_with fail
      refine SH.out.mono ?_
      rintro e w2 ⟨rfl, rfl⟩
      rw [show (kd 3).ls = 0 from rfl]
      go_upto_region 8 with (fail)
      obtain ⟨C, hC⟩ : ∃ C, s * 2 ^ 0 = C := ⟨_, rfl⟩
      rw [show (s : Int) = (C : Int) from by simp at hC; omega]
      have hC2 : C < 65536 := by rw [← hC]; have := HSL.out; simp at this ⊢; omega
      rw [hC] at HCC
      obtain ⟨x, hx⟩ : ∃ x, C / 256 = x := ⟨_, rfl⟩
      obtain ⟨y, hy⟩ : ∃ y, C % 256 = y := ⟨_, rfl⟩
      have q1 : (C : Int) / 256 = (x : Int) := by omega
      have q2 : (C : Int) % 256 = (y : Int) := by omega
      have x1 : (x : Int) < 256 := by omega
      have y1 : (y : Int) < 256 := by omega
      have HXT := Lib.hid (show h ++ [x, y] = extN 8 0 h by unfold extN; rw [HCC.out, hx, hy, Nat.mod_eq_of_lt (show x < 256 by omega)])
      have BA := Lib.hid ((Below.refl wr.heap.size wr).alloc (Nat.le_refl _) (.cells (u8s [x, y]).toArray 5))
      clear hC hC2 hx hy
      go_wp2_with ((with_reducible refine at_op (.call { callee := .builtin .append, args := #[.tmp 34, .tmp 40], argTypes := #[34, 34] }) rfl ?_); go_must (refine append_bytes (.tmp 34) (.tmp 40) 34 rfl rfl 5 Tryd.underlying34 byte_info w.heap.size (.slice A 32 c) 32 h [x, y] rfl (own_below O1.out BA.out) (some ⟨wr.heap.size, 0, none⟩) 2 2 rfl rfl (Sr.made [x, y] wr _ _) (by omega) (by have := B1.out.size; simp; omega) ?_); intro v3 w3 e1 e2 e3)
      have b3 : Below w.heap.size w w3 := (B1.out.alloc B1.out.size _).grown e2.out (by have := B1.out.size; simp; omega) (fun k e => (O1.out.lt k e).1)
      have o3 := e1.out
      rw [HXT.out, show 32 + 2 = 34 from rfl] at o3
      obtain ⟨A3, c3, rfl, hc3⟩ := own_form o3
      have HE := Lib.hid (show (extN 8 0 h).length = 34 from extN_length _ _ _ HL.out)
      have HEB := Lib.hid (extN_bytes 8 0 h HB.out)
      have B3 := Lib.hid b3; have O3 := Lib.hid o3
      clear b3 o3 e1 e2 e3 hc3 q1 q2 x1 y1
      go_loopw [8, 9] (fun o i wx => ∃ k : Nat, k ≤ 34 ∧ i = .int .i64 k ∧ wx.ownsRow w.heap.size 3 1 o k (ints (digK 3 h k)) ∧ wx.ownsRow w.heap.size 5 1 (.slice A3 34 c3) 34 (u8s (extN 8 0 h)) ∧ Below w.heap.size w wx) (fun _ i _ => 34 - (intOf i).toNat)
      case atStart => exact ⟨0, by omega, rfl, int_nil_own _ _, O3.out, B3.out⟩
      case round =>
        clear B3 O3
        obtain ⟨k, hk, rfl, oo, ob, bw⟩ := hrel
        have OO := Lib.hid oo; have OB := Lib.hid ob; have BW := Lib.hid bw
        have CH := Lib.hid (refchains_t 3 (by decide) wr)
        clear oo ob bw
        by_cases hlt : k < 34
        · have i1 : (k : Int) < 34 := by omega
          have CO := Lib.hid (refcoef_3 (extN 8 0 h) A3 34 k c3 wr HE.out (Sr.of_own OB.out) HEB.out (by simp; omega) (by decide))
          have HD := Lib.hid (show coefN 8 (extN 8 0 h) k = digN (kd 3).w (kd 3).ls h k from rfl)
          obtain ⟨d, hd⟩ : ∃ d, coefN 8 (extN 8 0 h) k = d := ⟨_, rfl⟩
          rw [hd] at CO HD
          clear hd
          go_wp2_with fail
          refine CH.out.mono ?_
          rintro e w4 ⟨rfl, rfl⟩
          rw [show (kd 3).p = 34 from rfl]
          go_wp2_with fail
          refine CO.out.mono ?_
          rintro e w5 ⟨rfl, rfl⟩
          have BB := Lib.hid ((Below.refl wr.heap.size wr).alloc (Nat.le_refl _) (.cells #[.int .i64 (d : Int)] 3))
          go_wp2_with ((with_reducible refine at_op (.call { callee := .builtin .append, args := #[.tmp 48, .tmp 53], argTypes := #[24, 24] }) rfl ?_); go_must (refine append_cells (.tmp 48) (.tmp 53) 24 rfl rfl 3 (.int .i64 0) 8 Tryd.underlying24 int_info rfl w.heap.size _ k _ (ints [d]) rfl (own_below OO.out BB.out) ⟨wr.heap.size, 0, none⟩ 1 1 rfl rfl (fun j u hu => by rw [Addr.add_mid, Nat.zero_add]; exact ((Blk.new wr 3 (ints [d])).cell j).trans hu) (ints_each _) (by unfold maxLen; omega) (by omega) (by have := BW.out.size; simp; omega) ?_); intro v6 w6 a1 a2 a3)
          go_roundw
          case rel =>
            refine ⟨k + 1, by omega, by go_num, ?_, ?_, ?_⟩
            · have h := a1.out
              rw [← ints_app] at h
              rw [digK_succ, ← HD.out]
              exact h
            · have h := own_below OB.out BB.out
              exact own_kept (F := fun q => _ = some q) h ((Kept.refl (fun q => _ = some q) _).grown a2.out (fun q e => .inl e)) (fun q e he => own_types h (own_below OO.out BB.out) (by decide) q e he)
            · exact (BW.out.alloc BW.out.size _).grown a2.out (by have := BW.out.size; simp; omega) (fun i e => (OO.out.lt i e).1)
          case measure => simp [intOf]; omega
        · obtain rfl : k = 34 := by omega
          go_wp2_with fail
          refine CH.out.mono ?_
          rintro e w4 ⟨rfl, rfl⟩
          rw [show (kd 3).p = 34 from rfl]
          go_wp2_with fail
          go_ret
          refine ⟨_, rfl, ?_, BW.out⟩
          rw [digs_length]
          exact OO.out
theorem refdigits_t (i : Nat) (hi : i < 4) (h : List Nat) (w : World) (hl : h.length = 32) (hb : Bytes h) :
    Calls Tryd.prog 11 #[.int .i64 ((kd i).w : Int), .agg (u8s h).toArray] w fun e w' => ∃ v, e = .returned v ∧ FreshI w w' v (digs i h) := by
  have : i = 0 ∨ i = 1 ∨ i = 2 ∨ i = 3 := by omega
  rcases this with rfl | rfl | rfl | rfl
  · exact refdigits_0 h w hl hb
  · exact refdigits_1 h w hl hb
  · exact refdigits_2 h w hl hb
  · exact refdigits_3 h w hl hb
end Go.Proofs.YtahghfjjpbjemaaDoor
