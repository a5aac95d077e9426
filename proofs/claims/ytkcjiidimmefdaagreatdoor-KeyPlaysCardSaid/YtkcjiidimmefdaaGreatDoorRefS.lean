/-
  The reference's Sum: the document's SHA-256 of any bytes.
-/
import Derived.Test.YtkcjiidimmefdaaGreatDoorRefB
import Derived.Test.YtkcjiidimmefdaaGreatDoorShaM
import Derived.Test.YtkcjiidimmefdaaGreatDoorBaseM
namespace Go.Proofs.YtkcjiidimmefdaaGreatDoor
open Go Go.RowKit Sh

theorem own_empty (w : World) (base g : Nat) (h : base ≤ w.heap.size) (hg : g = w.heap.size) : (w.alloc (.cells #[] 5)).ownsRow base 5 1 (.slice (some ⟨g, 0, none⟩) 0 0) 0 (u8s []) := by
  subst hg
  have := World.ownsRow_lit w (e := 5) (size := 1) (base := base) #[] 0 h (Nat.zero_le _) rfl
  simpa [u8s] using this
/-- The text, the 128 and k zeros behind it. -/
def padA (l : List Nat) (k : Nat) : List Nat := l ++ (128 :: List.replicate k 0)
theorem padA_length (l : List Nat) (k : Nat) : (padA l k).length = l.length + 1 + k := by simp [padA]; omega
theorem padA_succ (l : List Nat) (k : Nat) : padA l k ++ [0] = padA l (k + 1) := by simp [padA, List.replicate_succ']
theorem zeros_lt (n : Nat) : zeros n < 64 := Nat.mod_lt _ (by decide)
theorem zeros_test (n k : Nat) (h : k < zeros n) : (n + 1 + k) % 64 ≠ 56 := by unfold zeros at h; omega
theorem zeros_end (n : Nat) : (n + 1 + zeros n) % 64 = 56 := by unfold zeros; omega
theorem len8_take (n k : Nat) (hk : k < 8) : (len8 n).take (k + 1) = (len8 n).take k ++ [n / 2 ^ (56 - 8 * k) % 256] := by
  rw [List.take_succ_eq_append_getElem (by rw [len8_length]; exact hk)]
  simp [len8]
theorem pad_eq (l : List Nat) : padA l (zeros l.length) ++ len8 (8 * l.length) = pad l := by simp [padA, pad]
theorem pad_len (l : List Nat) : (pad l).length = 64 * nblk l.length := by
  rw [← pad_eq, List.length_append, padA_length, len8_length]
  unfold nblk zeros
  omega
theorem len8_bytes (n : Nat) : Bytes (len8 n) := fun i => by
  rcases Nat.lt_or_ge i 8 with h | h
  · rw [gt_of_lt (by rw [len8_length]; exact h)]; simp [len8]; omega
  · rw [gt_out (by rw [len8_length]; exact h)]; decide
theorem padA_bytes {l : List Nat} (h : Bytes l) (k : Nat) : Bytes (padA l k) := by
  refine app_bytes h (sl_bytes fun x hx => ?_)
  rcases List.mem_cons.1 hx with rfl | hx
  · decide
  · rw [List.eq_of_mem_replicate hx]; decide
theorem padded_bytes {l : List Nat} (h : Bytes l) : Bytes (pad l) := by rw [← pad_eq]; exact app_bytes (padA_bytes h _) (len8_bytes _)
theorem and3 : ∀ i : Nat, i < 32 → bits .and .i64 (i : Int) 3 = ((i % 4 : Nat) : Int) := by decide +kernel
theorem len_byte (n j : Nat) (h : j < 8) : ((8 * n / 2 ^ (56 - 8 * j) % 256 : Nat) : Int) = (n : Int) * 8 / 2 ^ (8 * (7 - j)) % 256 := by
  rw [show 8 * (7 - j) = 56 - 8 * j from by omega, Int.natCast_emod, Int.natCast_ediv, Int.natCast_pow, Int.natCast_mul, Int.mul_comm]; rfl
theorem out_length (s : S8) : (out s).length = 32 := by simp [out, S8.list, bytes4]
theorem out_at (s : S8) (hs : s.ok) (i : Nat) (hi : i < 32) : gt (out s) i = gt s.list (i / 4) / 2 ^ (24 - 8 * (i % 4)) % 256 := by
  obtain ⟨a, b, c, d, e, f, g, h⟩ := s
  obtain ⟨ha, hb, hc, hd, he, hf, hg, hh⟩ := hs
  simp only [] at ha hb hc hd he hf hg hh
  have : i = 0 ∨ i = 1 ∨ i = 2 ∨ i = 3 ∨ i = 4 ∨ i = 5 ∨ i = 6 ∨ i = 7 ∨ i = 8 ∨ i = 9 ∨ i = 10 ∨ i = 11 ∨ i = 12 ∨ i = 13 ∨ i = 14 ∨ i = 15 ∨ i = 16 ∨ i = 17 ∨ i = 18 ∨ i = 19 ∨ i = 20 ∨ i = 21 ∨ i = 22 ∨ i = 23 ∨ i = 24 ∨ i = 25 ∨ i = 26 ∨ i = 27 ∨ i = 28 ∨ i = 29 ∨ i = 30 ∨ i = 31 := by omega
  rcases this with rfl | rfl | rfl | rfl | rfl | rfl | rfl | rfl | rfl | rfl | rfl | rfl | rfl | rfl | rfl | rfl | rfl | rfl | rfl | rfl | rfl | rfl | rfl | rfl | rfl | rfl | rfl | rfl | rfl | rfl | rfl | rfl <;> simp [out, S8.list, bytes4, gt] <;> omega
theorem set_out (l : List Nat) (i v : Nat) (hl : l.length = 32) (hi : i < 32) (hv : gt l i = v) : (l.take i ++ List.replicate (32 - i) 0).set i v = l.take (i + 1) ++ List.replicate (32 - (i + 1)) 0 := by
  rw [List.take_succ_eq_append_getElem (by omega), List.set_append_right _ _ (by rw [List.length_take]; omega), List.length_take, Nat.min_eq_left (by omega), Nat.sub_self, show 32 - i = (32 - (i + 1)) + 1 from by omega]
  rw [gt_of_lt (by omega)] at hv
  simp [List.replicate_succ, hv]
set_option maxRecDepth 100000 in
set_option maxHeartbeats 1000000 in
theorem refsum_t (l : List Nat) (p : Option Addr) (n c : Nat) (w : World) (hn : l.length = n) (hp : Sr w p l) (hb : Bytes l) (hl : n ≤ 100000000) :
    Calls Tryz.prog 19 #[.slice p n c] w fun e w' => e = .returned (.agg (u8s (sum l)).toArray) ∧ Below w.heap.size w w' := by
  subst hn
  have i1 : (l.length : Int) ≤ 100000000 := by omega
  have HP := Lib.hid hp; have HB := Lib.hid hb
  clear hp hb
  go_enter Tryz.func19, Tryz.ntmps19
  go_wp2_with (first
    | ((with_reducible refine at_op (.call { callee := .builtin .append, args := #[.tmp 10, .tmp 11], argTypes := #[36, 36] }) rfl ?_); refine append_bytes (.tmp 10) (.tmp 11) 36 rfl rfl 5 Tryz.underlying36 byte_info w.heap.size (.slice (some ⟨w.heap.size + 1, 0, none⟩) 0 0) 0 [] l rfl (own_empty _ _ _ (by simp) (by simp)) p l.length c rfl rfl (HP.out.below (((Below.refl _ _).alloc (Nat.le_refl _) _).alloc (by simp) _)) (by omega) (by simp; omega) ?_; intro v1 w1 a1 a2 a3)
    | ((with_reducible refine at_op (.call { callee := .builtin .append, args := #[.tmp 12, .tmp 13], argTypes := #[36, 36] }) rfl ?_); refine append_bytes (.tmp 12) (.tmp 13) 36 rfl rfl 5 Tryz.underlying36 byte_info w.heap.size v1 _ _ [128] rfl (own_below a1.out ((Below.refl _ _).alloc (Nat.le_refl _) _)) (some ⟨w1.heap.size, 0, none⟩) 1 1 rfl rfl (Sr.one 128 128 rfl w1 _ _) (by omega) (by have := a2.out.size; simp at this ⊢; omega) ?_; intro v2 w2 b1 b2 b3))
  obtain ⟨A0, c0, rfl, _⟩ := own_form b1.out
  rw [show 0 + l.length + 1 = l.length + 1 from by omega]
  have sz1 : w.heap.size + 2 ≤ w1.heap.size := by have := a2.out.size; simpa using this
  have r0 : Blk w2 w.heap.size 25 (u8s (List.replicate 32 0)) := by
    have h1 := ((Blk.new w 25 (u8s (List.replicate 32 0))).alloc (.cells #[] 5))
    have h2 : Blk w1 w.heap.size 25 (u8s (List.replicate 32 0)) := (a2.out.block _ h1.lt (fun e => by have := Option.some.inj e; simp at this)).trans h1
    have h3 := h2.alloc (.cells #[.int .u8 128] 5)
    exact (b2.out.block _ h3.lt (fun e => own_apart (own_below a1.out ((Below.refl _ _).alloc (Nat.le_refl _) (.cells #[.int .u8 128] 5))) h3 (by decide) e.symm)).trans h3
  have bw1 : Below w.heap.size w w1 := (((Below.refl _ _).alloc (Nat.le_refl _) _).alloc (by simp) _).grown a2.out (by simp; omega) (fun k e => by have := Option.some.inj e; simp at this; omega)
  have bw : Below w.heap.size w w2 := (bw1.alloc bw1.size _).grown b2.out (by simp; omega) (fun k e => (a1.out.lt k e).1)
  have o0 : w2.ownsRow w.heap.size 5 1 (.slice A0 (l.length + 1) c0) (l.length + 1) (u8s (padA l 0)) := by
    have := b1.out
    simpa [padA] using this
  have R0 := Lib.hid r0; have BW := Lib.hid bw; have O0 := Lib.hid o0
  clear r0 bw bw1 o0 a1 a2 a3 b1 b2 b3
  go_loopw [3] (fun s wr => ∃ (k m : Nat) (A : Option Addr) (c : Nat), k ≤ zeros l.length ∧ m = l.length + 1 + k ∧ s = .slice A m c ∧ wr.ownsRow w.heap.size 5 1 s m (u8s (padA l k)) ∧ Blk wr w.heap.size 25 (u8s (List.replicate 32 0)) ∧ Below w.heap.size w wr) (fun s _ => l.length + 1 + zeros l.length - sLen s)
  case atStart => exact ⟨0, l.length + 1, A0, c0, Nat.zero_le _, rfl, by simp, by simpa using O0.out, R0.out, BW.out⟩
  case round =>
    clear R0 BW O0
    obtain ⟨k, m, A, c', hk, hm, rfl, ho, hr, hw⟩ := hrel
    have hz := zeros_lt l.length
    have im : (m : Int) ≤ 200000000 := by omega
    have HO := Lib.hid ho; have HR := Lib.hid hr; have HW := Lib.hid hw
    clear ho hr hw
    by_cases hlt : k < zeros l.length
    · have t1 : (((m : Int) % 64) != 56) = true := by rw [bne_iff_ne]; have := zeros_test l.length k hlt; omega
      have HM := Lib.hid hm
      clear hm
      go_wp2_with ((with_reducible refine at_op (.call { callee := .builtin .append, args := #[.tmp 19, .tmp 20], argTypes := #[36, 36] }) rfl ?_); refine append_bytes (.tmp 19) (.tmp 20) 36 rfl rfl 5 Tryz.underlying36 byte_info w.heap.size (.slice A m c') m (padA l k) [0] rfl (own_below HO.out ((Below.refl _ _).alloc (Nat.le_refl _) _)) (some ⟨wr.heap.size, 0, none⟩) 1 1 rfl rfl (Sr.one 0 0 rfl wr _ _) (by omega) (by have := HW.out.size; simp; omega) ?_; intro v5 w5 e1 e2 e3)
      obtain ⟨A5, c5, rfl, _⟩ := own_form e1.out
      have r5 : Blk w5 w.heap.size 25 (u8s (List.replicate 32 0)) := by
        have h3 := HR.out.alloc (.cells #[.int .u8 0] 5)
        exact (e2.out.block _ h3.lt (fun e => own_apart (own_below HO.out ((Below.refl _ _).alloc (Nat.le_refl _) (.cells #[.int .u8 0] 5))) h3 (by decide) e.symm)).trans h3
      have bw5 : Below w.heap.size w w5 := (HW.out.alloc HW.out.size _).grown e2.out (by have := HW.out.size; simp; omega) (fun k e => (HO.out.lt k e).1)
      have R5 := Lib.hid r5; have B5 := Lib.hid bw5
      clear r5 bw5
      go_roundw
      case rel =>
        refine ⟨k + 1, m + 1, A5, c5, by omega, by have := HM.out; omega, rfl, ?_, R5.out, B5.out⟩
        rw [← padA_succ]
        exact e1.out
      case measure => simp [sLen]; have := HM.out; omega
    · obtain rfl : k = zeros l.length := by omega
      have t1 : (((m : Int) % 64) != 56) = false := by rw [bne_eq_false_iff_eq]; have := zeros_end l.length; omega
      have HM := Lib.hid hm
      clear hm hlt hk
      go_wp2_with fail
      obtain ⟨wo, rfl⟩ : ∃ x : World, x = wr := ⟨_, rfl⟩
      go_loopw [3, 5] (fun s i wr => ∃ (j m : Nat) (A : Option Addr) (c : Nat), j ≤ 8 ∧ m = l.length + 1 + zeros l.length + j ∧ s = .slice A m c ∧ i = .int .i64 (7 - (j : Int)) ∧ wr.ownsRow w.heap.size 5 1 s m (u8s (padA l (zeros l.length) ++ (len8 (8 * l.length)).take j)) ∧ Blk wr w.heap.size 25 (u8s (List.replicate 32 0)) ∧ Below w.heap.size w wr) (fun _ i _ => (intOf i + 1).toNat)
      case atStart => exact ⟨0, m, A, c', by omega, by rw [HM.out]; rfl, rfl, rfl, by simpa using HO.out, HR.out, HW.out⟩
      case round =>
        clear HO HR HW
        obtain ⟨j, m2, A2, c2, hj, hm2, rfl, rfl, ho, hr, hw⟩ := hrel
        have HO := Lib.hid ho; have HR := Lib.hid hr; have HW := Lib.hid hw; have HM2 := Lib.hid hm2
        have im2 : (m2 : Int) ≤ 200000000 := by omega
        clear ho hr hw hm2
        by_cases hlt : j < 8
        · have b0 : (0 : Int) ≤ 7 - (j : Int) := by omega
          have b1 : (7 : Int) - (j : Int) ≤ 7 := by omega
          go_wp2_with ((with_reducible refine at_op (.call { callee := .builtin .append, args := #[.tmp 30, .tmp 37], argTypes := #[36, 36] }) rfl ?_); refine append_bytes (.tmp 30) (.tmp 37) 36 rfl rfl 5 Tryz.underlying36 byte_info w.heap.size (.slice A2 m2 c2) m2 _ [8 * l.length / 2 ^ (56 - 8 * j) % 256] rfl (own_below HO.out ((Below.refl _ _).alloc (Nat.le_refl _) _)) (some ⟨wr.heap.size, 0, none⟩) 1 1 rfl rfl (Sr.one _ _ (len_byte l.length j hlt) wr _ _) (by omega) (by have := HW.out.size; simp; omega) ?_; intro v5 w5 e1 e2 e3)
          obtain ⟨A5, c5, rfl, _⟩ := own_form e1.out
          have r5 : Blk w5 w.heap.size 25 (u8s (List.replicate 32 0)) := by
            have h3 := HR.out.alloc (.cells #[.int .u8 ((l.length : Int) * 8 / 2 ^ (8 * (7 - j)) % 256)] 5)
            exact (e2.out.block _ h3.lt (fun e => own_apart (own_below HO.out ((Below.refl _ _).alloc (Nat.le_refl _) (.cells #[.int .u8 ((l.length : Int) * 8 / 2 ^ (8 * (7 - j)) % 256)] 5))) h3 (by decide) e.symm)).trans h3
          have bw5 : Below w.heap.size w w5 := (HW.out.alloc HW.out.size _).grown e2.out (by have := HW.out.size; simp; omega) (fun k e => (HO.out.lt k e).1)
          have R5 := Lib.hid r5; have B5 := Lib.hid bw5
          clear r5 bw5
          go_roundw
          case rel =>
            refine ⟨j + 1, m2 + 1, A5, c5, by omega, by have := HM2.out; omega, rfl, ?_, ?_, R5.out, B5.out⟩
            · refine congrArg (Value.int .i64) ?_
              omega
            · rw [len8_take _ _ hlt, ← List.append_assoc]
              exact e1.out
          case measure => simp [intOf]; omega
        · obtain rfl : j = 8 := by omega
          have hm8 : m2 = 64 * nblk l.length := by
            have h1 := pad_len l
            have h2 := HM2.out
            rw [← pad_eq, List.length_append, padA_length, len8_length] at h1
            omega
          have op : wr.ownsRow w.heap.size 5 1 (.slice A2 m2 c2) m2 (u8s (pad l)) := by
            have := HO.out
            rw [List.take_of_length_le (by rw [len8_length]; exact Nat.le_refl _), pad_eq] at this
            exact this
          have hpl : (pad l).length = m2 := by rw [pad_len, hm8]
          have hm0 : 0 < m2 := by have := HM2.out; omega
          obtain ⟨N, hN⟩ : ∃ N, nblk l.length = N := ⟨_, rfl⟩
          rw [hN] at hm8
          obtain ⟨g, cp, hv, hg1, hg2⟩ := op.form (by have := HM2.out; omega)
          injection hv with e1 e2 e3
          subst e1 e3
          have hpb := padded_bytes HB.out
          have hNN := Lib.hid hN
          have hsum : sum l = out (run (pad l) N) := by unfold sum; rw [hN]
          obtain ⟨P, hP⟩ : ∃ P, pad l = P := ⟨_, rfl⟩
          rw [hP] at op hpl hpb hsum
          have OP := Lib.hid op; have HPL := Lib.hid hpl; have HPB := Lib.hid hpb; have HM8 := Lib.hid hm8; have HSUM := Lib.hid hsum
          have g25 : g ≠ w.heap.size := fun e => own_apart op HR.out (by decide) (by rw [e]; rfl)
          clear op hpl hpb hm8 hsum hP hN HO HM2 HM hlt hj t1
          obtain ⟨w3, rfl⟩ : ∃ x : World, x = wr := ⟨_, rfl⟩
          go_wp2_with ((with_reducible refine store_blk 82 (.tmp 6) (.tmp 39) w3.heap.size 82 (u32s (List.replicate 8 0)) (u32s h0.list) rfl rfl ?_ ?_ ?_ ?_ ?_ ?_ ?_); exact Blk.new w3 _ _; exact rfl; kernel_rfl; exact u32s_one _; exact rfl; exact rfl)
          have hs3 : w.heap.size < w3.heap.size := HR.out.lt
          have h42 := (Blk.new w3 82 (u32s (List.replicate 8 0))).setRow (u32s h0.list)
          have o3 := own_below OP.out (below_setRow ((Below.refl w3.heap.size w3).alloc (Nat.le_refl _) (.cells (u32s (List.replicate 8 0)).toArray 82)) (Nat.le_refl _) (u32s h0.list).toArray)
          have r3 := (HR.out.alloc (.cells (u32s (List.replicate 8 0)).toArray 82)).setRow_far (g' := w3.heap.size) (by omega) (u32s h0.list).toArray
          have b3 := below_setRow (HW.out.alloc HW.out.size (.cells (u32s (List.replicate 8 0)).toArray 82)) HW.out.size (u32s h0.list).toArray
          have H42 := Lib.hid h42; have O3 := Lib.hid o3; have R3 := Lib.hid r3; have B3 := Lib.hid b3
          clear h42 o3 r3 b3 HR HW OP
          go_loopw [7] (fun i wx => ∃ j : Nat, j ≤ N ∧ i = .int .i64 ((64 * j : Nat) : Int) ∧ Blk wx w3.heap.size 82 (u32s (run P j).list) ∧ wx.ownsRow w.heap.size 5 1 (.slice (some ⟨g, 0, none⟩) m2 c2) m2 (u8s P) ∧ Blk wx w.heap.size 25 (u8s (List.replicate 32 0)) ∧ Below w.heap.size w wx) (fun i _ => m2 - (intOf i).toNat)
          case atStart => exact ⟨0, by omega, rfl, H42.out, O3.out, R3.out, B3.out⟩
          case round =>
            clear H42 O3 R3 B3
            obtain ⟨j, hj, rfl, hh, ho, hr, hw⟩ := hrel
            have hm8 := HM8.out
            have hby : BytesAt wr g 0 P := by
              obtain ⟨b, o, e, _, hb2⟩ := Sr.of_own ho (by rw [HPL.out]; omega)
              injection e with e
              injection e with e1 e2
              subst e1 e2
              exact hb2
            by_cases hlt : j < N
            · have i0 : ((64 * j : Nat) : Int) < (m2 : Int) := by omega
              have i2 : ((64 * j : Nat) : Int) ≤ 200000000 := by omega
              have z1 : (Tryz.prog.info? 82).map (·.size) = some (u32s (run P j).list).length := (show (Tryz.prog.info? 82).map (·.size) = some 8 by kernel_rfl)
              have z2 : (Tryz.prog.info? 82).map (·.size) = some (u32s (run P (j + 1)).list).length := (show (Tryz.prog.info? 82).map (·.size) = some 8 by kernel_rfl)
              have hok := run_ok P j
              have hll : (u32s (run P j).list).length = (u32s (run P (j + 1)).list).length := (len8s _).trans (len8s _).symm
              have hgl := (ho.lt g rfl).2
              have HH := Lib.hid hh; have HO := Lib.hid ho; have HR := Lib.hid hr; have HW := Lib.hid hw; have Z1 := Lib.hid z1; have Z2 := Lib.hid z2; have HOK := Lib.hid hok; have HBY := Lib.hid hby; have HLL := Lib.hid hll
              have hstep : cmp (run P j) (sched P (64 * j)) = run P (j + 1) := rfl
              have HST := Lib.hid hstep
              clear hh ho hr hw z1 z2 hok hby hll hstep
              obtain ⟨s0, hs0⟩ : ∃ x, run P j = x := ⟨_, rfl⟩
              obtain ⟨s1, hs1⟩ : ∃ x, run P (j + 1) = x := ⟨_, rfl⟩
              rw [hs0] at HH Z1 HOK HST HLL
              rw [hs1] at Z2 HST HLL
              have HS1 := Lib.hid hs1
              clear hs0 hs1 hm8
              go_wp2_with (first
                | ((with_reducible refine load_blk 82 (.tmp 6) w3.heap.size 82 (u32s s0.list) _ rfl rfl ?_ Tryz.underlying82 rfl ?_ ?_ ?_); exact HH.out; exact Z1.out; exact rfl)
                | (go_at_call 36; refine (block_t s0 HOK.out P m2 c2 (64 * j) g 0 wr HPL.out (by have := HM8.out; omega) (by omega) HBY.out HPB.out hgl).mono ?_; rintro e w5 ⟨rfl, b5⟩; rw [HST.out]; have H5 := Lib.hid (HH.out.below b5 HH.out.lt); have O5 := Lib.hid (own_below HO.out b5); have R5 := Lib.hid (HR.out.below b5 HR.out.lt); have B5 := Lib.hid (HW.out.trans (b5.mono HW.out.size)); clear b5)
                | ((with_reducible refine store_blk 82 (.tmp 6) (.tmp 49) w3.heap.size 82 (u32s s0.list) (u32s s1.list) rfl rfl ?_ ?_ ?_ ?_ ?_ ?_ ?_); exact H5.out; exact HLL.out; exact Z2.out; exact u32s_one _; exact rfl; exact rfl))
              go_roundw
              case rel =>
                refine ⟨j + 1, by omega, ?_, ?_, ?_, R5.out.setRow_far (by omega) _, below_setRow B5.out (by omega) _⟩
                · refine congrArg (Value.int .i64) ?_
                  omega
                · rw [HS1.out]
                  exact H5.out.setRow _
                · refine own_kept (F := fun q => q = w3.heap.size) O5.out ⟨rfl, rfl, rfl, by simp, fun k _ hk => setRow_other _ _ k _ hk⟩ fun q e hq => ?_
                  subst hq
                  exact own_apart O5.out H5.out (by decide) e
              case measure => simp [intOf]; have := HM8.out; omega
            · obtain rfl : j = N := by omega
              have i0 : ¬ ((64 * j : Nat) : Int) < (m2 : Int) := by omega
              have i2 : (m2 : Int) ≤ ((64 * j : Nat) : Int) := by omega
              have hok := run_ok P j
              obtain ⟨s0, hs0⟩ : ∃ x, run P j = x := ⟨_, rfl⟩
              have hsu := HSUM.out
              rw [hs0] at hh hok hsu
              have HH := Lib.hid hh; have HR := Lib.hid hr; have HW := Lib.hid hw; have HOK := Lib.hid hok; have HSU := Lib.hid hsu
              clear hh ho hr hw hok hsu hby hs0 hm8 hj hlt HSUM
              go_wp2_with fail
              obtain ⟨w6, rfl⟩ : ∃ x : World, x = wr := ⟨_, rfl⟩
              go_loopw [9] (fun i wx => ∃ k : Nat, k ≤ 32 ∧ i = .int .i64 k ∧ Blk wx w3.heap.size 82 (u32s s0.list) ∧ Blk wx w6.heap.size 25 (u8s ((out s0).take k ++ List.replicate (32 - k) 0)) ∧ Blk wx w.heap.size 25 (u8s (List.replicate 32 0)) ∧ Below w.heap.size w wx) (fun i _ => 32 - (intOf i).toNat)
              case atStart => exact ⟨0, by omega, rfl, HH.out.alloc _, Blk.new w6 _ _, HR.out.alloc _, HW.out.alloc HW.out.size _⟩
              case round =>
                have h63 : w3.heap.size < w6.heap.size := HH.out.lt
                have h60 : w.heap.size < w6.heap.size := HR.out.lt
                clear HH HR HW
                obtain ⟨k, hk, rfl, hh, ho, hr, hw⟩ := hrel
                have HH := Lib.hid hh; have HO := Lib.hid ho; have HR := Lib.hid hr; have HW := Lib.hid hw
                by_cases hlt : k < 32
                · have c1 := (hh.cell (k / 4)).trans (u32s_get _ _ (by show k / 4 < 8; omega))
                  obtain ⟨x, hx⟩ : ∃ x, wr.cell? ⟨w6.heap.size, k, none⟩ = some x := by
                    rw [ho.cell]; exact ⟨_, List.getElem?_eq_getElem (by rw [u8s_length, List.length_append, List.length_take, List.length_replicate, out_length]; omega)⟩
                  have f1 := ho.frozen k
                  have ha := and3 k hlt
                  have hv := out_at s0 HOK.out k hlt
                  have HV := Lib.hid hv
                  have i5 : (k : Int) < 32 := by omega
                  have i6 : 0 ≤ (24 : Int) - 8 * ((k % 4 : Nat) : Int) := by omega
                  have i7 : (24 : Int) - 8 * ((k % 4 : Nat) : Int) ≤ 24 := by omega
                  clear hh ho hr hw hv
                  go_wp2
                  go_roundw
                  case rel =>
                    refine ⟨k + 1, by omega, by go_num, HH.out.far (by simp; omega) _, ?_, HR.out.far (by simp; omega) _, HW.out.setCell (by simp; omega) _⟩
                    have b := HO.out.store k (.int .u8 ((gt s0.list (k / 4) / 2 ^ (24 - 8 * (k % 4)) % 256 : Nat) : Int))
                    rw [u8s_set, set_out _ _ _ (out_length s0) hlt HV.out] at b
                    rw [← shr_byte]
                    exact b
                  case measure => simp [intOf]; omega
                · obtain rfl : k = 32 := by omega
                  have ho2 : Blk wr w6.heap.size 25 (u8s (sum l)) := by
                    rw [HSU.out]
                    rw [List.take_of_length_le (by rw [out_length]; exact Nat.le_refl _)] at ho
                    simpa using ho
                  have HO2 := Lib.hid ho2
                  have z1 := zs25 l
                  have Z1 := Lib.hid z1
                  have hol : (u8s (List.replicate 32 0)).length = (u8s (sum l)).length := (sum_len l).symm
                  have HOL := Lib.hid hol
                  clear hh ho hr hw ho2 z1 hol HO HH
                  go_wp2_with (first
                    | ((with_reducible refine load_blk 25 (.tmp 8) w6.heap.size 25 (u8s (sum l)) _ rfl rfl ?_ Tryz.underlying25 rfl ?_ ?_ ?_); exact HO2.out; exact Z1.out; exact rfl)
                    | ((with_reducible refine store_blk 25 (.tmp 2) (.tmp 67) w.heap.size 25 (u8s (List.replicate 32 0)) (u8s (sum l)) rfl rfl ?_ ?_ ?_ ?_ ?_ ?_ ?_); exact HR.out; exact HOL.out; exact Z1.out; exact u8s_one _; exact rfl; exact rfl))
                  exact ret_blk (p := 2) (ty := 25) rfl rfl w.heap.size 25 _ _ rfl (HR.out.setRow _) Tryz.underlying25 rfl Z1.out ⟨rfl, below_setRow HW.out (Nat.le_refl _) _⟩
end Go.Proofs.YtkcjiidimmefdaaGreatDoor
