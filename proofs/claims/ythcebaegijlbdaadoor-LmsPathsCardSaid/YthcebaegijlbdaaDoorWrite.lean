import Derived.Test.YthcebaegijlbdaaDoorRep
import Derived.Deep.RegionWith
namespace Go.Proofs.YthcebaegijlbdaaDoor
open Go.RowKit Sh

/-- The slice with the address p reads as the bytes xs, which lie below block B and not in block g. -/
def Sl (w : World) (B g : Nat) (p : Option Addr) (xs : List Nat) : Prop := 0 < xs.length → ∃ b o, p = some ⟨b, o, none⟩ ∧ b < B ∧ b ≠ g ∧ BytesAt w b o xs
theorem Sl.but {w w' : World} {B g : Nat} {p : Option Addr} {xs : List Nat} (h : Sl w B g p xs) (hb : But B g w w') : Sl w' B g p xs := fun hx => by
  obtain ⟨b, o, e, h1, h2, h3⟩ := h hx
  exact ⟨b, o, e, h1, h2, h3.but hb h1 h2⟩
theorem Sl.across {w w1 w2 : World} {B g : Nat} {p : Option Addr} {xs : List Nat} (h : Sl w1 B g p xs) (h1 : But B g w w1) (h2 : But B g w w2) : Sl w2 B g p xs := fun hx => by
  obtain ⟨b, o, e, hb, hne, hc⟩ := h hx
  refine ⟨b, o, e, hb, hne, fun j hj => ?_⟩
  rw [h2.cell (p := ⟨b, o + j, none⟩) hb hne, ← h1.cell (p := ⟨b, o + j, none⟩) hb hne]
  exact hc j hj
theorem gt_drop (l : List Nat) (n j : Nat) : gt (l.drop n) j = gt l (n + j) := by simp [gt, List.getD_eq_getElem?_getD]
theorem Sl.drop {w : World} {B g : Nat} {p p2 : Option Addr} {xs : List Nat} {n : Nat} (h : Sl w B g p xs) (h2 : n < xs.length → ∀ g off, p = some ⟨g, off, none⟩ → p2 = some ⟨g, off + n, none⟩) : Sl w B g p2 (xs.drop n) := fun hx => by
  have hx' : n < xs.length := by rw [List.length_drop] at hx; omega
  obtain ⟨b, o, e, h1, h3, h4⟩ := h (by omega)
  refine ⟨b, o + n, h2 hx' _ _ e, h1, h3, fun j hj => ?_⟩
  rw [List.length_drop] at hj
  rw [gt_drop, Nat.add_assoc]
  exact h4 (n + j) (by omega)
def sLen : Value → Nat | .slice _ n _ => n | _ => 0
/-- A Digest that has taken l: its state may be anything as long as l is empty. -/
structure Dig (w : World) (g : Nat) (l : List Nat) (s : S8) (r : List Nat) : Prop where
  blk : Blk w g 128 (D s r l.length)
  ok : s.ok
  len : r.length = 64
  bytes : Bytes r
  rep : l ≠ [] → Rep s r l
theorem Dig.begun {w : World} {g : Nat} {l : List Nat} {s : S8} {r : List Nat} (h : Dig w g l s r) : Rep (if l.length = 0 then h0 else s) r l := by
  by_cases hl : l = []
  · subst hl; exact Rep.nil h.len h.bytes
  · rw [if_neg (fun e => hl (List.eq_nil_of_length_eq_zero e))]; exact h.rep hl
theorem D_setSize (s : S8) (r : List Nat) (n m : Nat) (hr : r.length = 64) : (D s r n).set 72 (.int .u64 (m : Int)) = D s r m := by
  unfold D
  rw [List.set_append_right _ _ (by simp [u32s, S8.list]), List.set_append_right _ _ (by simp [u32s, u8s, S8.list, hr])]
  simp [u32s, u8s, S8.list, hr]
theorem D_three (s : S8) (r : List Nat) (n k m : Nat) : D s r n = (u32s s.list ++ u8s (r.take k)) ++ (u8s ((r.drop k).take m) ++ (u8s (r.drop (k + m)) ++ [.int .u64 (n : Int)])) := by
  have e : u8s r = u8s (r.take k) ++ (u8s ((r.drop k).take m) ++ u8s (r.drop (k + m))) := by
    unfold u8s
    rw [← List.map_append, ← List.map_append, ← List.drop_drop, List.take_append_drop, List.take_append_drop]
  unfold D
  rw [e]
  simp only [List.append_assoc]
theorem D_put (s : S8) (r ys : List Nat) (n k : Nat) : (u32s s.list ++ u8s (r.take k)) ++ (u8s ys ++ (u8s (r.drop (k + ys.length)) ++ [.int .u64 (n : Int)])) = D s (put r k ys) n := by
  unfold D put u8s
  simp

/-- What Write leaves. -/
def Wrote (w w' : World) (g : Nat) (l : List Nat) : Prop := (∃ s r, Rep s r l ∧ Blk w' g 128 (D s r l.length)) ∧ But w.heap.size g w w'

set_option maxRecDepth 100000 in
set_option maxHeartbeats 1000000 in
theorem write_t (g : Nat) (s : S8) (r l xs : List Nat) (p : Option Addr) (c : Nat) (w : World) (hd : Dig w g l s r) (hxs : Bytes xs) (hp : Sl w w.heap.size g p xs) (hc : xs.length ≤ c) (hsz : l.length + xs.length < 2305843009213693952) (hk : KAt w) (hkg : 1 ≠ g) :
    Calls Tryd.prog 53 #[.pointer (some ⟨g, 0, none⟩), .slice p xs.length c] w fun e w' => e = .returned (.tuple #[]) ∧ Wrote w w' g (l ++ xs) := by
  have HD := Lib.hid hd; have HXS := Lib.hid hxs; have HP := Lib.hid hp; have HC := Lib.hid hc; have HSZ := Lib.hid hsz; have HK := Lib.hid hk; have HKG := Lib.hid hkg
  clear hd hxs hp hc hsz hk hkg
  go_enter Tryd.func53, Tryd.ntmps53
  go_wp2_with fail
  refine (begin_t g s r l.length w HD.out.len HD.out.blk).mono ?_
  rintro e W1 ⟨rfl, hg, hbut⟩
  have hrep := HD.out.begun
  generalize (if l.length = 0 then h0 else s) = s0 at *
  have cc := hg.cell 72
  rw [D_size _ r _ HD.out.len] at cc
  have ff := hg.frozen 72
  have hst := hg.store 72 (.int .u64 ((l.length + xs.length : Nat) : Int))
  rw [D_setSize _ _ _ _ HD.out.len] at hst
  have hst2 : Blk (W1.setCell ⟨g, 72, none⟩ (.int .u64 ((l.length : Int) + (xs.length : Int)))) g 128 (D s0 r (l.length + xs.length)) := hst
  have hbut2 := hbut.setCell 72 (.int .u64 ((l.length : Int) + (xs.length : Int)))
  have i1 : (l.length : Int) + (xs.length : Int) < 18446744073709551616 := by have := HSZ.out; omega
  have HST := Lib.hid hst2; have HB := Lib.hid hbut2; have HREP := Lib.hid hrep
  clear hg hbut hst hst2 hbut2 hrep
  go_wp2_with fail
  clear i1 cc ff
  go_loopw [1, 4] (fun b at_ wr => ∃ (m : Nat) (s r : _) (p : Option Addr) (c : Nat), m ≤ xs.length ∧ b = .slice p (xs.length - m) c ∧ xs.length - m ≤ c ∧ at_ = .int .i64 (((l.length + m) % 64 : Nat) : Int) ∧ Rep s r (l ++ xs.take m) ∧ Blk wr g 128 (D s r (l.length + xs.length)) ∧ Sl wr w.heap.size g p (xs.drop m) ∧ But w.heap.size g w wr) (fun b _ _ => sLen b)
  case atStart =>
    exact ⟨0, s0, r, p, c, by omega, rfl, HC.out, congrArg (Value.int .i64) (by simp), by simpa using HREP.out, HST.out, by simpa using HP.out.but HB.out, HB.out⟩
  case round =>
    clear HST HB HREP HP HC
    obtain ⟨m, s, r, p, c, hm, rfl, hc, rfl, hrep, hg, hp, hbut⟩ := hrel
    by_cases hlt : m < xs.length
    · have hk : (l.length + m) % 64 < 64 := Nat.mod_lt _ (by decide)
      have hlm : (l ++ xs.take m).length = l.length + m := by rw [List.length_append, List.length_take]; omega
      have hyb : ∀ n, Bytes ((xs.drop m).take n) := fun n => by
        have := HXS.out
        rw [bytes_mem] at *
        exact fun x hx => this x (List.mem_of_mem_drop (List.mem_of_mem_take hx))
      have hkk : (l ++ xs.take m).length % 64 = (l.length + m) % 64 := by rw [hlm]
      have hmod : (l.length + m) % 64 = (l.length + m) % 64 := rfl
      have hmk : ∃ k, (l.length + m) % 64 = k := ⟨_, rfl⟩
      obtain ⟨k, ek⟩ := hmk
      rw [ek] at hk hkk
      have EK := Lib.hid ek
      rw [ek]
      clear ek hmod
      obtain ⟨n, hn⟩ : ∃ n, n = Nat.min (xs.length - m) (64 - k) := ⟨_, rfl⟩
      have hn1 : 1 ≤ n := by rw [hn]; exact Nat.le_min.2 ⟨by omega, by omega⟩
      have hn2 : n ≤ xs.length - m := by rw [hn]; exact Nat.min_le_left _ _
      have hn3 : k + n ≤ 64 := by have : n ≤ 64 - k := by rw [hn]; exact Nat.min_le_right _ _
                                  omega
      have hyl : ((xs.drop m).take n).length = n := by rw [List.length_take, List.length_drop]; omega
      obtain ⟨p1, hp1, he1⟩ := sliceAt_low (P := Tryd.prog) (t := 126) (e := 5) (n := 64) Tryd.underlying126 (by kernel_rfl) g 8 .i64 ((k : Nat) : Int) (64 - k) (by omega) (by omega) (by omega)
      obtain ⟨p2, hp2, he2⟩ := slice_low (P := Tryd.prog) (t := 27) (e := 5) Tryd.underlying27 (by kernel_rfl) p (xs.length - m) c .i64 n hn2 hc
      have hb1 : Blk wr g 128 ((u32s s.list ++ u8s (r.take k)) ++ (u8s ((r.drop k).take n) ++ (u8s (r.drop (k + n)) ++ [.int .u64 ((l.length + xs.length : Nat) : Int)]))) := by rw [← D_three]; exact hg
      have hA : 8 + k = (u32s s.list ++ u8s (r.take k)).length := by rw [List.length_append, len8s, u8s_length, List.length_take, hrep.len]; omega
      have hM : (u8s ((r.drop k).take n)).length = (u8s ((xs.drop m).take n)).length := by rw [u8s_length, u8s_length, hyl, List.length_take, List.length_drop, hrep.len]; omega
      have hN : (u8s ((xs.drop m).take n)).length = Nat.min (xs.length - m) (64 - k) := by rw [u8s_length, hyl, hn]
      have hNN : (u8s ((xs.drop m).take n)).length = n := by rw [u8s_length, hyl]
      have hpos : 0 < (u8s ((xs.drop m).take n)).length → p1 = some ⟨g, 8 + k, none⟩ ∧ ∃ ad, p = some ad ∧ ∀ j v, (u8s ((xs.drop m).take n))[j]? = some v → wr.cell? (ad.add j) = some v := fun _ => by
        refine ⟨by rw [hp1 (by omega)]; simp, ?_⟩
        obtain ⟨b, o, e, h1, h2, h3⟩ := hp (by rw [List.length_drop]; omega)
        refine ⟨_, e, fun j v hv => ?_⟩
        have hj : j < n := by
          have := (List.getElem?_eq_some_iff.1 hv).1
          rwa [hNN] at this
        rw [Addr.add_mid, h3 j (by rw [List.length_drop]; omega), ← hv, u8s_get _ _ (by rw [hyl]; exact hj)]
        congr 3
        simp [gt, List.getD_eq_getElem?_getD, hj]
      have hone : ∀ v ∈ u8s ((xs.drop m).take n), v.oneCell' = true := fun v hv => by obtain ⟨n, _, rfl⟩ := List.mem_map.1 hv; rfl
      have L1 : (0 : Int) < ((xs.length - m : Nat) : Int) := by omega
      have HB1 := Lib.hid hb1; have HA := Lib.hid hA; have HM := Lib.hid hM; have HN := Lib.hid hN; have HNN := Lib.hid hNN; have HPOS := Lib.hid hpos; have HONE := Lib.hid hone; have HP2 := Lib.hid hp2
      have HREP := Lib.hid hrep; have HP := Lib.hid hp; have HBUT := Lib.hid hbut; have HYB := Lib.hid hyb; have HKK := Lib.hid hkk; have HC := Lib.hid hc; have HLM := Lib.hid hlm; have HYL := Lib.hid hyl
      clear hb1 hA hM hN hNN hpos hone hp2 hrep hg hp hbut hyb hkk hp1 hc hlm hyl hn
      have kb : (k : Int) < 64 := by omega
      have hk64 : (k : Int) ≤ 64 := by omega
      by_cases hfull : k + n = 64
      · have t64 : ((k : Int) + (n : Int) == 64) = true := by rw [beq_iff_eq]; omega
        have HF := Lib.hid hfull
        clear hfull
        go_wp2_with ((with_reducible refine at_op (.call { callee := .builtin .copy, args := #[.tmp 33, .tmp 34], argTypes := #[27, 27] }) rfl ?_); refine copy_part (.tmp 33) (.tmp 34) 27 27 5 g (8 + k) (64 - k) (64 - k) (xs.length - m) c n p1 p 128 _ _ _ (u8s ((xs.drop m).take n)) rfl rfl Tryd.underlying27 (by kernel_rfl) HB1.out HA.out HM.out HN.out rfl rfl HPOS.out HONE.out HNN.out ?_; intro w2 a1 a2 a3)
        have hbut2 : But w.heap.size g w w2 := HBUT.out.trans (a2.out.mono HBUT.out.size)
        have hg2 := a1.out
        have hrl : r.drop (k + n) = r.drop (k + ((xs.drop m).take n).length) := by rw [HYL.out]
        rw [hrl, D_put] at hg2
        have hpl : (put r k ((xs.drop m).take n)).length = 64 := put_length HREP.out.len (by rw [HYL.out]; omega)
        have hpb : Bytes (put r k ((xs.drop m).take n)) := put_bytes HREP.out.bytes (HYB.out n)
        have hrep2 := HREP.out.full (HYB.out n) (by rw [HKK.out, HYL.out]; exact HF.out)
        rw [HKK.out, List.append_assoc] at hrep2
        have htk : xs.take m ++ (xs.drop m).take n = xs.take (m + n) := by rw [List.take_add]
        rw [htk] at hrep2
        have hk2 : KAt w2 := HK.out.but hbut2 HK.out.lt HKG.out
        have hlt2 : g < w2.heap.size := hg2.lt
        generalize put r k ((xs.drop m).take n) = r2 at *
        have hg3 : Blk w2.drew g 128 ([] ++ (u32s s.list ++ (u8s r2 ++ [.int .u64 ((l.length + xs.length : Nat) : Int)]))) := hg2.drew
        have z1 := z42 s
        have G2 := Lib.hid hg2; have G3 := Lib.hid hg3; have BUT2 := Lib.hid hbut2; have PL := Lib.hid hpl; have PB := Lib.hid hpb; have REP2 := Lib.hid hrep2; have K2 := Lib.hid hk2; have Z1 := Lib.hid z1; have LT2 := Lib.hid hlt2
        clear hbut2 hg2 hrl hpl hpb hrep2 htk hk2 hlt2 hg3 z1 a1 a2 a3 HB1 HA HM HN HNN HPOS HONE he1 he2 t64
        have hll : (u32s s.list).length = (u32s (cmp s (sched r2 0)).list).length := (len8s s).trans (len8s _).symm
        have z2 := z42 (cmp s (sched r2 0))
        have HLL := Lib.hid hll; have Z2 := Lib.hid z2
        clear hll z2
        generalize hs2 : cmp s (sched r2 0) = s2 at *
        have HS2 := Lib.hid hs2
        clear hs2
        refine wp_region_any (by kernel_rfl) ?_
        change wpAny _ _ _ _ _ _ _ w2.drew
        refine wpAny_take (i := 0) (v := ?_) rfl (by kernel_rfl) (by kernel_rfl) (by kernel_rfl) (fun _ _ _ h => h) (Or.inl ⟨by rfl, ?_⟩) ?_
        rotate_left 1
        · (intro w; go_simp; try (with_reducible rfl))
        refine wpAny_take (i := 1) (v := ?_) rfl (by kernel_rfl) (by kernel_rfl) (by kernel_rfl) (fun _ _ _ h => h) (Or.inl ⟨by rfl, ?_⟩) ?_
        rotate_left 1
        · (intro w; go_simp; try (with_reducible rfl))
        refine wpAny_take (i := 2) (v := ?_) rfl (by kernel_rfl) (by kernel_rfl) (by kernel_rfl) (fun _ _ _ h => h) (Or.inl ⟨by rfl, ?_⟩) ?_
        rotate_left 1
        · (intro w; go_simp; try (with_reducible rfl))
        refine wpAny_take (i := 3) (v := ?_) rfl (by kernel_rfl) (by kernel_rfl) (by kernel_rfl) (fun _ _ _ h => h) (Or.inl ⟨by rfl, ?_⟩) ?_
        rotate_left 1
        · (intro w; go_simp; try (with_reducible rfl))
        refine wpAny_take (i := 5) (v := ?_) rfl (by kernel_rfl) (by kernel_rfl) (by kernel_rfl) (fun _ _ _ h => h) (Or.inl ⟨by rfl, ?_⟩) ?_
        rotate_left 1
        · (intro w; go_simp; try (with_reducible rfl))
        refine wpAny_take (i := 6) (v := ?_) rfl (by kernel_rfl) (by kernel_rfl) (by kernel_rfl) (fun _ _ _ h => h) (Or.inl ⟨by rfl, ?_⟩) ?_
        rotate_left 1
        · (intro w; go_simp; try (with_reducible rfl))
        refine wpAny_take (i := 7) (v := ?_) rfl (by kernel_rfl) (by kernel_rfl) (by kernel_rfl) (fun _ _ _ h => h) (Or.inl ⟨by rfl, ?_⟩) ?_
        rotate_left 1
        · (intro w; go_simp; try (with_reducible rfl))
        refine wpAny_all (rs := [4]) (by kernel_rfl) (by simp) ?_
        intro i hi
        obtain rfl : i = 4 := by simpa using hi
        clear hi
        refine wpOp_mk rfl (by rfl) ?_
        with_reducible refine wload_part 125 (.tmp 47) g 0 128 [] (u32s s.list) (u8s r2 ++ [.int .u64 ((l.length + xs.length : Nat) : Int)]) _ ?_ ?_ ?_ Tryd.underlying125 ?_ ?_ ?_ ?_
        · rfl
        · exact G3.out
        · rfl
        · rfl
        · exact Z1.out
        · go_simp
        refine wpAny_all (rs := [8]) (by kernel_rfl) (by simp) ?_
        intro i hi
        obtain rfl : i = 8 := by simpa using hi
        clear hi
        refine wpOp_mk rfl (by rfl) ?_
        go_simp
        refine (mixed_t s HREP.out.ok r2 g 8 w2.drew PL.out PB.out (D_bytes G2.out.drew PL.out) LT2.out ⟨K2.out.lt, K2.out.cell⟩).mono ?_
        rintro e w3 ⟨rfl, hb3⟩
        rw [HS2.out]
        have G4 := Lib.hid (G3.out.below hb3 LT2.out)
        have BUT3 : Hid (But w.heap.size g w w3) := Lib.hid (BUT2.out.drew.trans (But.of_below (hb3.mono BUT2.out.size) g))
        clear hb3
        change wpAny _ _ _ _ _ _ _ w3
        refine wpAny_take (i := 9) (v := ?_) rfl (by kernel_rfl) (by kernel_rfl) (by kernel_rfl) (fun _ _ _ h => h) (Or.inl ⟨by rfl, ?_⟩) ?_
        rotate_left 1
        · (intro w; go_simp; try (with_reducible rfl))
        refine wpAny_take (i := 10) (v := ?_) rfl (by kernel_rfl) (by kernel_rfl) (by kernel_rfl) (fun _ _ _ h => h) (Or.inl ⟨by rfl, ?_⟩) ?_
        rotate_left 1
        · (intro w; go_simp; try (with_reducible rfl))
        refine wpAny_all (rs := [11]) (by kernel_rfl) (by simp) ?_
        intro i hi
        obtain rfl : i = 11 := by simpa using hi
        clear hi
        refine wpOp_mk rfl (by rfl) ?_
        with_reducible refine wstore_part 125 (.tmp 54) (.tmp 52) g 0 128 [] (u32s s.list) (u8s r2 ++ [.int .u64 ((l.length + xs.length : Nat) : Int)]) (u32s s2.list) ?_ ?_ ?_ ?_ ?_ ?_ ?_ ?_ ?_
        · rfl
        · exact G4.out
        · rfl
        · exact HLL.out
        · exact Z2.out
        · exact u32s_one _
        · go_simp
        · go_simp
        intro w4 a1 a2 a3
        refine wpAny_done (by kernel_rfl) ?_ _
        go_simp
        go_wp2_with fail
        go_roundw
        case rel =>
          have hbt : But w.heap.size g w w4 := BUT3.out.trans (a2.out.mono BUT3.out.size)
          refine ⟨m + n, s2, r2, p2, c - n, by omega, by rw [Nat.sub_sub], by have := HC.out; omega, ?_, REP2.out, a1.out, ?_, hbt⟩
          · refine congrArg (Value.int .i64) ?_
            have := EK.out; have := HF.out; omega
          · rw [← List.drop_drop]
            exact (HP.out.across HBUT.out hbt).drop (by rw [List.length_drop]; exact HP2.out)
        case measure => simp [sLen]; omega
      · have t64 : ((k : Int) + (n : Int) == 64) = false := by rw [beq_eq_false_iff_ne]; omega
        have HF := Lib.hid hfull
        clear hfull
        go_wp2_with ((with_reducible refine at_op (.call { callee := .builtin .copy, args := #[.tmp 33, .tmp 34], argTypes := #[27, 27] }) rfl ?_); refine copy_part (.tmp 33) (.tmp 34) 27 27 5 g (8 + k) (64 - k) (64 - k) (xs.length - m) c n p1 p 128 _ _ _ (u8s ((xs.drop m).take n)) rfl rfl Tryd.underlying27 (by kernel_rfl) HB1.out HA.out HM.out HN.out rfl rfl HPOS.out HONE.out HNN.out ?_; intro w2 a1 a2 a3)
        have hbt : But w.heap.size g w w2 := HBUT.out.trans (a2.out.mono HBUT.out.size)
        have hg2 := a1.out
        have hrl : r.drop (k + n) = r.drop (k + ((xs.drop m).take n).length) := by rw [HYL.out]
        rw [hrl, D_put] at hg2
        have hlt64 : k + n < 64 := by have := HF.out; omega
        have hrep2 := HREP.out.more (HYB.out n) (by rw [HKK.out, HYL.out]; exact hlt64)
        rw [HKK.out, List.append_assoc] at hrep2
        have htk : xs.take m ++ (xs.drop m).take n = xs.take (m + n) := by rw [List.take_add]
        rw [htk] at hrep2
        go_roundw
        case rel =>
          refine ⟨m + n, s, put r k ((xs.drop m).take n), p2, c - n, by omega, by rw [Nat.sub_sub], by have := HC.out; omega, ?_, hrep2, hg2, ?_, hbt⟩
          · refine congrArg (Value.int .i64) ?_
            have := EK.out; omega
          · rw [← List.drop_drop]
            exact (HP.out.across HBUT.out hbt).drop (by rw [List.length_drop]; exact HP2.out)
        case measure => simp [sLen]; omega
    · obtain rfl : m = xs.length := by omega
      have HREP := Lib.hid hrep; have HG := Lib.hid hg; have HBUT := Lib.hid hbut
      clear hrep hg hp hbut hm hlt hc
      go_wp2
      go_end0
      refine ⟨rfl, ⟨s, r, ?_, ?_⟩, HBUT.out⟩
      · have := HREP.out
        rwa [List.take_length] at this
      · rw [List.length_append]; exact HG.out
end Go.Proofs.YthcebaegijlbdaaDoor
