/-
  PACKAGE vote
  PACKAGE ots, THE KINDS
  PACKAGE ots, THE DIGITS
-/
import Derived.Test.YtidklgicmhdapaaGreatDoorAv9
import Derived.Test.YtidklgicmhdapaaGreatDoorAv6
import Derived.Laws.ResultCell
import Derived.Deep.RegionHeld3
namespace Go.Proofs.YtidklgicmhdapaaGreatDoor
open Go Go.RowKit Sh

def textV (a : List Nat) (q : Nat) (l : List Nat) : List Nat := (([86, 79, 84, 69] ++ a) ++ beN q 4) ++ l
structure QT (w0 w2 W : World) (a : List Nat) (q : Nat) (l : List Nat) (ls : List Nat) : Prop where
  wr : Wr W (fun k => w2.heap.size ≤ k) w2.heap.size ls
  ba : Blk W w0.heap.size 23 (u8s a)
  bp : Blk W (w0.heap.size + 1) 3 [.int .i64 (q : Int)]
  bl : Blk W (w0.heap.size + 2) 23 (u8s l)
  lo : w0.heap.size + 2 < w2.heap.size
  b2 : Below w2.heap.size w2 W
theorem QT.step {w0 w2 W W' : World} {a l ls ls' : List Nat} {q : Nat} (h : QT w0 w2 W a q l ls) (hw : Wr W' (fun k => w2.heap.size ≤ k) w2.heap.size ls') (hb : Below w2.heap.size W W') : QT w0 w2 W' a q l ls' := by
  have := h.lo
  exact ⟨hw, h.ba.below hb (by omega), h.bp.below hb (by omega), h.bl.below hb (by omega), h.lo, h.b2.trans hb⟩
theorem sr_blkV {w : World} {g : Nat} {t : TypeId} {xs : List Nat} (h : Blk w g t (u8s xs)) : Sr w (some ⟨g, 0, none⟩) xs := fun _ => ⟨g, 0, rfl, h.lt, fun j hj => by rw [Nat.zero_add, h.cell]; exact u8s_get _ _ hj⟩
set_option maxRecDepth 100000 in
set_option maxHeartbeats 1000000 in
theorem vText1_t (a l : List Nat) (q : Nat) (w0 w2 W : World) (h : QT w0 w2 W a q l []) (ha : a.length = 32) (hl : l.length = 32) (hq : q ≤ 1048576) :
    Calls Tryz.prog 36 #[.pointer (some ⟨w2.heap.size, 0, none⟩), .pointer (some ⟨w0.heap.size, 0, none⟩), .pointer (some ⟨w0.heap.size + 1, 0, none⟩), .pointer (some ⟨w0.heap.size + 2, 0, none⟩)] W fun e W' => e = .returned (.tuple #[]) ∧ Wr W' (fun k => w2.heap.size ≤ k) w2.heap.size (textV a q l) ∧ Below w2.heap.size w2 W' := by
  have i1 : IntKind.u64.wrap (q : Int) = (q : Int) := IntWalk.u64_in _ (by omega)
  have P0 := Lib.hid h
  have SM := Lib.hid (Sr.made [86, 79, 84, 69] W 5 (4, 5))
  have BA := Lib.hid ((Below.refl W.heap.size W).alloc (Nat.le_refl _) (.cells (u8s [86, 79, 84, 69]).toArray 5 (4, 5)))
  clear h
  go_enter Tryz.func36, Tryz.ntmps36
  have kc := fun (w : World) (C : Array Value) (n c : Nat) => Lib.run_convert_bytes_const (P := Tryz.prog) w 24 5 C n c Tryz.underlying24 Tryz.underlying5
  have RW_ := Lib.hid (raw_s [86, 79, 84, 69] (some ⟨W.heap.size, 0, none⟩) 4 4 P0.out.wr BA.out P0.out.b2.size rfl SM.out (by simp))
  go_wp2_with fail
  clear kc
  refine RW_.out.mono ?_
  rintro e w3 ⟨rfl, x3, b3⟩
  rw [List.nil_append] at x3
  have P3 := Lib.hid (P0.out.step x3 ((BA.out.mono P0.out.b2.size).trans b3))
  clear x3 b3 RW_ SM BA P0
  have SA := Lib.hid (sr_blkV P3.out.ba)
  have RW_ := Lib.hid (raw_s a (some ⟨w0.heap.size, 0, none⟩) 32 32 P3.out.wr (Below.refl _ _) P3.out.b2.size ha SA.out (by simp))
  go_wp2_with fail
  refine RW_.out.mono ?_
  rintro e w4 ⟨rfl, x4, b4⟩
  have P4 := Lib.hid (P3.out.step x4 b4)
  clear x4 b4 RW_ SA P3
  have c1 : w4.cell? ⟨w0.heap.size + 1, 0, none⟩ = some (.int .i64 (q : Int)) := P4.out.bp.cell 0
  go_wp2_with fail
  refine (num_s q 4 P4.out.wr (Below.refl _ _) P4.out.b2.size (by omega) (by decide) (by decide) (by simp only [List.length_append, ha, List.length_cons, List.length_nil]; omega)).mono ?_
  rintro e w5 ⟨rfl, x5, b5⟩
  have P5 := Lib.hid (P4.out.step x5 b5)
  clear x5 b5 P4 c1 i1
  have SL := Lib.hid (sr_blkV P5.out.bl)
  have RW_ := Lib.hid (raw_s l (some ⟨w0.heap.size + 2, 0, none⟩) 32 32 P5.out.wr (Below.refl _ _) P5.out.b2.size hl SL.out (by simp only [List.length_append, ha, beN_length, List.length_cons, List.length_nil]; omega))
  go_wp2_with fail
  refine RW_.out.mono ?_
  rintro e w6 ⟨rfl, x6, b6⟩
  have P6 := Lib.hid (P5.out.step x6 b6)
  clear x6 b6 RW_ SL P5
  go_wp2_with fail
  go_end0
  exact ⟨rfl, P6.out.wr, P6.out.b2⟩
theorem textV_len {a l : List Nat} {q : Nat} (ha : a.length = 32) (hl : l.length = 32) : (textV a q l).length = 72 := by
  unfold textV
  simp only [List.length_append, beN_length, ha, hl, List.length_cons, List.length_nil]
theorem new3V (w : World) (o1 o2 : Obj) (t : TypeId) (cs : List Value) : Blk (((w.alloc o1).alloc o2).alloc (.cells cs.toArray t)) (w.heap.size + 2) t cs := by
  have h := Blk.new2 (w.alloc o1) o2 t cs
  simpa using h
set_option maxRecDepth 100000 in
set_option maxHeartbeats 1000000 in
theorem vText_t (a l : List Nat) (q : Nat) (w : World) (ha : a.length = 32) (hl : l.length = 32) (hq : q ≤ 1048576) :
    Calls Tryz.prog 13 #[.agg (u8s a).toArray, .int .i64 (q : Int), .agg (u8s l).toArray] w fun e w' => ∃ u, e = .returned u ∧ Fresh 5 w w' u (textV a q l) := by
  obtain ⟨V, hV⟩ : ∃ V, ((w.alloc (.cells (u8s a).toArray 23)).alloc (.cells #[.int .i64 (q : Int)] 3)).alloc (.cells (u8s l).toArray 23) = V := ⟨_, rfl⟩
  have B0 := Lib.hid (show Below w.heap.size w V from by rw [← hV]; exact (((Below.refl _ _).alloc (Nat.le_refl _) _).alloc (by simp) _).alloc (by simp; omega) _)
  have VS := Lib.hid (show w.heap.size + 2 < V.heap.size from by rw [← hV]; simp)
  have BL := Lib.hid (show Blk V w.heap.size 23 (u8s a) ∧ Blk V (w.heap.size + 1) 3 [.int .i64 (q : Int)] ∧ Blk V (w.heap.size + 2) 23 (u8s l) from by
    rw [← hV]
    exact ⟨((Blk.new w 23 (u8s a)).alloc _).alloc _, (Blk.new2 w _ 3 [.int .i64 (q : Int)]).alloc _, new3V w _ _ _ _⟩)
  have CALL := Lib.hid (vText1_t a l q w V _ ⟨Wr.new, BL.out.1.alloc _, BL.out.2.1.alloc _, BL.out.2.2.alloc _, VS.out, (Below.refl _ _).alloc (Nat.le_refl _) _⟩ ha hl hq)
  have WT := Lib.hid (vWritten_t 36 #[.pointer (some ⟨w.heap.size, 0, none⟩), .pointer (some ⟨w.heap.size + 1, 0, none⟩), .pointer (some ⟨w.heap.size + 2, 0, none⟩)] (textV a q l) V (enters_of Tryz.func36 (by kernel_rfl) rfl) (by rw [textV_len ha hl]; omega) CALL.out)
  have hmf : ∀ (fn : Fn) (first cap : Array Value) (w : World), (Instr.makeFunc fn first cap).run Tryz.prog w = .ok (.func fn first cap) w := fun _ _ _ _ => rfl
  clear CALL BL VS
  go_enter Tryz.func13, Tryz.ntmps13
  go_wp2_with fail
  clear hV
  refine WT.out.mono ?_
  rintro e w2 ⟨u, rfl, fr⟩
  have FR := Lib.hid (show Fresh 5 w w2 u (textV a q l) from ⟨own_base fr.1 (fun k hk => Nat.le_trans B0.out.size (fr.1.lt k hk).1), B0.out.trans (fr.2.mono B0.out.size)⟩)
  clear fr WT
  go_wp2_with fail
  go_ret
  exact ⟨u, rfl, FR.out⟩
end Go.Proofs.YtidklgicmhdapaaGreatDoor
namespace Go.Proofs.YtidklgicmhdapaaGreatDoor
open Go Go.RowKit Sh

structure Kd where
  code : Nat
  w : Nat
  p : Nat
  ls : Nat
def kd : Nat → Kd
  | 0 => ⟨1, 1, 265, 7⟩
  | 1 => ⟨2, 2, 133, 6⟩
  | 2 => ⟨3, 4, 67, 4⟩
  | _ => ⟨4, 8, 34, 0⟩
def kv (k : Kd) : List Value := [.int .u64 (k.code : Int), .int .i64 (k.w : Int), .int .i64 (k.p : Int), .int .i64 (k.ls : Int)]
def kds : List Value := kv (kd 0) ++ (kv (kd 1) ++ (kv (kd 2) ++ kv (kd 3)))
def kz : List Value := [.int .u64 0, .int .i64 0, .int .i64 0, .int .i64 0]
structure KI (w : World) : Prop where
  lt : 0 < w.heap.size
  at_ : w.rangeAt 0 0 kds
theorem KI.below {w w' : World} {B : Nat} (h : KI w) (hb : Below B w w') (hB : 0 < B) : KI w' :=
  ⟨Nat.lt_of_lt_of_le h.lt hb.size, fun j v hv => (hb.cell (p := ⟨0, 0 + j, none⟩) hB).trans (h.at_ j v hv)⟩
theorem KI.kept {w w' : World} (h : KI w) (hb : Below w.heap.size w w') : KI w' := h.below hb h.lt
theorem kv_size (k : Kd) : (Tryz.prog.info? 121).map (·.size) = some (kv k).length := by
  show (Tryz.prog.info? 121).map (·.size) = some 4
  kernel_rfl
theorem kz_size : (Tryz.prog.info? 121).map (·.size) = some kz.length := by
  show (Tryz.prog.info? 121).map (·.size) = some 4
  kernel_rfl
theorem kds_size : (Tryz.prog.info? 150).map (·.size) = some kds.length := by
  show (Tryz.prog.info? 150).map (·.size) = some 16
  kernel_rfl
theorem kv_one (k : Kd) : (kv k).toArray.all (·.oneCell') = true := by simp [kv, Value.oneCell']
theorem kz_one : kz.toArray.all (·.oneCell') = true := by simp [kz, Value.oneCell']
theorem kd_index (k : Nat) (hk : k < 4) : ∀ W, (Instr.index 150 (.agg kds.toArray) (.int .i64 (k : Int))).run Tryz.prog W = .ok (.agg (kv (kd k)).toArray) W := by
  have : k = 0 ∨ k = 1 ∨ k = 2 ∨ k = 3 := by omega
  rcases this with rfl | rfl | rfl | rfl <;> (intro W; kernel_rfl)
theorem ret_blk2 {P : Program} {fn : Func} {R : Ending → World → Prop} {a : Act} {w : World} {p u : Tmp} {ty : TypeId} (hr : fn.results = #[.cell p ty, .tmp u]) (hd : a.defers = []) (g : Nat) (t : TypeId) (cs : List Value) (d : TypeDesc)
    (hp : a.tmps.getD p undef = .pointer (some ⟨g, 0, none⟩)) (hg : Blk w g t cs) (hu : P.underlying ty = some d)
    (hdd : (match d with | .struct _ | .array _ _ => true | _ => false) = true) (hi : (P.info? ty).map (·.size) = some cs.length) (v : Value) (hv : a.tmps.getD u undef = v)
    (hR : R (.returned (.tuple #[.agg cs.toArray, v])) w) : bodyPost P fn R .ret a w := by
  have hp' : a.tmps[p]?.getD undef = .pointer (some ⟨g, 0, none⟩) := by simpa using hp
  have hv' : a.tmps[u]?.getD undef = v := by simpa using hv
  refine bodyPost_ret (v := .tuple #[.agg cs.toArray, v]) ?_ hd hR
  simp [results, hr, hp', hv', asAddr, run_loadVar_row w g t ty cs.toArray (0, 0) d hg hu hdd (by simpa using hi)]

theorem isLeaf_no (q : Int) (w : World) (h : q < 0 ∨ 32 ≤ q) : Calls Tryz.prog 81 #[.int .i64 q] w fun e w' => e = .returned (.bool false) ∧ w = w' := by
  by_cases h1 : q < 0
  · clear h
    go_enter Tryz.func81, Tryz.ntmps81
    go_wp2
    go_ret
    exact ⟨rfl, rfl⟩
  · have h2 : 0 ≤ q := by omega
    have h3 : 32 ≤ q := by omega
    clear h h1
    go_enter Tryz.func81, Tryz.ntmps81
    go_wp2
    go_ret
    exact ⟨by simp; omega, rfl⟩
set_option maxRecDepth 100000 in
set_option maxHeartbeats 1000000 in
theorem find_t (n : Int) (w : World) (hk : KI w) (R : Ending → World → Prop)
    (hyes : ∀ i w', i < 4 → n = ((kd i).w : Int) → Below w.heap.size w w' → R (.returned (.tuple #[.agg (kv (kd i)).toArray, .bool true])) w')
    (hno : ∀ w', (∀ i, i < 4 → n ≠ ((kd i).w : Int)) → Below w.heap.size w w' → R (.returned (.tuple #[.agg kz.toArray, .bool false])) w') :
    Calls Tryz.prog 80 #[.int .i64 n] w R := by
  have HK := Lib.hid hk; have HY := Lib.hid hyes; have HN := Lib.hid hno
  have R0 := Lib.hid (Blk.new w 121 kz)
  have B0 := Lib.hid ((Below.refl w.heap.size w).alloc (Nat.le_refl _) (.cells kz.toArray 121))
  clear hk hyes hno
  go_enter Tryz.func80, Tryz.ntmps80
  go_wp2_with ((with_reducible refine wpList_load_mid rfl 150 (.global 0) rfl 0 0 ?_ kds _ ?_ Tryz.underlying150 ?_ ?_ ?_); exact rfl; exact (HK.out.kept B0.out).at_; exact rfl; exact kds_size)
  go_loopw [7] (fun i wr => ∃ k : Nat, k ≤ 4 ∧ i = .int .i64 k ∧ (∀ j, j < k → n ≠ ((kd j).w : Int)) ∧ Blk wr w.heap.size 121 kz ∧ Below w.heap.size w wr) (fun i _ => 4 - (intOf i).toNat)
  case atStart => exact ⟨0, by omega, rfl, fun j hj => absurd hj (by omega), R0.out, B0.out⟩
  case round =>
    obtain ⟨k, hk, rfl, hn, hr, hb⟩ := hrel
    have HNK := Lib.hid hn; have HR := Lib.hid hr; have HB := Lib.hid hb
    have b1 := HB.out.size
    have l1 := HR.out.lt
    clear hn hr hb R0 B0
    by_cases hlt : k < 4
    · have hix := kd_index k hlt
      by_cases he : n = ((kd k).w : Int)
      · have he2 : (((kd k).w : Int) == n) = true := by simp [he]
        have HE := Lib.hid he
        clear he
        have RN := Lib.hid (Blk.new wr 121 kz)
        have c1 : (((wr.alloc (.cells #[.int .u64 0, .int .i64 0, .int .i64 0, .int .i64 0] 121)).setRow wr.heap.size (kv (kd k)).toArray)).cell? ⟨wr.heap.size, 1, none⟩ = some (.int .i64 ((kd k).w : Int)) := (RN.out.setRow (kv (kd k))).cell 1
        go_wp2_with (first
          | ((with_reducible refine store_blk 121 (.tmp 5) (.tmp 9) wr.heap.size 121 kz (kv (kd k)) rfl rfl ?_ ?_ ?_ ?_ ?_ ?_ ?_); exact RN.out; exact rfl; exact kv_size _; exact kv_one _; exact rfl; exact rfl)
          | ((with_reducible refine load_blk 121 (.tmp 5) wr.heap.size 121 (kv (kd k)) _ rfl rfl ?_ Tryz.underlying121 ?_ ?_ ?_ ?_); exact RN.out.setRow _; exact rfl; exact kv_size _; exact rfl)
          | ((with_reducible refine store_blk 121 (.tmp 2) (.tmp 14) w.heap.size 121 kz (kv (kd k)) rfl rfl ?_ ?_ ?_ ?_ ?_ ?_ ?_); exact (HR.out.alloc _).setRow_far (by omega) _; exact rfl; exact kv_size _; exact kv_one _; exact rfl; exact rfl))
        refine ret_blk2 (p := 2) (u := 3) (ty := 121) rfl rfl w.heap.size 121 (kv (kd k)) _ rfl (((HR.out.alloc _).setRow_far (by omega) _).setRow _) Tryz.underlying121 rfl (kv_size _) (.bool true) rfl ?_
        exact HY.out k _ hlt HE.out (below_setRow (below_setRow (HB.out.alloc HB.out.size _) (by omega) _) (Nat.le_refl _) _)
      · have he2 : (((kd k).w : Int) == n) = false := by rw [beq_eq_false_iff_ne]; exact fun e => he e.symm
        have HE := Lib.hid he
        clear he
        have RN := Lib.hid (Blk.new wr 121 kz)
        have c1 : (((wr.alloc (.cells #[.int .u64 0, .int .i64 0, .int .i64 0, .int .i64 0] 121)).setRow wr.heap.size (kv (kd k)).toArray)).cell? ⟨wr.heap.size, 1, none⟩ = some (.int .i64 ((kd k).w : Int)) := (RN.out.setRow (kv (kd k))).cell 1
        go_wp2_with (first
          | ((with_reducible refine store_blk 121 (.tmp 5) (.tmp 9) wr.heap.size 121 kz (kv (kd k)) rfl rfl ?_ ?_ ?_ ?_ ?_ ?_ ?_); exact RN.out; exact rfl; exact kv_size _; exact kv_one _; exact rfl; exact rfl))
        go_roundw
        case rel =>
          refine ⟨k + 1, by omega, by go_num, fun j hj => ?_, (HR.out.alloc _).setRow_far (by omega) _, below_setRow (HB.out.alloc HB.out.size _) (by omega) _⟩
          rcases Nat.lt_or_ge j k with h | h
          · exact HNK.out j h
          · obtain rfl : j = k := by omega
            exact HE.out
        case measure => simp [intOf]; omega
    · obtain rfl : k = 4 := by omega
      go_wp2_with ((with_reducible refine store_blk 121 (.tmp 2) (.tmp 16) w.heap.size 121 kz kz rfl rfl ?_ ?_ ?_ ?_ ?_ ?_ ?_); exact HR.out; exact rfl; exact kz_size; exact kz_one; exact rfl; exact rfl)
      refine ret_blk2 (p := 2) (u := 3) (ty := 121) rfl rfl w.heap.size 121 kz _ rfl (HR.out.setRow _) Tryz.underlying121 rfl kz_size (.bool false) rfl ?_
      exact HN.out _ HNK.out (below_setRow HB.out (Nat.le_refl _) _)
end Go.Proofs.YtidklgicmhdapaaGreatDoor
namespace Go.Proofs.YtidklgicmhdapaaGreatDoor
open Go Go.RowKit Sh

theorem world_is {P : Program} {c : Code} {Q : Exit → Act → World → Prop} {a : Act} {w : World} (R : World → Prop) (h : R w) (k : ∀ W, R W → Code.wp P c Q a W) : Code.wp P c Q a w := k w h
theorem blk_at {w : World} {g : Nat} (hg : w.heap.size = g) (o : Obj) (t : TypeId) (cs : List Value) (ho : o = .cells cs.toArray t := by rfl) : Blk (w.alloc o) g t cs := by
  subst hg; subst ho; exact Blk.new w t cs
end Go.Proofs.YtidklgicmhdapaaGreatDoor
