/-
  PACKAGE ots, THE KINDS: the table of kinds, find, isLeaf, top.
-/
import Derived.Test.YtkcjiidimmefdaaGreatDoorPkM
import Derived.Laws.ResultCell
namespace Go.Proofs.YtkcjiidimmefdaaGreatDoor
open Go Go.RowKit Sh

/-- A kind of one-time signature: its typecode, the width of its digits, how many chains, the shift of its checksum. -/
structure Kd where
  code : Nat
  w : Nat
  p : Nat
  ls : Nat
def kd : Nat → Kd
  | 0 => ⟨1, 1, 265, 7⟩
  | 1 => ⟨2, 2, 133, 6⟩
  | 2 => ⟨3, 4, 67, 4⟩
  | _ => ⟨4, 8, 34, 0⟩
def kv (k : Kd) : List Value := [.int .u64 (k.code : Int), .int .i64 (k.w : Int), .int .i64 (k.p : Int), .int .i64 (k.ls : Int)]
def kds : List Value := kv (kd 0) ++ (kv (kd 1) ++ (kv (kd 2) ++ kv (kd 3)))
def kz : List Value := [.int .u64 0, .int .i64 0, .int .i64 0, .int .i64 0]
/-- The table of kinds lies in its variable. -/
structure KI (w : World) : Prop where
  lt : 0 < w.heap.size
  at_ : w.rangeAt 0 0 kds
theorem KI.below {w w' : World} {B : Nat} (h : KI w) (hb : Below B w w') (hB : 0 < B) : KI w' :=
  ⟨Nat.lt_of_lt_of_le h.lt hb.size, fun j v hv => (hb.cell (p := ⟨0, 0 + j, none⟩) hB).trans (h.at_ j v hv)⟩
theorem KI.kept {w w' : World} (h : KI w) (hb : Below w.heap.size w w') : KI w' := h.below hb h.lt
theorem kv_size (k : Kd) : (Tryz.prog.info? 125).map (·.size) = some (kv k).length := by
  show (Tryz.prog.info? 125).map (·.size) = some 4
  kernel_rfl
theorem kz_size : (Tryz.prog.info? 125).map (·.size) = some kz.length := by
  show (Tryz.prog.info? 125).map (·.size) = some 4
  kernel_rfl
theorem kds_size : (Tryz.prog.info? 148).map (·.size) = some kds.length := by
  show (Tryz.prog.info? 148).map (·.size) = some 16
  kernel_rfl
theorem kv_one (k : Kd) : (kv k).toArray.all (·.oneCell') = true := by simp [kv, Value.oneCell']
theorem kz_one : kz.toArray.all (·.oneCell') = true := by simp [kz, Value.oneCell']
theorem kd_index (k : Nat) (hk : k < 4) : ∀ W, (Instr.index 148 (.agg kds.toArray) (.int .i64 (k : Int))).run Tryz.prog W = .ok (.agg (kv (kd k)).toArray) W := by
  have : k = 0 ∨ k = 1 ∨ k = 2 ∨ k = 3 := by omega
  rcases this with rfl | rfl | rfl | rfl <;> (intro W; kernel_rfl)
/-- The end of a function whose results are a whole block and a slot. -/
theorem ret_blk2 {P : Program} {fn : Func} {R : Ending → World → Prop} {a : Act} {w : World} {p u : Tmp} {ty : TypeId} (hr : fn.results = #[.cell p ty, .tmp u]) (hd : a.defers = []) (g : Nat) (t : TypeId) (cs : List Value) (d : TypeDesc)
    (hp : a.tmps.getD p undef = .pointer (some ⟨g, 0, none⟩)) (hg : Blk w g t cs) (hu : P.underlying ty = some d)
    (hdd : (match d with | .struct _ | .array _ _ => true | _ => false) = true) (hi : (P.info? ty).map (·.size) = some cs.length) (v : Value) (hv : a.tmps.getD u undef = v)
    (hR : R (.returned (.tuple #[.agg cs.toArray, v])) w) : bodyPost P fn R .ret a w := by
  have hp' : a.tmps[p]?.getD undef = .pointer (some ⟨g, 0, none⟩) := by simpa using hp
  have hv' : a.tmps[u]?.getD undef = v := by simpa using hv
  refine bodyPost_ret (v := .tuple #[.agg cs.toArray, v]) ?_ hd hR
  simp [results, hr, hp', hv', asAddr, run_loadVar_row w g t ty cs.toArray (0, 0) d hg hu hdd (by simpa using hi)]

theorem isLeaf_yes (q : Nat) (w : World) (h : q < 32) : Calls Tryz.prog 67 #[.int .i64 (q : Int)] w fun e w' => e = .returned (.bool true) ∧ w = w' := by
  have h1 : (0 : Int) ≤ (q : Int) := by omega
  have h2 : (q : Int) < 32 := by omega
  go_enter Tryz.func67, Tryz.ntmps67
  go_wp2
  go_ret
  exact ⟨rfl, rfl⟩
theorem isLeaf_no (q : Int) (w : World) (h : q < 0 ∨ 32 ≤ q) : Calls Tryz.prog 67 #[.int .i64 q] w fun e w' => e = .returned (.bool false) ∧ w = w' := by
  by_cases h1 : q < 0
  · clear h
    go_enter Tryz.func67, Tryz.ntmps67
    go_wp2
    go_ret
    exact ⟨rfl, rfl⟩
  · have h2 : 0 ≤ q := by omega
    have h3 : 32 ≤ q := by omega
    clear h h1
    go_enter Tryz.func67, Tryz.ntmps67
    go_wp2
    go_ret
    exact ⟨by simp; omega, rfl⟩
theorem kv_lit (i : Nat) (_ : i < 4) : ∃ c w p l : Nat, (kv (kd i)).toArray = #[.int .u64 (c : Int), .int .i64 (w : Int), .int .i64 (p : Int), .int .i64 (l : Int)] ∧ (kd i).w = w ∧ (kd i).code = c ∧ (kd i).p = p ∧ (kd i).ls = l := ⟨_, _, _, _, rfl, rfl, rfl, rfl, rfl⟩
set_option maxRecDepth 100000 in
theorem top_t (i : Nat) (hi : i < 4) (w : World) : Calls Tryz.prog 85 #[.agg (kv (kd i)).toArray] w fun e w' => e = .returned (.int .i64 ((2 ^ (kd i).w - 1 : Nat) : Int)) ∧ Below w.heap.size w w' := by
  have : i = 0 ∨ i = 1 ∨ i = 2 ∨ i = 3 := by omega
  rcases this with rfl | rfl | rfl | rfl
  · change Calls Tryz.prog 85 #[.agg #[.int .u64 1, .int .i64 1, .int .i64 265, .int .i64 7]] w _
    go_enter Tryz.func85, Tryz.ntmps85
    go_wp2
    go_ret
    exact ⟨rfl, (Below.refl _ _).alloc (Nat.le_refl _) _⟩
  · change Calls Tryz.prog 85 #[.agg #[.int .u64 2, .int .i64 2, .int .i64 133, .int .i64 6]] w _
    go_enter Tryz.func85, Tryz.ntmps85
    go_wp2
    go_ret
    exact ⟨rfl, (Below.refl _ _).alloc (Nat.le_refl _) _⟩
  · change Calls Tryz.prog 85 #[.agg #[.int .u64 3, .int .i64 4, .int .i64 67, .int .i64 4]] w _
    go_enter Tryz.func85, Tryz.ntmps85
    go_wp2
    go_ret
    exact ⟨rfl, (Below.refl _ _).alloc (Nat.le_refl _) _⟩
  · change Calls Tryz.prog 85 #[.agg #[.int .u64 4, .int .i64 8, .int .i64 34, .int .i64 0]] w _
    go_enter Tryz.func85, Tryz.ntmps85
    go_wp2
    go_ret
    exact ⟨rfl, (Below.refl _ _).alloc (Nat.le_refl _) _⟩

set_option maxRecDepth 100000 in
set_option maxHeartbeats 1000000 in
theorem find_t (n : Int) (w : World) (hk : KI w) (R : Ending → World → Prop)
    (hyes : ∀ i w', i < 4 → n = ((kd i).w : Int) → Below w.heap.size w w' → R (.returned (.tuple #[.agg (kv (kd i)).toArray, .bool true])) w')
    (hno : ∀ w', (∀ i, i < 4 → n ≠ ((kd i).w : Int)) → Below w.heap.size w w' → R (.returned (.tuple #[.agg kz.toArray, .bool false])) w') :
    Calls Tryz.prog 66 #[.int .i64 n] w R := by
  have HK := Lib.hid hk; have HY := Lib.hid hyes; have HN := Lib.hid hno
  have R0 := Lib.hid (Blk.new w 125 kz)
  have B0 := Lib.hid ((Below.refl w.heap.size w).alloc (Nat.le_refl _) (.cells kz.toArray 125))
  clear hk hyes hno
  go_enter Tryz.func66, Tryz.ntmps66
  go_wp2_with ((with_reducible refine wpList_load_mid rfl 148 (.global 0) rfl 0 0 ?_ kds _ ?_ Tryz.underlying148 ?_ ?_ ?_); exact rfl; exact (HK.out.kept B0.out).at_; exact rfl; exact kds_size)
  go_loopw [7] (fun i wr => ∃ k : Nat, k ≤ 4 ∧ i = .int .i64 k ∧ (∀ j, j < k → n ≠ ((kd j).w : Int)) ∧ Blk wr w.heap.size 125 kz ∧ Below w.heap.size w wr) (fun i _ => 4 - (intOf i).toNat)
  case atStart => exact ⟨0, by omega, rfl, fun j hj => absurd hj (by omega), R0.out, B0.out⟩
  case round =>
    obtain ⟨k, hk, rfl, hn, hr, hb⟩ := hrel
    have HNK := Lib.hid hn; have HR := Lib.hid hr; have HB := Lib.hid hb
    have b1 := HB.out.size
    have l1 := HR.out.lt
    clear hn hr hb R0 B0
    by_cases hlt : k < 4
    · have hix := kd_index k hlt
      by_cases he : n = ((kd k).w : Int)
      · have he2 : (((kd k).w : Int) == n) = true := by simp [he]
        have HE := Lib.hid he
        clear he
        have RN := Lib.hid (Blk.new wr 125 kz)
        have c1 : (((wr.alloc (.cells #[.int .u64 0, .int .i64 0, .int .i64 0, .int .i64 0] 125)).setRow wr.heap.size (kv (kd k)).toArray)).cell? ⟨wr.heap.size, 1, none⟩ = some (.int .i64 ((kd k).w : Int)) := (RN.out.setRow (kv (kd k))).cell 1
        go_wp2_with (first
          | ((with_reducible refine store_blk 125 (.tmp 5) (.tmp 9) wr.heap.size 125 kz (kv (kd k)) rfl rfl ?_ ?_ ?_ ?_ ?_ ?_ ?_); exact RN.out; exact rfl; exact kv_size _; exact kv_one _; exact rfl; exact rfl)
          | ((with_reducible refine load_blk 125 (.tmp 5) wr.heap.size 125 (kv (kd k)) _ rfl rfl ?_ Tryz.underlying125 ?_ ?_ ?_ ?_); exact RN.out.setRow _; exact rfl; exact kv_size _; exact rfl)
          | ((with_reducible refine store_blk 125 (.tmp 2) (.tmp 14) w.heap.size 125 kz (kv (kd k)) rfl rfl ?_ ?_ ?_ ?_ ?_ ?_ ?_); exact (HR.out.alloc _).setRow_far (by omega) _; exact rfl; exact kv_size _; exact kv_one _; exact rfl; exact rfl))
        refine ret_blk2 (p := 2) (u := 3) (ty := 125) rfl rfl w.heap.size 125 (kv (kd k)) _ rfl (((HR.out.alloc _).setRow_far (by omega) _).setRow _) Tryz.underlying125 rfl (kv_size _) (.bool true) rfl ?_
        exact HY.out k _ hlt HE.out (below_setRow (below_setRow (HB.out.alloc HB.out.size _) (by omega) _) (Nat.le_refl _) _)
      · have he2 : (((kd k).w : Int) == n) = false := by rw [beq_eq_false_iff_ne]; exact fun e => he e.symm
        have HE := Lib.hid he
        clear he
        have RN := Lib.hid (Blk.new wr 125 kz)
        have c1 : (((wr.alloc (.cells #[.int .u64 0, .int .i64 0, .int .i64 0, .int .i64 0] 125)).setRow wr.heap.size (kv (kd k)).toArray)).cell? ⟨wr.heap.size, 1, none⟩ = some (.int .i64 ((kd k).w : Int)) := (RN.out.setRow (kv (kd k))).cell 1
        go_wp2_with (first
          | ((with_reducible refine store_blk 125 (.tmp 5) (.tmp 9) wr.heap.size 125 kz (kv (kd k)) rfl rfl ?_ ?_ ?_ ?_ ?_ ?_ ?_); exact RN.out; exact rfl; exact kv_size _; exact kv_one _; exact rfl; exact rfl))
        go_roundw
        case rel =>
          refine ⟨k + 1, by omega, by go_num, fun j hj => ?_, (HR.out.alloc _).setRow_far (by omega) _, below_setRow (HB.out.alloc HB.out.size _) (by omega) _⟩
          rcases Nat.lt_or_ge j k with h | h
          · exact HNK.out j h
          · obtain rfl : j = k := by omega
            exact HE.out
        case measure => simp [intOf]; omega
    · obtain rfl : k = 4 := by omega
      go_wp2_with ((with_reducible refine store_blk 125 (.tmp 2) (.tmp 16) w.heap.size 125 kz kz rfl rfl ?_ ?_ ?_ ?_ ?_ ?_ ?_); exact HR.out; exact rfl; exact kz_size; exact kz_one; exact rfl; exact rfl)
      refine ret_blk2 (p := 2) (u := 3) (ty := 125) rfl rfl w.heap.size 125 kz _ rfl (HR.out.setRow _) Tryz.underlying125 rfl kz_size (.bool false) rfl ?_
      exact HN.out _ HNK.out (below_setRow HB.out (Nat.le_refl _) _)
end Go.Proofs.YtkcjiidimmefdaaGreatDoor
