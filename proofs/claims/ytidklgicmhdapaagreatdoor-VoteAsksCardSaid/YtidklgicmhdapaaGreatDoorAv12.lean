/-
  PACKAGE ots, THE DIGITS
  PACKAGE ots
-/
import Derived.Test.YtidklgicmhdapaaGreatDoorAv11
import Derived.Test.YtidklgicmhdapaaGreatDoorAv10
import Derived.WalkSpells
namespace Go.Proofs.YtidklgicmhdapaaGreatDoor
open Go.RowKit Sh

theorem part_u8 (xs : List Nat) (k : Nat) (hk : k < xs.length) (w : World) : (part 5 (u8s xs).toArray k).run Tryz.prog w = .ok (.int .u8 ((gt xs k : Nat) : Int)) w := by
  have ha : (isAgg 5).run Tryz.prog w = .ok false w := by kernel_rfl
  unfold part
  rw [Sem.run_bind, ha]
  simp [Result.andThen, u8s_get xs k hk]
end Go.Proofs.YtidklgicmhdapaaGreatDoor
namespace Go.Proofs.YtidklgicmhdapaaGreatDoor
open Go Go.RowKit Sh

def ints (l : List Nat) : List Value := l.map fun (n : Nat) => .int .i64 (n : Int)
theorem ints_length (l : List Nat) : (ints l).length = l.length := List.length_map _
theorem ints_each (l : List Nat) : ∀ v ∈ ints l, v.oneCell' = true := fun v hv => by obtain ⟨n, _, rfl⟩ := List.mem_map.1 hv; rfl
theorem ints_get (l : List Nat) (i : Nat) (h : i < l.length) : (ints l)[i]? = some (.int .i64 ((gt l i : Nat) : Int)) := by
  simp [ints, gt, List.getD_eq_getElem?_getD, List.getElem?_eq_getElem h]
end Go.Proofs.YtidklgicmhdapaaGreatDoor
namespace Go.Proofs.YtidklgicmhdapaaGreatDoor
open Go Go.RowKit Sh

theorem kd_p (i : Nat) (hi : i < 4) : (kd i).p ≤ 265 := by
  have : i = 0 ∨ i = 1 ∨ i = 2 ∨ i = 3 := by omega
  rcases this with rfl | rfl | rfl | rfl <;> decide
theorem int_info : (Tryz.prog.info? 3).map (fun i => (i.zero, i.size, i.bytes)) = some (some (.int .i64 0), 1, 8) := by kernel_rfl
theorem size32 (l : List Nat) (h : l.length = 32) : (Tryz.prog.info? 23).map (·.size) = some (u8s l).length := by
  rw [u8s_length, h]
  kernel_rfl
def FreshI (w w' : World) (v : Value) (l : List Nat) : Prop := w'.ownsRow w.heap.size 3 1 v l.length (ints l) ∧ Below w.heap.size w w'
section
variable {P : Program} {ops : Array Oper} {rest : List Oper} {o : Oper} {a : Act} {Q : Exit → Act → World → Prop} {w : World}
theorem append_cells (s x : Operand) (t : TypeId) (hgd : o.guard = none) (ho : o.op = .call { callee := .builtin .append, args := #[s, x], argTypes := #[t, t] })
    (e : TypeId) (z : Value) (bytes : Nat) (ht : P.underlying t = some (.slice e)) (hi : (P.info? e).map (fun i => (i.zero, i.size, i.bytes)) = some (some z, 1, bytes)) (hz : z.cells.size = 1) (base : Nat) (v : Value) (n : Nat) (xs ys : List Value) (hs : a.eval s = v)
    (hown : w.ownsRow base e 1 v n xs) (ad : Addr) (m c : Nat) (hx : a.eval x = .slice (some ad) m c) (hm : ys.length = m) (hp : ∀ j u, ys[j]? = some u → w.cell? (ad.add j) = some u) (h1 : ∀ u ∈ ys, u.oneCell' = true) (h63 : n + m ≤ maxLen) (hb47 : (n + m) * bytes ≤ 140737488355328) (hbase : base ≤ w.heap.size)
    (h : ∀ v' w', Hid (w'.ownsRow base e 1 v' (n + m) (xs ++ ys)) → Hid (w.grownBy w' v.ownBlock) → Hid (v'.ownBlock = v.ownBlock ∨ v'.ownBlock = some w.heap.size) → wpList P ops Q rest (a.put o.dst v') w') : wpList P ops Q (o :: rest) a w := by
  obtain ⟨i, hi', hz', hs', hby⟩ : ∃ i, P.info? e = some i ∧ i.zero = some z ∧ i.size = 1 ∧ i.bytes = bytes := by
    cases hq : P.info? e with
    | none => simp [hq] at hi
    | some i => simp [hq] at hi; exact ⟨i, rfl, hi⟩
  obtain ⟨v', w', hr, h2, h3, _, h5⟩ := run_append_own_at (P := P) w base t o.type e i z 1 bytes ht hi' hz' hs' hby (by simpa using hz) (by omega) v n xs hown ad m c ys (by omega) hp h1 h63 hb47 hbase
  refine wpList_plain hgd fun _ hK => ?_
  unfold Oper.wp execOp
  simp only [ho, resolve, invoke, builtin, Sem.run_bind, Sem.run_pure, Result.andThen_ok, List.map_toArray, List.map_cons, List.map_nil, hs, hx, hr]
  exact hK _ _ (h v' w' (Lib.hid h2) (Lib.hid h3) (Lib.hid h5))
end
set_option maxRecDepth 100000 in
theorem chains_t (n : Int) (w : World) (hk : KI w) (R : Ending → World → Prop)
    (hyes : ∀ i w', i < 4 → n = ((kd i).w : Int) → Below w.heap.size w w' → R (.returned (.int .i64 ((kd i).p : Int))) w')
    (hno : ∀ w', (∀ i, i < 4 → n ≠ ((kd i).w : Int)) → Below w.heap.size w w' → R (.returned (.int .i64 0)) w') : Calls Tryz.prog 79 #[.int .i64 n] w R := by
  have HK := Lib.hid hk; have HY := Lib.hid hyes; have HN := Lib.hid hno
  clear hk hyes hno
  go_enter Tryz.func79, Tryz.ntmps79
  go_wp2_with fail
  refine find_t n w HK.out _ (fun i w1 hi hn b1 => ?_) (fun w1 hn b1 => ?_)
  · have HN' := Lib.hid hn; have B1 := Lib.hid b1; have R1 := Lib.hid (Blk.new w1 121 kz)
    have c1 : ((w1.alloc (.cells #[.int .u64 0, .int .i64 0, .int .i64 0, .int .i64 0] 121)).setRow w1.heap.size (kv (kd i)).toArray).cell? ⟨w1.heap.size, 2, none⟩ = some (.int .i64 ((kd i).p : Int)) := (R1.out.setRow (kv (kd i))).cell 2
    clear hn b1
    go_wp2_with ((with_reducible refine store_blk 121 (.tmp 3) (.tmp 8) w1.heap.size 121 kz (kv (kd i)) rfl rfl ?_ ?_ ?_ ?_ ?_ ?_ ?_); exact R1.out; exact rfl; exact kv_size _; exact kv_one _; exact rfl; exact rfl)
    exact HY.out i _ hi HN'.out (below_setRow (B1.out.alloc B1.out.size _) B1.out.size _)
  · have HN' := Lib.hid hn; have B1 := Lib.hid b1; have R1 := Lib.hid (Blk.new w1 121 kz)
    have c1 : ((w1.alloc (.cells #[.int .u64 0, .int .i64 0, .int .i64 0, .int .i64 0] 121)).setRow w1.heap.size kz.toArray).cell? ⟨w1.heap.size, 2, none⟩ = some (.int .i64 0) := (R1.out.setRow kz).cell 2
    clear hn b1
    go_wp2_with ((with_reducible refine store_blk 121 (.tmp 3) (.tmp 8) w1.heap.size 121 kz kz rfl rfl ?_ ?_ ?_ ?_ ?_ ?_ ?_); exact R1.out; exact rfl; exact kz_size; exact kz_one; exact rfl; exact rfl)
    exact HN.out _ HN'.out (below_setRow (B1.out.alloc B1.out.size _) B1.out.size _)
theorem int_nil_own (w : World) (base : Nat) : w.ownsRow base 3 1 (.slice none 0 0) 0 (ints []) := World.ownsRow_nil _ _ _ _
theorem ints_app (l m : List Nat) : ints (l ++ m) = ints l ++ ints m := List.map_append
def widths (k : Nat) : List Nat := (List.range k).map fun j => (kd j).w
set_option maxRecDepth 100000 in
set_option maxHeartbeats 1000000 in
theorem types_t (w : World) (hk : KI w) : Calls Tryz.prog 77 #[] w fun e w' => ∃ v, e = .returned v ∧ FreshI w w' v [1, 2, 4, 8] := by
  have HK := Lib.hid hk
  clear hk
  go_enter Tryz.func77, Tryz.ntmps77
  go_wp2_with ((with_reducible refine wpList_load_mid rfl 150 (.global 0) rfl 0 0 ?_ kds _ ?_ Tryz.underlying150 ?_ ?_ ?_); exact rfl; exact HK.out.at_; exact rfl; exact kds_size)
  go_loopw [1, 5] (fun v i wr => ∃ k : Nat, k ≤ 4 ∧ i = .int .i64 k ∧ wr.ownsRow w.heap.size 3 1 v k (ints (widths k)) ∧ Below w.heap.size w wr) (fun _ i _ => 4 - (intOf i).toNat)
  case atStart => exact ⟨0, by omega, rfl, int_nil_own _ _, Below.refl _ _⟩
  case round =>
    obtain ⟨k, hk, rfl, ho, hb⟩ := hrel
    have HO := Lib.hid ho; have HB := Lib.hid hb
    have b1 := HB.out.size
    clear ho hb
    by_cases hlt : k < 4
    · have hix := kd_index k hlt
      have RN := Lib.hid (Blk.new wr 121 kz)
      have c1 : (((wr.alloc (.cells #[.int .u64 0, .int .i64 0, .int .i64 0, .int .i64 0] 121)).setRow wr.heap.size (kv (kd k)).toArray)).cell? ⟨wr.heap.size, 1, none⟩ = some (.int .i64 ((kd k).w : Int)) := (RN.out.setRow (kv (kd k))).cell 1
      have BA := Lib.hid (below_setRow ((Below.refl wr.heap.size wr).alloc (Nat.le_refl _) (.cells kz.toArray 121)) (Nat.le_refl _) (kv (kd k)).toArray)
      have BB := Lib.hid ((BA.out).alloc BA.out.size (.cells #[.int .i64 ((kd k).w : Int)] 3))
      go_wp2_with (first
        | ((with_reducible refine store_blk 121 (.tmp 3) (.tmp 7) wr.heap.size 121 kz (kv (kd k)) rfl rfl ?_ ?_ ?_ ?_ ?_ ?_ ?_); exact RN.out; exact rfl; exact kv_size _; exact kv_one _; exact rfl; exact rfl)
        | ((with_reducible refine at_op (.call { callee := .builtin .append, args := #[.tmp 8, .tmp 11], argTypes := #[118, 118] }) rfl ?_); refine append_cells (.tmp 8) (.tmp 11) 118 rfl rfl 3 (.int .i64 0) 8 Tryz.underlying118 int_info rfl w.heap.size _ k _ (ints [(kd k).w]) rfl (own_below HO.out BB.out) ⟨wr.heap.size + 1, 0, none⟩ 1 1 rfl rfl (fun j u hu => by rw [Addr.add_mid, Nat.zero_add, (blk_at (by simp) _ _ (ints [(kd k).w])).cell]; exact hu) (ints_each _) (by unfold maxLen; omega) (by omega) (by simp; omega) ?_; intro v2 w2 a1 a2 a3))
      go_roundw
      case rel =>
        refine ⟨k + 1, by omega, by go_num, ?_, ?_⟩
        · have h := a1.out
          rw [← ints_app] at h
          unfold widths
          rw [List.range_succ, List.map_append]
          exact h
        · exact ((below_setRow (HB.out.alloc HB.out.size _) b1 _).alloc (by simp; omega) _).grown a2.out (by simp; omega) (fun i e => (HO.out.lt i e).1)
      case measure => simp [intOf]; omega
    · obtain rfl : k = 4 := by omega
      go_wp2_with fail
      go_ret
      exact ⟨_, rfl, HO.out, HB.out⟩
end Go.Proofs.YtidklgicmhdapaaGreatDoor
