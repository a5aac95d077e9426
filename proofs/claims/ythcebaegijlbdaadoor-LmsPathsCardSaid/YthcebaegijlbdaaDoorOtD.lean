/-
  PACKAGE ots: Chains, Types, Digits.
-/
import Derived.Test.YthcebaegijlbdaaDoorOtC
import Derived.WalkSpells
namespace Go.Proofs.YthcebaegijlbdaaDoor
open Go Go.RowKit Sh

theorem kd_p (i : Nat) (hi : i < 4) : (kd i).p ≤ 265 := by
  have : i = 0 ∨ i = 1 ∨ i = 2 ∨ i = 3 := by omega
  rcases this with rfl | rfl | rfl | rfl <;> decide
theorem int_info : (Tryd.prog.info? 3).map (fun i => (i.zero, i.size, i.bytes)) = some (some (.int .i64 0), 1, 8) := by kernel_rfl
theorem int_size : (Tryd.prog.info? 3).map (·.size) = some 1 := by kernel_rfl
theorem size32 (l : List Nat) (h : l.length = 32) : (Tryd.prog.info? 24).map (·.size) = some (u8s l).length := by
  rw [u8s_length, h]
  kernel_rfl
/-- A fresh row of ints. -/
def FreshI (w w' : World) (v : Value) (l : List Nat) : Prop := w'.ownsRow w.heap.size 3 1 v l.length (ints l) ∧ Below w.heap.size w w'
theorem blk_cells {w : World} {g : Nat} {t : TypeId} {cs : List Value} (h : Blk w g t cs) {m : Nat} : ∀ j u, (cs.take m)[j]? = some u → w.cell? ((⟨g, 0, none⟩ : Addr).add j) = some u := fun j u hu => by
  rw [Addr.add_mid, Nat.zero_add, h.cell]
  obtain ⟨hj, e⟩ := List.getElem?_eq_some_iff.1 hu
  rw [List.length_take] at hj
  rw [List.getElem_take] at e
  rw [List.getElem?_eq_getElem (by omega), e]
section
variable {P : Program} {ops : Array Oper} {rest : List Oper} {o : Oper} {a : Act} {Q : Exit → Act → World → Prop} {w : World}
/-- append(v, src...) of cells of one element type each of one cell. -/
theorem append_cells (s x : Operand) (t : TypeId) (hgd : o.guard = none) (ho : o.op = .call { callee := .builtin .append, args := #[s, x], argTypes := #[t, t] })
    (e : TypeId) (z : Value) (bytes : Nat) (ht : P.underlying t = some (.slice e)) (hi : (P.info? e).map (fun i => (i.zero, i.size, i.bytes)) = some (some z, 1, bytes)) (hz : z.cells.size = 1) (base : Nat) (v : Value) (n : Nat) (xs ys : List Value) (hs : a.eval s = v)
    (hown : w.ownsRow base e 1 v n xs) (ad : Addr) (m c : Nat) (hx : a.eval x = .slice (some ad) m c) (hm : ys.length = m) (hp : ∀ j u, ys[j]? = some u → w.cell? (ad.add j) = some u) (h1 : ∀ u ∈ ys, u.oneCell' = true) (h63 : n + m ≤ maxLen) (hb47 : (n + m) * bytes ≤ 140737488355328) (hbase : base ≤ w.heap.size)
    (h : ∀ v' w', Hid (w'.ownsRow base e 1 v' (n + m) (xs ++ ys)) → Hid (w.grownBy w' v.ownBlock) → Hid (v'.ownBlock = v.ownBlock ∨ v'.ownBlock = some w.heap.size) → wpList P ops Q rest (a.put o.dst v') w') : wpList P ops Q (o :: rest) a w := by
  obtain ⟨i, hi', hz', hs', hby⟩ : ∃ i, P.info? e = some i ∧ i.zero = some z ∧ i.size = 1 ∧ i.bytes = bytes := by
    cases hq : P.info? e with
    | none => simp [hq] at hi
    | some i => simp [hq] at hi; exact ⟨i, rfl, hi⟩
  obtain ⟨v', w', hr, h2, h3, _, h5⟩ := run_append_own_at (P := P) w base t o.type e i z 1 bytes ht hi' hz' hs' hby (by simpa using hz) (by omega) v n xs hown ad m c ys (by omega) hp h1 h63 hb47 hbase
  refine wpList_plain hgd fun _ hK => ?_
  unfold Oper.wp execOp
  simp only [ho, resolve, invoke, builtin, Sem.run_bind, Sem.run_pure, Result.andThen_ok, List.map_toArray, List.map_cons, List.map_nil, hs, hx, hr]
  exact hK _ _ (h v' w' (Lib.hid h2) (Lib.hid h3) (Lib.hid h5))
end
set_option maxRecDepth 100000 in
theorem chains_t (n : Int) (w : World) (hk : KI w) (R : Ending → World → Prop)
    (hyes : ∀ i w', i < 4 → n = ((kd i).w : Int) → Below w.heap.size w w' → R (.returned (.int .i64 ((kd i).p : Int))) w')
    (hno : ∀ w', (∀ i, i < 4 → n ≠ ((kd i).w : Int)) → Below w.heap.size w w' → R (.returned (.int .i64 0)) w') : Calls Tryd.prog 9 #[.int .i64 n] w R := by
  have HK := Lib.hid hk; have HY := Lib.hid hyes; have HN := Lib.hid hno
  clear hk hyes hno
  go_enter Tryd.func9, Tryd.ntmps9
  go_wp2_with fail
  refine find_t n w HK.out _ (fun i w1 hi hn b1 => ?_) (fun w1 hn b1 => ?_)
  · have HN' := Lib.hid hn; have B1 := Lib.hid b1; have R1 := Lib.hid (Blk.new w1 51 kz)
    have c1 : ((w1.alloc (.cells #[.int .u64 0, .int .i64 0, .int .i64 0, .int .i64 0] 51)).setRow w1.heap.size (kv (kd i)).toArray).cell? ⟨w1.heap.size, 2, none⟩ = some (.int .i64 ((kd i).p : Int)) := (R1.out.setRow (kv (kd i))).cell 2
    clear hn b1
    go_wp2_with ((with_reducible refine store_blk 51 (.tmp 3) (.tmp 8) w1.heap.size 51 kz (kv (kd i)) rfl rfl ?_ ?_ ?_ ?_ ?_ ?_ ?_); exact R1.out; exact rfl; exact kv_size _; exact kv_one _; exact rfl; exact rfl)
    exact HY.out i _ hi HN'.out (below_setRow (B1.out.alloc B1.out.size _) B1.out.size _)
  · have HN' := Lib.hid hn; have B1 := Lib.hid b1; have R1 := Lib.hid (Blk.new w1 51 kz)
    have c1 : ((w1.alloc (.cells #[.int .u64 0, .int .i64 0, .int .i64 0, .int .i64 0] 51)).setRow w1.heap.size kz.toArray).cell? ⟨w1.heap.size, 2, none⟩ = some (.int .i64 0) := (R1.out.setRow kz).cell 2
    clear hn b1
    go_wp2_with ((with_reducible refine store_blk 51 (.tmp 3) (.tmp 8) w1.heap.size 51 kz kz rfl rfl ?_ ?_ ?_ ?_ ?_ ?_ ?_); exact R1.out; exact rfl; exact kz_size; exact kz_one; exact rfl; exact rfl)
    exact HN.out _ HN'.out (below_setRow (B1.out.alloc B1.out.size _) B1.out.size _)
theorem int_nil_own (w : World) (base : Nat) : w.ownsRow base 3 1 (.slice none 0 0) 0 (ints []) := World.ownsRow_nil _ _ _ _
theorem ints_app (l m : List Nat) : ints (l ++ m) = ints l ++ ints m := List.map_append
theorem int_empty (w : World) (base g : Nat) (h : base ≤ w.heap.size) (hg : g = w.heap.size) : (w.alloc (.cells #[] 3)).ownsRow base 3 1 (.slice (some ⟨g, 0, none⟩) 0 0) 0 (ints []) := by
  subst hg
  exact ⟨rfl, .inr ⟨w.heap.size, 0, #[], rfl, h, heap_alloc_new w _, Nat.le_refl _, by decide, rfl, rfl⟩⟩
set_option maxRecDepth 100000 in
theorem clone_t (g : Nat) (t : TypeId) (l : List Nat) (m : Nat) (c : Nat) (w : World) (hg : Blk w g t (ints l)) (hm : m ≤ l.length) (hl : l.length ≤ 1000) :
    Calls Tryd.prog 48 #[.slice (some ⟨g, 0, none⟩) m c] w fun e w' => ∃ v, e = .returned v ∧ FreshI w w' v (l.take m) := by
  have HG := Lib.hid hg; have HL := Lib.hid (show (ints (l.take m)).length = m by rw [ints_length, List.length_take]; omega)
  clear hg
  have hnil : ∀ W, (binOp .eql 45 (.slice (some ⟨g, 0, none⟩) m c) (.slice none 0 0)).run Tryd.prog W = .ok (.bool false) W := fun W => by kernel_rfl
  go_enter Tryd.func48, Tryd.ntmps48
  go_wp2_with ((with_reducible refine at_op (.call { callee := .builtin .append, args := #[.tmp 5, .tmp 6], argTypes := #[45, 45] }) rfl ?_); refine append_cells (.tmp 5) (.tmp 6) 45 rfl rfl 3 (.int .i64 0) 8 Tryd.underlying45 int_info rfl w.heap.size (.slice (some ⟨w.heap.size, 0, none⟩) 0 0) 0 [] (ints (l.take m)) rfl (int_empty w _ _ (Nat.le_refl _) rfl) ⟨g, 0, none⟩ m c rfl HL.out (fun j u hu => blk_cells (HG.out.alloc _) (m := m) j u (by rw [show (ints l).take m = ints (l.take m) from by simp [ints]]; exact hu)) (ints_each _) (by unfold maxLen; omega) (by omega) (by simp) ?_; intro v2 w2 a1 a2 a3)
  go_ret
  refine ⟨v2, rfl, ?_, ?_⟩
  · have h := a1.out
    rw [List.nil_append, Nat.zero_add] at h
    rw [List.length_take, Nat.min_eq_left hm]
    exact h
  · exact ((Below.refl _ _).alloc (Nat.le_refl _) _).grown a2.out (by simp) (fun k e => by simp [Value.ownBlock] at e; omega)
set_option maxRecDepth 100000 in
set_option maxHeartbeats 1000000 in
theorem digitsCall_t (n : Int) (h : List Nat) (w : World) (hl : h.length = 32) (hb : Bytes h) (hk : KI w) (R : Ending → World → Prop)
    (hyes : ∀ i v w', i < 4 → n = ((kd i).w : Int) → FreshI w w' v (digs i h) → R (.returned (.tuple #[v, .int .i64 0])) w')
    (hno : ∀ w', (∀ i, i < 4 → n ≠ ((kd i).w : Int)) → Below w.heap.size w w' → R (.returned (.tuple #[.slice none 0 0, .int .i64 1])) w') : Calls Tryd.prog 19 #[.int .i64 n, .agg (u8s h).toArray] w R := by
  have HK := Lib.hid hk; have HY := Lib.hid hyes; have HN := Lib.hid hno; have HL := Lib.hid hl; have HB := Lib.hid hb
  have B0 := Lib.hid ((Below.refl w.heap.size w).alloc (Nat.le_refl _) (.cells (u8s h).toArray 24))
  have K0 := Lib.hid (hk.kept B0.out)
  have H0 := Lib.hid (Blk.new w 24 (u8s h))
  have hz := (zero_of_info zero265).1
  obtain ⟨Z, hZ⟩ : ∃ Z, List.replicate 265 0 = Z := ⟨_, rfl⟩
  rw [hZ] at hz
  have HZ := Lib.hid hZ
  clear hk hyes hno hl hb hZ
  go_enter Tryd.func19, Tryd.ntmps19
  go_wp2_with fail
  refine find_t n _ K0.out _ (fun i w1 hi hn b1 => ?_) (fun w1 hn b1 => ?_)
  · have HN' := Lib.hid hn; have B1 := Lib.hid (B0.out.trans (b1.mono B0.out.size)); have H1 := Lib.hid (H0.out.below b1 H0.out.lt); have R1 := Lib.hid (Blk.new w1 51 kz)
    clear hn b1
    go_wp2_with (first
      | ((with_reducible refine store_blk 51 (.tmp 6) (.tmp 12) w1.heap.size 51 kz (kv (kd i)) rfl rfl ?_ ?_ ?_ ?_ ?_ ?_ ?_); exact R1.out; exact rfl; exact kv_size _; exact kv_one _; exact rfl; exact rfl)
      | ((with_reducible refine load_blk 51 (.tmp 6) w1.heap.size 51 (kv (kd i)) _ rfl rfl ?_ Tryd.underlying51 ?_ ?_ ?_ ?_); exact R1.out.setRow _; exact rfl; exact kv_size _; exact rfl)
      | ((with_reducible refine load_blk 24 (.tmp 3) w.heap.size 24 (u8s h) _ rfl rfl ?_ Tryd.underlying24 ?_ ?_ ?_ ?_); exact (H1.out.alloc _).setRow_far (by have := H1.out.lt; omega) _; exact rfl; exact size32 _ HL.out; exact rfl))
    have RS := Lib.hid (R1.out.setRow (kv (kd i)))
    have B2 := Lib.hid (below_setRow (B1.out.alloc B1.out.size (.cells kz.toArray 51)) B1.out.size (kv (kd i)).toArray)
    refine (digits_t i hi h _ HL.out HB.out).mono ?_
    rintro e w2 ⟨rfl, b2⟩
    have K2 := Lib.hid (RS.out.below b2 RS.out.lt)
    have B3 := Lib.hid (B2.out.trans (b2.mono B2.out.size))
    clear b2 R1 RS H1 K0 H0 B0 B1 B2
    have hlen : (dv (digN (kd i).w (kd i).ls h) (kd i).p 265).length = 265 := dv_length _ (kd_p i hi)
    obtain ⟨D, hD⟩ : ∃ D, dv (digN (kd i).w (kd i).ls h) (kd i).p 265 = D := ⟨_, rfl⟩
    have htk : D.take (kd i).p = digs i h := by rw [← hD]; unfold dv digs; rw [List.take_append_of_le_length (by simp), List.take_of_length_le (by simp)]
    rw [hD] at hlen ⊢
    have hzl : (ints Z).length = (ints D).length := by rw [ints_length, ints_length, hlen, ← HZ.out, List.length_replicate]
    have HLEN := Lib.hid hlen; have HTK := Lib.hid htk; have HZL := Lib.hid hzl
    have g1 := K2.out.lt
    obtain ⟨gk, hgk⟩ : ∃ g, w1.heap.size = g := ⟨_, rfl⟩
    rw [hgk] at K2 g1 ⊢
    clear hD hlen htk hzl hgk
    obtain ⟨p, hp⟩ : ∃ p, (kd i).p = p := ⟨_, rfl⟩
    have c2 : ((w2.alloc (.cells (ints Z).toArray 63)).setRow w2.heap.size (ints D).toArray).cell? ⟨gk, 2, none⟩ = some (.int .i64 (p : Int)) := by
      rw [← hp]
      exact ((K2.out.alloc _).setRow_far (by omega) _).cell 2
    have hsl := sliceAt_high (P := Tryd.prog) (t := 63) (e := 3) (n := 265) Tryd.underlying63 int_size w2.heap.size 0 .i64 p (by rw [← hp]; exact kd_p i hi)
    have HP := Lib.hid hp
    clear hp
    have D2 := Lib.hid (Blk.new w2 63 (ints Z))
    go_wp2_with ((with_reducible refine store_blk 63 (.tmp 8) (.tmp 18) w2.heap.size 63 (ints Z) (ints D) rfl rfl ?_ ?_ ?_ ?_ ?_ ?_ ?_); exact D2.out; exact HZL.out; exact size265 _ HLEN.out; exact ints_one _; exact rfl; exact rfl)
    clear hsl c2
    refine (clone_t w2.heap.size 63 D p 265 _ (D2.out.setRow (ints D)) (by rw [HLEN.out, ← HP.out]; exact kd_p i hi) (by rw [HLEN.out]; omega)).mono ?_
    rintro e w3 ⟨v, rfl, o3, b3⟩
    rw [← HP.out, HTK.out] at o3
    have O3 := Lib.hid o3; have B4 := Lib.hid b3
    clear o3 b3
    go_wp2_with fail
    have b4 := below_setRow (B3.out.alloc B3.out.size (.cells (ints Z).toArray 63)) B3.out.size (ints D).toArray
    exact HY.out i v _ hi HN'.out ⟨own_base O3.out (fun k e => Nat.le_trans b4.size (O3.out.lt k e).1), b4.trans (B4.out.mono b4.size)⟩
  · have HN' := Lib.hid hn; have B1 := Lib.hid (B0.out.trans (b1.mono B0.out.size)); have R1 := Lib.hid (Blk.new w1 51 kz)
    clear hn b1
    go_wp2_with ((with_reducible refine store_blk 51 (.tmp 6) (.tmp 12) w1.heap.size 51 kz kz rfl rfl ?_ ?_ ?_ ?_ ?_ ?_ ?_); exact R1.out; exact rfl; exact kz_size; exact kz_one; exact rfl; exact rfl)
    exact HN.out _ HN'.out (below_setRow (B1.out.alloc B1.out.size _) B1.out.size _)
def widths (k : Nat) : List Nat := (List.range k).map fun j => (kd j).w
set_option maxRecDepth 100000 in
set_option maxHeartbeats 1000000 in
theorem types_t (w : World) (hk : KI w) : Calls Tryd.prog 18 #[] w fun e w' => ∃ v, e = .returned v ∧ FreshI w w' v [1, 2, 4, 8] := by
  have HK := Lib.hid hk
  clear hk
  go_enter Tryd.func18, Tryd.ntmps18
  go_wp2_with ((with_reducible refine wpList_load_mid rfl 97 (.global 0) rfl 0 0 ?_ kds _ ?_ Tryd.underlying97 ?_ ?_ ?_); exact rfl; exact HK.out.at_; exact rfl; exact kds_size)
  go_loopw [1, 5] (fun v i wr => ∃ k : Nat, k ≤ 4 ∧ i = .int .i64 k ∧ wr.ownsRow w.heap.size 3 1 v k (ints (widths k)) ∧ Below w.heap.size w wr) (fun _ i _ => 4 - (intOf i).toNat)
  case atStart => exact ⟨0, by omega, rfl, int_nil_own _ _, Below.refl _ _⟩
  case round =>
    obtain ⟨k, hk, rfl, ho, hb⟩ := hrel
    have HO := Lib.hid ho; have HB := Lib.hid hb
    have b1 := HB.out.size
    clear ho hb
    by_cases hlt : k < 4
    · have hix := kd_index k hlt
      have RN := Lib.hid (Blk.new wr 51 kz)
      have c1 : (((wr.alloc (.cells #[.int .u64 0, .int .i64 0, .int .i64 0, .int .i64 0] 51)).setRow wr.heap.size (kv (kd k)).toArray)).cell? ⟨wr.heap.size, 1, none⟩ = some (.int .i64 ((kd k).w : Int)) := (RN.out.setRow (kv (kd k))).cell 1
      have BA := Lib.hid (below_setRow ((Below.refl wr.heap.size wr).alloc (Nat.le_refl _) (.cells kz.toArray 51)) (Nat.le_refl _) (kv (kd k)).toArray)
      have BB := Lib.hid ((BA.out).alloc BA.out.size (.cells #[.int .i64 ((kd k).w : Int)] 3))
      go_wp2_with (first
        | ((with_reducible refine store_blk 51 (.tmp 3) (.tmp 7) wr.heap.size 51 kz (kv (kd k)) rfl rfl ?_ ?_ ?_ ?_ ?_ ?_ ?_); exact RN.out; exact rfl; exact kv_size _; exact kv_one _; exact rfl; exact rfl)
        | ((with_reducible refine at_op (.call { callee := .builtin .append, args := #[.tmp 8, .tmp 11], argTypes := #[45, 45] }) rfl ?_); refine append_cells (.tmp 8) (.tmp 11) 45 rfl rfl 3 (.int .i64 0) 8 Tryd.underlying45 int_info rfl w.heap.size _ k _ (ints [(kd k).w]) rfl (own_below HO.out BB.out) ⟨wr.heap.size + 1, 0, none⟩ 1 1 rfl rfl (fun j u hu => by rw [Addr.add_mid, Nat.zero_add, (blk_at (by simp) _ _ (ints [(kd k).w])).cell]; exact hu) (ints_each _) (by unfold maxLen; omega) (by omega) (by simp; omega) ?_; intro v2 w2 a1 a2 a3))
      go_roundw
      case rel =>
        refine ⟨k + 1, by omega, by go_num, ?_, ?_⟩
        · have h := a1.out
          rw [← ints_app] at h
          unfold widths
          rw [List.range_succ, List.map_append]
          exact h
        · exact ((below_setRow (HB.out.alloc HB.out.size _) b1 _).alloc (by simp; omega) _).grown a2.out (by simp; omega) (fun i e => (HO.out.lt i e).1)
      case measure => simp [intOf]; omega
    · obtain rfl : k = 4 := by omega
      go_wp2_with fail
      go_ret
      exact ⟨_, rfl, HO.out, HB.out⟩
end Go.Proofs.YthcebaegijlbdaaDoor
