/-
  ShaPieces walked.
-/
import Derived.Test.YtahmfbhiaoacgaaDoorCopies
import Derived.Test.YtahmfbhiaoacgaaDoorTexts
import Derived.Lib.AppendStr
namespace Go.Proofs.YtahmfbhiaoacgaaDoor
open Go.RowKit Sh

/-- The pieces from the first to the k-th, one behind the other. -/
def catX (X : Nat → List Nat) : Nat → List Nat
  | 0 => []
  | k + 1 => catX X k ++ X k
def cpy : List Nat := [99, 111, 112, 121]
theorem catX_len (X : Nat → List Nat) : ∀ k, (∀ r, r < k → (X r).length ≤ 200) → (catX X k).length ≤ 200 * k := by
  intro k
  induction k with
  | zero => intro _; simp [catX]
  | succ k ih =>
    intro hk
    have h1 := ih fun r hr => hk r (by omega)
    have h2 := hk k (by omega)
    simp only [catX, List.length_append]
    omega
theorem catX_bytes (X : Nat → List Nat) : ∀ k, (∀ r, r < k → Bytes (X r)) → Bytes (catX X k) := by
  intro k
  induction k with
  | zero => intro _; exact nil_bytes
  | succ k ih => intro hk; exact app_bytes (ih fun r hr => hk r (by omega)) (hk k (by omega))
theorem catX_take (X : Nat → List Nat) (k : Nat) : ∀ n, k ≤ n → (catX X n).take (catX X k).length = catX X k ∧ (catX X k).length ≤ (catX X n).length := by
  intro n
  induction n with
  | zero =>
    intro h
    have e : k = 0 := by omega
    subst e
    simp [catX]
  | succ n ih =>
    intro h
    by_cases e : k = n + 1
    · subst e; exact ⟨List.take_length, Nat.le_refl _⟩
    · obtain ⟨h1, h2⟩ := ih (by omega)
      refine ⟨?_, by simp only [catX, List.length_append]; omega⟩
      show (catX X n ++ X n).take _ = _
      rw [List.take_append_of_le_length h2, h1]
/-- The copy: none yet, or made at the k-th piece. -/
def Cop (w0 w : World) (X : Nat → List Nat) (k j : Nat) (c f : Value) : Prop :=
  (j ≤ k ∧ c = .pointer none ∧ f = .int .i64 0) ∨ (k < j ∧ ∃ gc s r, c = .pointer (some ⟨gc, 0, none⟩) ∧ f = .int .i64 ((catX X k).length : Nat) ∧ Dig w gc (catX X k ++ cpy) s r ∧ w0.heap.size < gc)
section
variable {w0 w w' : World} {X : Nat → List Nat} {k j : Nat} {c f : Value}
theorem Cop.below (h : Cop w0 w X k j c f) (hb : Below w.heap.size w w') : Cop w0 w' X k j c f := by
  rcases h with h | ⟨h, gc, s, r, e1, e2, d, hg⟩
  · exact .inl h
  · exact .inr ⟨h, gc, s, r, e1, e2, d.below hb d.blk.lt, hg⟩
theorem Cop.but (h : Cop w0 w X k j c f) (hb : But w.heap.size w0.heap.size w w') : Cop w0 w' X k j c f := by
  rcases h with h | ⟨h, gc, s, r, e1, e2, d, hg⟩
  · exact .inl h
  · exact .inr ⟨h, gc, s, r, e1, e2, d.but hb (by omega), hg⟩
theorem Cop.grown {base n : Nat} {v : Value} {xs : List Value} (h : Cop w0 w X k j c f) (ho : w.ownsRow base 5 1 v n xs) (hb : w.grownBy w' v.ownBlock) : Cop w0 w' X k j c f := by
  rcases h with h | ⟨h, gc, s, r, e1, e2, d, hg⟩
  · exact .inl h
  · exact .inr ⟨h, gc, s, r, e1, e2, d.grown hb (own_apart ho d.blk (by decide)), hg⟩
end
theorem Cop.last {w0 w : World} {X : Nat → List Nat} {k n : Nat} {c f : Value} (h : Cop w0 w X k (n + 1) c f) (hk : k ≤ n) (hX : ∀ r, r < n → Bytes (X r)) :
    ∃ gc s r Z fz, Z.length = fz ∧ (catX X n).take fz = Z ∧ fz ≤ (catX X n).length ∧ Bytes Z ∧ c = .pointer (some ⟨gc, 0, none⟩) ∧ f = .int .i64 (fz : Nat) ∧ Dig w gc (Z ++ cpy) s r ∧ w0.heap.size < gc := by
  rcases h with ⟨h, _⟩ | ⟨_, gc, s, r, e1, e2, d, hg⟩
  · omega
  · obtain ⟨h1, h2⟩ := catX_take X k n hk
    exact ⟨gc, s, r, catX X k, _, rfl, h1, h2, catX_bytes X k fun q hq => hX q (by omega), e1, e2, d, hg⟩
theorem But.kept {g : Nat} {w w' : World} (h : But w.heap.size g w w') : Kept (fun q => q = g) w w' := ⟨h.os, h.tape, h.output, h.size, fun k hk hf => h.block k hk hf⟩
theorem own_but {w w' : World} {base g n : Nat} {v : Value} {xs cs : List Value} {t : TypeId} (ho : w.ownsRow base 5 1 v n xs) (hg : Blk w g t cs) (ht : 5 ≠ t) (hb : But w.heap.size g w w') : w'.ownsRow base 5 1 v n xs :=
  own_kept ho (But.kept hb) fun q e hq => by subst hq; exact own_apart ho hg ht e
theorem equal_same (xs : List Nat) (hx : xs.length = 32) (w : World) : (Op.equalIn 10000 25 (.agg (u8s xs).toArray) (.agg (u8s xs).toArray)).run Tryd.prog w = .ok true w := equalIn_same 9998 xs hx w
section
variable {P : Program} {o : Oper} {a : Act} {Q : Exit → Act → World → Prop} {w : World}
theorem wp_append_str {K : Act → World → Prop} (s x : Operand) (t u : TypeId) (ho : o.op = .call { callee := .builtin .append, args := #[s, x], argTypes := #[t, u] })
    (e : TypeId) (ht : P.underlying t = some (.slice e)) (hu : P.underlying u = some .string) (hi : (P.info? e).map (fun i => (i.zero, i.size, i.bytes)) = some (some (.int .u8 0), 1, 1)) (base : Nat) (v : Value) (n m : Nat) (xs ys : List Nat) (hs : a.eval s = v)
    (hown : w.ownsRow base e 1 v n (u8s xs)) (b : ByteArray) (hx : a.eval x = .string b) (hy : Lib.strCells b = u8s ys) (hm : b.size = m) (h63 : n + m ≤ 70368744177664) (hbase : base ≤ w.heap.size)
    (h : ∀ v' w', Hid (w'.ownsRow base e 1 v' (n + m) (u8s (xs ++ ys))) → Hid (w.grownBy w' v.ownBlock) → K (a.put o.dst v') w') : o.wp P a w K Q := by
  obtain ⟨i, hi', hz, hsz, hby⟩ : ∃ i, P.info? e = some i ∧ i.zero = some (.int .u8 0) ∧ i.size = 1 ∧ i.bytes = 1 := by
    cases hq : P.info? e with
    | none => simp [hq] at hi
    | some i => simp [hq] at hi; exact ⟨i, rfl, hi⟩
  subst hm
  obtain ⟨v', w', hr, h2, h3, _⟩ := Lib.run_append_own_string (P := P) w base t u o.type e i ht hu hi' hz hsz hby v n (u8s xs) hown b (by simp only [maxLen]; omega) (by omega) hbase
  unfold Oper.wp execOp
  simp only [ho, resolve, invoke, builtin, Sem.run_bind, Sem.run_pure, Result.andThen_ok, List.map_toArray, List.map_cons, List.map_nil, hs, hx, hr]
  exact h v' w' (Lib.hid (by rw [u8s_app, ← hy]; exact h2)) (Lib.hid h3)
end
set_option maxRecDepth 100000 in
set_option maxHeartbeats 2000000 in
theorem pieces_t (p : Option Addr) (n c : Nat) (a : Int) (A : Nat → Option Addr) (L C : Nat → Nat) (X : Nat → List Nat) (w : World) (h : Texts w p n A L C X) (hn1 : n ≤ 9223372036854775807) (hk : KAt w) :
    Calls Tryd.prog 5 #[.slice p n c, .int .i64 a] w fun e w' => e = .returned (.bool true) ∧ Below w.heap.size w w' := by
  have H := Lib.hid h; have HK := Lib.hid hk; have HKL := Lib.hid hk.lt
  have hb0 : Below w.heap.size w (w.alloc (.cells DZ.toArray 46)) := (Below.refl _ _).alloc (Nat.le_refl _) _
  have HB0 := Lib.hid hb0
  have HD0 := Lib.hid (Dig.zero (Blk.new w 46 DZ))
  clear h hk hb0
  by_cases hbig : 20 < n
  · have fin : ∀ W, W = w.alloc (.cells DZ.toArray 46) → Calls Tryd.prog 9 #[] W fun e w' => e = .returned (.bool true) ∧ Below w.heap.size w w' := fun W hW => by
      subst hW
      refine (told_t _ (HK.out.below HB0.out HKL.out)).mono ?_
      rintro e w2 ⟨rfl, b2⟩
      exact ⟨rfl, HB0.out.trans (b2.mono HB0.out.size)⟩
    have FIN := Lib.hid fin
    clear fin
    go_enter Tryd.func5, Tryd.ntmps5
    go_wp2_with (first
      | (go_at_call 14; refine (new_t w).mono ?_; rintro e w1 ⟨rfl, hw⟩; have F1 := Lib.hid (FIN.out w1 hw); clear hw)
      | (go_at_call 9; refine (F1.out).mono ?_; rintro e w2 ⟨rfl, b2⟩))
    go_ret
    exact ⟨rfl, b2⟩
  · have hn20 : n ≤ 20 := by omega
    clear hbig
    obtain ⟨k, hkn, hka⟩ := cut_at n a (by omega)
    have HKA := Lib.hid hka
    clear hka
    go_enter Tryd.func5, Tryd.ntmps5
    go_wp2_with fail
    refine (new_t w).mono ?_
    rintro e w1 ⟨rfl, hw⟩
    rw [← hw] at HB0 HD0
    clear hw
    go_wp2_with fail
    rw [HKA.out]
    clear HKA
    go_loopw [7, 8, 9, 10] (fun al cp f i wr => ∃ (j m : Nat) (AA : Option Addr) (ca : Nat) (s : S8) (r : List Nat), j ≤ n ∧ i = .int .i64 j ∧ m = (catX X j).length ∧ al = .slice AA m ca ∧ wr.ownsRow w.heap.size 5 1 al m (u8s (catX X j)) ∧ Dig wr w.heap.size (catX X j) s r ∧ Cop w wr X k j cp f ∧ Below w.heap.size w wr ∧ ∀ q, q < j → (X q).length ≤ 200) (fun _ _ _ i _ => n + 1 - (intOf i).toNat)
    case atStart => exact ⟨0, 0, none, 0, _, _, by omega, rfl, rfl, rfl, nil_own _ _, HD0.out, .inl ⟨by omega, rfl, rfl⟩, HB0.out, fun q hq => by omega⟩
    case round =>
      clear HB0 HD0
      obtain ⟨j, m, AA, ca, s, r, hj, rfl, hm, rfl, ho, hd, hc, hb, hs⟩ := hrel
      have hcl := catX_len X j hs
      have hcb := catX_bytes X j fun q hq => H.out.bytes q (by omega)
      have im : m ≤ 4000 := by rw [hm]; omega
      have i0 : (j : Int) ≤ (n : Int) := by omega
      have i1 : (n : Int) ≤ 20 := by omega
      have HM := Lib.hid hm; have HO := Lib.hid ho; have HD := Lib.hid hd; have HC := Lib.hid hc; have HB := Lib.hid hb; have HS := Lib.hid hs; have HCB := Lib.hid hcb
      clear hm ho hd hc hb hs hcb hcl
      by_cases hjk : j = k
      have hc0 : u8 = .pointer none ∧ u9 = .int .i64 0 := by
        rcases HC.out with ⟨_, e8, e9⟩ | ⟨hl, _⟩
        · exact ⟨e8, e9⟩
        · omega
      obtain ⟨rfl, rfl⟩ := hc0
      subst hjk
      focus go_wp2_with fail
      refine (copy_t w.heap.size s r _ wr HD.out).mono ?_
      rintro e wx ⟨rfl, hx, bx, _⟩
      have Xx := Lib.hid hx; have Dx := Lib.hid (HD.out.below bx HD.out.blk.lt); have Ox := Lib.hid (own_below HO.out bx); have Bx := Lib.hid (HB.out.trans (bx.mono HB.out.size))
      have gl : w.heap.size < wr.heap.size := HD.out.blk.lt
      obtain ⟨gc, hgc⟩ : ∃ g, wr.heap.size = g := ⟨_, rfl⟩
      rw [hgc] at Xx gl ⊢
      clear hx bx HD HO HB HC hgc
      have he := equal_same (sum (catX X j)) (sum_length _)
      obtain ⟨S, hS⟩ : ∃ x, sum (catX X j) = x := ⟨_, rfl⟩
      rw [hS] at he
      have HSS := Lib.hid hS; have HE := Lib.hid he
      clear hS he
      focus go_wp2_with fail
      refine (dsum_t gc s r _ wx Xx.out (by rw [← HM.out]; omega) (HK.out.below Bx.out HKL.out)).mono ?_
      rintro e wy ⟨rfl, bx⟩
      rw [HSS.out]
      have Xy := Lib.hid (Xx.out.below bx Xx.out.blk.lt); have Dy := Lib.hid (Dx.out.below bx Dx.out.blk.lt); have Oy := Lib.hid (own_below Ox.out bx); have By := Lib.hid (Bx.out.trans (bx.mono Bx.out.size))
      clear bx Xx Dx Ox Bx
      focus go_wp2_with fail
      refine (dsum_t w.heap.size s r _ wy Dy.out (by rw [← HM.out]; omega) (HK.out.below By.out HKL.out)).mono ?_
      rintro e wz ⟨rfl, bx⟩
      rw [HSS.out]
      have Xz := Lib.hid (Xy.out.below bx Xy.out.blk.lt); have Dz := Lib.hid (Dy.out.below bx Dy.out.blk.lt); have Oz := Lib.hid (own_below Oy.out bx); have Bz := Lib.hid (By.out.trans (bx.mono By.out.size))
      clear bx Xy Dy Oy By
      have he := HE.out
      have kc := fun (w : World) (C : Array Value) (n c : Nat) => Lib.run_convert_bytes_const (P := Tryd.prog) w 22 5 C n c Tryd.underlying22 Tryd.underlying5
      focus go_wp2_with fail
      clear he HE HSS kc
      have hcs : wz.heap.size < (wz.alloc (.cells (u8s cpy).toArray 5 (4, 5))).heap.size := by simp
      have ba : Below wz.heap.size wz (wz.alloc (.cells (u8s cpy).toArray 5 (4, 5))) := (Below.refl _ _).alloc (Nat.le_refl _) _
      have wl : w.heap.size < wz.heap.size := Dz.out.blk.lt
      have gcl : gc < wz.heap.size := Xz.out.blk.lt
      refine (write_u w.heap.size gc s r _ cpy (some ⟨wz.heap.size, 0, none⟩) 4 _ (wz.alloc (.cells (u8s cpy).toArray 5 (4, 5))) (Xz.out.below ba gcl) (bytes_of (by decide)) (Sl.made cpy 5 (4, 5) hcs (by omega)) rfl (by decide) (by rw [← HM.out]; omega) (HK.out.below (Bz.out.trans (ba.mono Bz.out.size)) HKL.out) (by omega) HKL.out).mono ?_
      rintro e wq ⟨rfl, ⟨s9, r9, hx⟩, kx, bx⟩
      have HD := Lib.hid ((Dz.out.below ba wl).but kx (by omega)); have HO := Lib.hid (own_but (own_below Oz.out ba) (Xz.out.below ba gcl).blk (by decide) kx); have HB := Lib.hid ((Bz.out.trans (ba.mono Bz.out.size)).trans bx)
      obtain ⟨u8, h8⟩ : ∃ x, Value.pointer (some ⟨gc, 0, none⟩) = x := ⟨_, rfl⟩
      obtain ⟨u9, h9⟩ : ∃ x, Value.int .i64 (m : Int) = x := ⟨_, rfl⟩
      have hc1 : Cop w wq X j (j + 1) u8 u9 := .inr ⟨by omega, gc, s9, r9, h8.symm, by rw [← h9, HM.out], hx, gl⟩
      have HC := Lib.hid hc1
      rw [h8, h9]
      clear hx kx bx ba wl gcl hcs h8 h9 hc1 Xz Dz Oz Bz gl
      rename World => wr
      rotate_left 1
      have hc1 : Cop w wr X k (j + 1) u8 u9 := by
        rcases HC.out with ⟨_, e⟩ | ⟨_, e⟩
        · exact .inl ⟨by omega, e⟩
        · exact .inr ⟨by omega, e⟩
      clear HC
      have HC := Lib.hid hc1
      clear hc1
      all_goals
        by_cases hjn : j < n
        · obtain ⟨bb, oo, rfl, hbl, hcw⟩ := H.out.cell j hjn
          have HCW := Lib.hid hcw
          have hc := (HB.out.cell (p := ⟨bb, oo + j, none⟩) hbl).trans hcw
          clear hcw
          have i2 : (j : Int) < (n : Int) := by omega
          have i3 : ((j : Int) == (n : Int)) = false := beq_eq_false_iff_ne.2 (by omega)
          have hxl := H.out.len j hjn
          have HXL := Lib.hid hxl
          by_cases h200 : 200 < L j
          · have h201 : (200 : Int) < (L j : Int) := by omega
            clear hxl
            go_wp2_with (go_at_call 9; refine (told_t _ (HK.out.below HB.out HKL.out)).mono ?_; rintro e w2 ⟨rfl, b2⟩)
            go_ret
            exact ⟨rfl, HB.out.trans (b2.mono HB.out.size)⟩
          · have h201 : (L j : Int) ≤ 200 := by omega
            clear hxl
            go_wp2_with fail
            refine (write_u w.heap.size w.heap.size s r _ (X j) (A j) (L j) (C j) wr HD.out (H.out.bytes j hjn) (Sl.old (H.out.reads j hjn) HB.out (Nat.le_refl _)) HXL.out (H.out.cap j hjn) (by rw [← HM.out]; omega) (HK.out.below HB.out HKL.out) (Nat.le_refl _) HKL.out).mono ?_
            rintro e wx ⟨rfl, ⟨s2, r2, hd⟩, kx, bx⟩
            have Dx := Lib.hid hd; have Ox := Lib.hid (own_but HO.out HD.out.blk (by decide) kx); have Cx := Lib.hid (HC.out.but kx); have Bx := Lib.hid (HB.out.trans bx)
            clear hd kx bx HD HO HC HB hc
            have hc := (Bx.out.cell (p := ⟨bb, oo + j, none⟩) hbl).trans HCW.out
            go_wp2_with ((with_reducible refine at_op (.call { callee := .builtin .append, args := #[.tmp 69, .tmp 73], argTypes := #[22, 22] }) rfl ?_); refine append_bytes (.tmp 69) (.tmp 73) 22 rfl rfl 5 Tryd.underlying22 byte_info w.heap.size (.slice AA m ca) m (catX X j) (X j) rfl Ox.out (A j) (L j) (C j) rfl HXL.out ((H.out.reads j hjn).below Bx.out) (by omega) Bx.out.size ?_; intro v1 wn a1 a2 a3; obtain ⟨A7, c7, rfl, hc7⟩ := own_form a1.out; have hn7 : m + L j ≤ c7 := hc7; clear hc hc7)
            have Dn := Lib.hid (show Dig wn w.heap.size (catX X (j + 1)) s2 r2 from Dx.out.grown a2.out (own_apart Ox.out Dx.out.blk (by decide))); have Cn := Lib.hid (Cx.out.grown Ox.out a2.out); have Bn := Lib.hid (Bx.out.grown a2.out Bx.out.size (fun q e => (Ox.out.lt q e).1))
            have On := Lib.hid (show wn.ownsRow w.heap.size 5 1 (.slice A7 (m + L j) c7) (m + L j) (u8s (catX X (j + 1))) from a1.out)
            have hml : (catX X (j + 1)).length = m + L j := by show (catX X j ++ X j).length = _; rw [List.length_append, ← HM.out, HXL.out]
            have HML := Lib.hid hml
            have HBY := Lib.hid (show Bytes (catX X (j + 1)) from app_bytes HCB.out (H.out.bytes j hjn))
            clear a1 a2 a3 Dx Cx Bx Ox hml
            have he := equal_same (sum (catX X (j + 1))) (sum_length _)
            obtain ⟨S7, hS⟩ : ∃ x, sum (catX X (j + 1)) = x := ⟨_, rfl⟩
            rw [hS] at he
            have HSS := Lib.hid hS; have HE := Lib.hid he
            clear hS he
            refine (dsum_t w.heap.size s2 r2 _ wn Dn.out (by rw [HML.out]; omega) (HK.out.below Bn.out HKL.out)).mono ?_
            rintro e wy ⟨rfl, bx⟩
            rw [HSS.out]
            have Dy := Lib.hid (Dn.out.below bx Dn.out.blk.lt); have Oy := Lib.hid (own_below On.out bx); have Cy := Lib.hid (Cn.out.below bx); have By := Lib.hid (Bn.out.trans (bx.mono Bn.out.size))
            clear bx Dn On Cn Bn
            go_wp2_with fail
            refine (sum_u (catX X (j + 1)) A7 (m + L j) c7 wy HBY.out (Sr.of_own Oy.out) HML.out hn7 (by omega) (HK.out.below By.out HKL.out)).mono ?_
            rintro e wz ⟨rfl, bx⟩
            rw [HSS.out]
            have Dz := Lib.hid (Dy.out.below bx Dy.out.blk.lt); have Oz := Lib.hid (own_below Oy.out bx); have Cz := Lib.hid (Cy.out.below bx); have Bz := Lib.hid (By.out.trans (bx.mono By.out.size))
            clear bx Dy Oy Cy By
            have he := HE.out
            go_wp2_with fail
            clear he
            go_roundw
            case rel => exact ⟨j + 1, m + L j, A7, c7, s2, r2, by omega, by go_num, HML.out.symm, rfl, Oz.out, Dz.out, Cz.out, Bz.out, fun q hq => by
              by_cases e : q = j
              · subst e; rw [HXL.out]; omega
              · exact HS.out q (by omega)⟩
            case measure => simp [intOf]; omega
        · have e2 : j = n := by omega
          subst e2
          obtain ⟨gc, s3, r3, Z, fz, hfz, hzt, hzm, hzb, rfl, rfl, hx, hgl⟩ := HC.out.last hkn H.out.bytes
          have i3 : ((j : Int) == (j : Int)) = true := beq_self_eq_true _
          have XX := Lib.hid hx
          have hca : m ≤ ca := by
            obtain ⟨_, c', e, hc'⟩ := own_form HO.out
            injection e with _ _ e
            omega
          have hfm : fz ≤ m := by rw [HM.out]; exact hzm
          have ZS := Lib.hid (show Sr wr AA Z from by
            have h := (Sr.of_own HO.out).tk fz
            rw [hzt] at h
            exact h)
          have hZL : (Z ++ cpy).length = fz + 4 := by rw [List.length_append, hfz]; rfl
          have HZL := Lib.hid hZL; have HFZ := Lib.hid hfz; have HZB := Lib.hid (app_bytes hzb (bytes_of (l := cpy) (by decide)))
          have hs1 := slice_high (P := Tryd.prog) (t := 22) (e := 5) Tryd.underlying22 byte_size AA m ca .i64 fz (by omega)
          have HS1' := Lib.hid hs1
          clear hs1 hx hZL hfz hzt hzm hzb HC
          go_wp2_with fail
          clear i3
          have hs1 := HS1'.out
          clear HS1'
          have he1 := eql_same (sum (catX X j)) (sum_length _)
          have he2 := eql_same (sum (Z ++ cpy)) (sum_length _)
          obtain ⟨S1, hS1⟩ : ∃ x, sum (catX X j) = x := ⟨_, rfl⟩
          obtain ⟨S2, hS2⟩ : ∃ x, sum (Z ++ cpy) = x := ⟨_, rfl⟩
          rw [hS1] at he1
          rw [hS2] at he2
          have HS1 := Lib.hid hS1; have HS2 := Lib.hid hS2
          clear hS1 hS2
          have TT : True := trivial
          refine wp_region_held (S := fun _ => True) (by kernel_rfl) ?_
          change wpAnyH _ _ _ _ _ _ _ _ wr.drew
          refine wpAnyH_ready (rs := [0]) (by kernel_rfl) (by simp) ?_
          refine AllReadyH.cons rfl (fun K hK => ?_) AllReadyH.nil
          go_simp
          refine (told_t wr.drew (HK.out.below HB.out.drew HKL.out)).mono ?_
          rintro e w7 ⟨rfl, b7'⟩
          have b7 : Below wr.heap.size wr w7 := (Below.drew (Below.refl _ _)).trans b7'
          clear b7'
          have D7 := Lib.hid (HD.out.below b7 HD.out.blk.lt); have X7 := Lib.hid (XX.out.below b7 XX.out.blk.lt); have Z7 := Lib.hid (ZS.out.below b7); have B7 := Lib.hid (HB.out.trans (b7.mono HB.out.size)); clear b7 HD XX ZS HB HO
          refine hK.out _ _ TT (fun _ => ?_)
          clear hK K
          refine wpAnyH_take (i := 1) (v := ?_) rfl (by kernel_rfl) (by kernel_rfl) (by kernel_rfl) (fun _ _ _ h => h) (Or.inl ⟨by kernel_rfl, ?_⟩) TT ?_
          rotate_left 1
          · (intro w hS; go_simp; try (with_reducible rfl))
          refine wpAnyH_take (i := 2) (v := ?_) rfl (by kernel_rfl) (by kernel_rfl) (by kernel_rfl) (fun _ _ _ h => h) (Or.inl ⟨by kernel_rfl, ?_⟩) TT ?_
          rotate_left 1
          · (intro w hS; go_simp; try (with_reducible rfl))
          refine wpAnyH_take (i := 4) (v := ?_) rfl (by kernel_rfl) (by kernel_rfl) (by kernel_rfl) (fun _ _ _ h => h) (Or.inl ⟨by kernel_rfl, ?_⟩) TT ?_
          rotate_left 1
          · (intro w hS; go_simp; try (with_reducible rfl))
          refine wpAnyH_ready (rs := [3]) (by kernel_rfl) (by simp) ?_
          refine AllReadyH.cons rfl (fun K hK => ?_) AllReadyH.nil
          go_simp
          refine (dsum_t w.heap.size s r _ w7 D7.out (by rw [← HM.out]; omega) (HK.out.below B7.out HKL.out)).mono ?_
          rintro e w8 ⟨rfl, b8⟩
          rw [HS1.out]
          have D8 := Lib.hid (D7.out.below b8 D7.out.blk.lt); have X8 := Lib.hid (X7.out.below b8 X7.out.blk.lt); have Z8 := Lib.hid (Z7.out.below b8); have B8 := Lib.hid (B7.out.trans (b8.mono B7.out.size)); clear b8 D7 X7 Z7 B7
          refine hK.out _ _ TT (fun _ => ?_)
          clear hK K
          refine wpAnyH_ready (rs := [5]) (by kernel_rfl) (by simp) ?_
          refine AllReadyH.cons rfl (fun K hK => ?_) AllReadyH.nil
          go_simp
          refine (dsum_t w.heap.size s r _ w8 D8.out (by rw [← HM.out]; omega) (HK.out.below B8.out HKL.out)).mono ?_
          rintro e w9 ⟨rfl, b9⟩
          rw [HS1.out]
          have X9 := Lib.hid (X8.out.below b9 X8.out.blk.lt); have Z9 := Lib.hid (Z8.out.below b9); have B9 := Lib.hid (B8.out.trans (b9.mono B8.out.size)); clear b9 D8 X8 Z8 B8
          refine hK.out _ _ TT (fun _ => ?_)
          clear hK K
          refine wpAnyH_take (i := 6) (v := ?_) rfl (by kernel_rfl) (by kernel_rfl) (by kernel_rfl) (fun _ _ _ h => h) (Or.inl ⟨by kernel_rfl, ?_⟩) TT ?_
          rotate_left 1
          · (intro w hS; go_simp; try (with_reducible rfl))
          refine wpAnyH_take (i := 7) (v := ?_) rfl (by kernel_rfl) (by kernel_rfl) (by kernel_rfl) (fun _ _ _ h => h) (Or.inl ⟨by kernel_rfl, ?_⟩) TT ?_
          rotate_left 1
          · (intro w hS; go_simp; try (with_reducible rfl))
          refine wpAnyH_take (i := 8) (v := ?_) rfl (by kernel_rfl) (by kernel_rfl) (by kernel_rfl) (fun _ _ _ h => h) (Or.inl ⟨by kernel_rfl, ?_⟩) TT ?_
          rotate_left 1
          · (intro w hS; go_simp; try (with_reducible rfl))
          refine wpAnyH_take (i := 9) (v := ?_) rfl (by kernel_rfl) (by kernel_rfl) (by kernel_rfl) (fun _ _ _ h => h) (Or.inl ⟨by kernel_rfl, ?_⟩) TT ?_
          rotate_left 1
          · (intro w hS; go_simp; try (with_reducible rfl))
          refine wpAnyH_take (i := 12) (v := ?_) rfl (by kernel_rfl) (by kernel_rfl) (by kernel_rfl) (fun _ _ _ h => h) (Or.inl ⟨by kernel_rfl, ?_⟩) TT ?_
          rotate_left 1
          · (intro w hS; go_simp; try (with_reducible rfl))
          refine wpAnyH_take (i := 13) (v := ?_) rfl (by kernel_rfl) (by kernel_rfl) (by kernel_rfl) (fun _ _ _ h => h) (Or.inl ⟨by kernel_rfl, ?_⟩) TT ?_
          rotate_left 1
          · (intro w hS; go_simp; try (with_reducible rfl))
          refine wpAnyH_take (i := 14) (v := ?_) rfl (by kernel_rfl) (by kernel_rfl) (by kernel_rfl) (fun _ _ _ h => h) (Or.inl ⟨by kernel_rfl, ?_⟩) TT ?_
          rotate_left 1
          · (intro w hS; go_simp; try (with_reducible rfl))
          clear hs1
          refine wpAnyH_ready (rs := [10, 11]) (by kernel_rfl) (by simp) ?_
          refine AllReadyH.cons rfl (fun K hK => ?_) (AllReadyH.cons rfl (fun K hK => ?_) AllReadyH.nil)
          focus go_simp
          refine (dsum_t gc s3 r3 _ w9 X9.out (by rw [HZL.out]; omega) (HK.out.below B9.out HKL.out)).mono ?_
          rintro e wa ⟨rfl, ba⟩
          rw [HS2.out]
          have Xa := Lib.hid (X9.out.below ba X9.out.blk.lt); have Za := Lib.hid (Z9.out.below ba); have Ba := Lib.hid (B9.out.trans (ba.mono B9.out.size)); clear ba X9 Z9 B9
          refine hK.out _ _ TT (fun _ => ?_)
          clear hK K
          refine wpAnyH_ready (rs := [11]) (by kernel_rfl) (by simp) ?_
          refine AllReadyH.cons rfl (fun K hK => ?_) AllReadyH.nil
          focus go_simp
          have bl : Below wa.heap.size wa (wa.alloc (.cells #[] 5)) := (Below.refl _ _).alloc (Nat.le_refl _) _
          have ow := own_empty wa w.heap.size wa.heap.size Ba.out.size rfl
          refine hK.out _ _ TT (fun _ => ?_)
          clear hK K
          obtain ⟨gl, hgl'⟩ : ∃ x, wa.heap.size = x := ⟨_, rfl⟩
          have bl' : Below wa.heap.size wa (wa.alloc (.cells #[] 5)) := bl
          obtain ⟨wm, hwm⟩ : ∃ x, wa.alloc (.cells #[] 5) = x := ⟨_, rfl⟩
          rw [hwm] at ow bl' ⊢
          rw [hgl'] at ow ⊢
          clear bl
          have OM := Lib.hid ow
          have Xm := Lib.hid (Xa.out.below bl' Xa.out.blk.lt); have Zm := Lib.hid (Za.out.below bl'); have Bm := Lib.hid (Ba.out.trans (bl'.mono Ba.out.size))
          clear ow bl' Xa Za Ba hwm hgl'
          rotate_left 1
          focus go_simp
          have bl : Below w9.heap.size w9 (w9.alloc (.cells #[] 5)) := (Below.refl _ _).alloc (Nat.le_refl _) _
          have ow := own_empty w9 w.heap.size w9.heap.size B9.out.size rfl
          refine hK.out _ _ TT (fun _ => ?_)
          clear hK K
          obtain ⟨gl, hgl'⟩ : ∃ x, w9.heap.size = x := ⟨_, rfl⟩
          have ba : Below w9.heap.size w9 (w9.alloc (.cells #[] 5)) := bl
          obtain ⟨wa, hwa⟩ : ∃ x, w9.alloc (.cells #[] 5) = x := ⟨_, rfl⟩
          rw [hwa] at ow ba ⊢
          rw [hgl'] at ow ⊢
          clear bl hwa hgl'
          have OA := Lib.hid ow
          clear ow
          have Xa := Lib.hid (X9.out.below ba X9.out.blk.lt); have Za := Lib.hid (Z9.out.below ba); have Ba := Lib.hid (B9.out.trans (ba.mono B9.out.size)); clear ba X9 Z9 B9
          refine wpAnyH_ready (rs := [10]) (by kernel_rfl) (by simp) ?_
          refine AllReadyH.cons rfl (fun K hK => ?_) AllReadyH.nil
          focus go_simp
          refine (dsum_t gc s3 r3 _ wa Xa.out (by rw [HZL.out]; omega) (HK.out.below Ba.out HKL.out)).mono ?_
          rintro e wm ⟨rfl, bm⟩
          rw [HS2.out]
          refine hK.out _ _ TT (fun _ => ?_)
          clear hK K
          have OM := Lib.hid (own_below OA.out bm)
          have Xm := Lib.hid (Xa.out.below bm Xa.out.blk.lt); have Zm := Lib.hid (Za.out.below bm); have Bm := Lib.hid (Ba.out.trans (bm.mono Ba.out.size)); clear bm Xa Za Ba
          clear OA
          all_goals
            refine wpAnyH_ready (rs := [15]) (by kernel_rfl) (by simp) ?_
            refine AllReadyH.cons rfl (fun K hK => ?_) AllReadyH.nil
            refine wp_append_bytes (.tmp 91) (.tmp 94) 22 ?_ 5 Tryd.underlying22 byte_info w.heap.size (.slice (some ⟨gl, 0, none⟩) 0 0) 0 [] Z ?_ OM.out AA fz ca ?_ HFZ.out Zm.out (by omega) Bm.out.size ?_
            · rfl
            · go_simp
            · go_simp
            intro v1 wn a1 a2 a3
            have Bn := Lib.hid (Bm.out.grown a2.out Bm.out.size (fun q e => (OM.out.lt q e).1)); clear Xm Zm Bm
            have o1 : wn.ownsRow w.heap.size 5 1 v1 fz (u8s Z) := by
              have := a1.out
              rw [Nat.zero_add, List.nil_append] at this
              exact this
            have O1 := Lib.hid o1
            refine hK.out _ _ TT (fun _ => ?_)
            clear hK K OM a1 a2 a3 o1
            refine wpAnyH_ready (rs := [16]) (by kernel_rfl) (by simp) ?_
            refine AllReadyH.cons rfl (fun K hK => ?_) AllReadyH.nil
            refine wp_append_str (.tmp 95) (.const (.string { data := #[99, 111, 112, 121] })) 22 9 ?_ 5 Tryd.underlying22 Tryd.underlying9 byte_info w.heap.size v1 fz 4 Z cpy ?_ O1.out { data := #[99, 111, 112, 121] } rfl rfl rfl (by omega) Bn.out.size ?_
            · rfl
            · go_simp
            intro v2 wo e1 e2
            have Bo := Lib.hid (Bn.out.grown e2.out Bn.out.size (fun q e => (O1.out.lt q e).1)); clear Bn
            obtain ⟨A7, c7, rfl, hc7⟩ := own_form e1.out
            refine hK.out _ _ TT (fun _ => ?_)
            clear hK K O1 e2
            refine wpAnyH_ready (rs := [17]) (by kernel_rfl) (by simp) ?_
            refine AllReadyH.cons rfl (fun K hK => ?_) AllReadyH.nil
            go_simp
            refine (sum_u (Z ++ cpy) A7 (fz + 4) c7 wo HZB.out (Sr.of_own e1.out) HZL.out hc7 (by omega) (HK.out.below Bo.out HKL.out)).mono ?_
            rintro e wp ⟨rfl, bp⟩
            rw [HS2.out]
            have BP := Lib.hid (Bo.out.trans (bp.mono Bo.out.size)); clear bp Bo
            refine hK.out _ _ TT (fun _ => ?_)
            clear hK K e1
            refine wpAnyH_take (i := 18) (v := ?_) rfl (by kernel_rfl) (by kernel_rfl) (by kernel_rfl) (fun _ _ _ h => h) (Or.inl ⟨by kernel_rfl, ?_⟩) TT ?_
            rotate_left 1
            · (intro w hS; go_simp; try (with_reducible rfl))
            refine wpAnyH_take (i := 19) (v := ?_) rfl (by kernel_rfl) (by kernel_rfl) (by kernel_rfl) (fun _ _ _ h => h) (Or.inl ⟨by kernel_rfl, ?_⟩) TT ?_
            rotate_left 1
            · (intro w hS; go_simp; try (with_reducible rfl))
            refine wpAnyH_take (i := 20) (v := ?_) rfl (by kernel_rfl) (by kernel_rfl) (by kernel_rfl) (fun _ _ _ h => h) (Or.inl ⟨by kernel_rfl, ?_⟩) TT ?_
            rotate_left 1
            · (intro w hS; go_simp; try (with_reducible rfl))
            refine wpAnyH_done (by kernel_rfl) ?_ _
            go_simp
            go_wp2_with fail
            go_ret
            exact ⟨rfl, BP.out⟩
end Go.Proofs.YtahmfbhiaoacgaaDoor
