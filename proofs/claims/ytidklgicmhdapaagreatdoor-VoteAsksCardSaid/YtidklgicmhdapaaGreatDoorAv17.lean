/-
  PACKAGE space
-/
import Derived.Test.YtidklgicmhdapaaGreatDoorAv16
namespace Go.Proofs.YtidklgicmhdapaaGreatDoor
open Go Go.RowKit Sh

set_option maxRecDepth 100000 in
set_option maxHeartbeats 800000 in
theorem everyI_t (F : FuncId) (C : Array Value) (l : List Itv) (n c : Nat) (p : Option Addr) (B : Nat → Bool) (Iv : Nat → World → Prop) (w0 w : World) (hw0 : Below w0.heap.size w0 w) (hl : l.length = n) (hn : n ≤ 9223372036854775807)
    (hcf : ∀ args W, (callFunc F args).run Tryz.prog W = .ok (.enter F args) W) (h0 : Iv 0 w) (hst : ∀ j W W', Iv j W → Below W.heap.size W W' → Iv j W') (hrd : ∀ j W, Iv j W → RowL W p 3 iv l)
    (hcall : ∀ (j : Nat) (x : Itv) W, l[j]? = some x → (∀ i, i < j → B i = true) → Iv j W → Calls Tryz.prog F (#[.agg (iv x).toArray] ++ C) W fun e W' => e = .returned (.bool (B j)) ∧ (B j = true → Iv (j + 1) W') ∧ (Below w0.heap.size w0 W → Below w0.heap.size w0 W')) :
    Calls Tryz.prog 110 #[.slice p n c, .func (.func F) #[] C] w fun e w' => e = .returned (.bool (allN B n)) ∧ Below w0.heap.size w0 w' := by
  have HST := Lib.hid hst; have HRD := Lib.hid hrd; have HC := Lib.hid hcall; have H0 := Lib.hid h0
  have AY := Lib.hid (fun h => (allN_iff B n).2 h); have AN := Lib.hid (fun j hj h => allN_no (B := B) (n := n) (j := j) hj h)
  obtain ⟨r, hr⟩ : ∃ r, allN B n = r := ⟨_, rfl⟩
  rw [hr] at AY AN ⊢
  clear h0 hst hrd hcall hr
  go_enter Tryz.func110, Tryz.ntmps110
  go_upto_region 2 with (fail)
  go_loopw [9] (fun x wr => ∃ j : Nat, j ≤ n ∧ x = .int .i64 (j : Int) ∧ Iv j wr ∧ (∀ i, i < j → B i = true) ∧ Below w0.heap.size w0 wr) (fun x _ => n - (intOf x).toNat)
  case atStart => exact ⟨0, by omega, rfl, H0.out, fun i hi => absurd hi (by omega), hw0⟩
  case round =>
    obtain ⟨j, hj, rfl, iv0, hb, bw⟩ := hrel
    have IV := Lib.hid iv0; have HB := Lib.hid hb; have BW := Lib.hid bw
    clear iv0 hb bw
    by_cases hlt : j < n
    · have hx : l[j]? = some l[j] := List.getElem?_eq_getElem (by omega)
      obtain ⟨x, hxe⟩ : ∃ x, l[j] = x := ⟨_, rfl⟩
      rw [hxe] at hx
      obtain ⟨b, o, rfl, hbl, rg⟩ := HRD.out j wr IV.out j x hx
      have RG := Lib.hid rg
      have FS := Lib.hid (iv_size x); have F1 := Lib.hid (iv_oneA x)
      have j1 : (j : Int) < (n : Int) := by omega
      have nB : (n : Int) ≤ 9223372036854775807 := by omega
      have A0 := Lib.hid (Blk.new wr 108 [.int .i64 0, .int .i64 0, .slice none 0 0])
      have A1 := Lib.hid (A0.out.setRow (iv x))
      have W1 := Lib.hid (below_setRow ((Below.refl wr.heap.size wr).alloc (Nat.le_refl _) (.cells #[.int .i64 0, .int .i64 0, .slice none 0 0] 108)) (Nat.le_refl _) (iv x).toArray)
      have CX := Lib.hid (HC.out j x _ hx HB.out (HST.out j wr _ IV.out W1.out))
      clear rg hx hxe hbl
      go_wp2_with (first
        | ((with_reducible refine at_op (.load 108 (.tmp 11)) rfl ?_); go_must (refine wpList_load_mid rfl 108 (.tmp 11) rfl b (o + j * 3) rfl (iv x) _ RG.out Tryz.underlying108 rfl FS.out ?_))
        | ((with_reducible refine store_blk 108 (.tmp 6) (.tmp 12) wr.heap.size 108 [.int .i64 0, .int .i64 0, .slice none 0 0] (iv x) rfl rfl ?_ ?_ ?_ ?_ ?_ ?_ ?_); exact A0.out; exact rfl; exact FS.out; exact F1.out; exact rfl; exact rfl)
        | ((with_reducible refine load_blk 108 (.tmp 6) wr.heap.size 108 (iv x) _ rfl rfl ?_ Tryz.underlying108 ?_ ?_ ?_ ?_); exact A1.out; exact rfl; exact FS.out; exact rfl))
      refine CX.out.mono ?_
      rintro e w2 ⟨rfl, iv2, b2⟩
      have IV2 := Lib.hid iv2
      have B2 := Lib.hid (b2 (BW.out.trans (W1.out.mono BW.out.size)))
      clear iv2 b2 IV A0 A1 W1 RG FS F1 CX BW
      cases hb : B j with
      | false =>
        have hR := AN.out j hlt hb
        subst hR
        clear hb
        go_wp2_with fail
        go_ret
        exact ⟨rfl, B2.out⟩
      | true =>
        have HB2 := Lib.hid (show ∀ i, i < j + 1 → B i = true from fun i hi => by
          rcases Nat.lt_or_ge i j with h | h
          · exact HB.out i h
          · obtain rfl : i = j := by omega
            exact hb)
        have IV3 := Lib.hid (IV2.out hb)
        clear hb IV2
        go_wp2_with fail
        go_roundw
        case rel => exact ⟨j + 1, hlt, by go_num, IV3.out, HB2.out, B2.out⟩
        case measure => simp [intOf]; omega
    · obtain rfl : j = n := by omega
      have hR := AY.out HB.out
      subst hR
      clear hlt
      go_wp2_with fail
      go_ret
      exact ⟨by simp, BW.out⟩
set_option maxRecDepth 100000 in
set_option maxHeartbeats 800000 in
theorem everyW_t (F : FuncId) (C : Array Value) (l : List Wtv) (n c : Nat) (p : Option Addr) (B : Nat → Bool) (Iv : Nat → World → Prop) (w0 w : World) (hw0 : Below w0.heap.size w0 w) (hl : l.length = n) (hn : n ≤ 9223372036854775807)
    (hcf : ∀ args W, (callFunc F args).run Tryz.prog W = .ok (.enter F args) W) (h0 : Iv 0 w) (hst : ∀ j W W', Iv j W → Below W.heap.size W W' → Iv j W') (hrd : ∀ j W, Iv j W → RowL W p 4 wv l)
    (hcall : ∀ (j : Nat) (x : Wtv) W, l[j]? = some x → (∀ i, i < j → B i = true) → Iv j W → Calls Tryz.prog F (#[.agg (wv x).toArray] ++ C) W fun e W' => e = .returned (.bool (B j)) ∧ (B j = true → Iv (j + 1) W') ∧ (Below w0.heap.size w0 W → Below w0.heap.size w0 W')) :
    Calls Tryz.prog 115 #[.slice p n c, .func (.func F) #[] C] w fun e w' => e = .returned (.bool (allN B n)) ∧ Below w0.heap.size w0 w' := by
  have HST := Lib.hid hst; have HRD := Lib.hid hrd; have HC := Lib.hid hcall; have H0 := Lib.hid h0
  have AY := Lib.hid (fun h => (allN_iff B n).2 h); have AN := Lib.hid (fun j hj h => allN_no (B := B) (n := n) (j := j) hj h)
  obtain ⟨r, hr⟩ : ∃ r, allN B n = r := ⟨_, rfl⟩
  rw [hr] at AY AN ⊢
  clear h0 hst hrd hcall hr
  go_enter Tryz.func115, Tryz.ntmps115
  go_upto_region 2 with (fail)
  go_loopw [9] (fun x wr => ∃ j : Nat, j ≤ n ∧ x = .int .i64 (j : Int) ∧ Iv j wr ∧ (∀ i, i < j → B i = true) ∧ Below w0.heap.size w0 wr) (fun x _ => n - (intOf x).toNat)
  case atStart => exact ⟨0, by omega, rfl, H0.out, fun i hi => absurd hi (by omega), hw0⟩
  case round =>
    obtain ⟨j, hj, rfl, iv0, hb, bw⟩ := hrel
    have IV := Lib.hid iv0; have HB := Lib.hid hb; have BW := Lib.hid bw
    clear iv0 hb bw
    by_cases hlt : j < n
    · have hx : l[j]? = some l[j] := List.getElem?_eq_getElem (by omega)
      obtain ⟨x, hxe⟩ : ∃ x, l[j] = x := ⟨_, rfl⟩
      rw [hxe] at hx
      obtain ⟨b, o, rfl, hbl, rg⟩ := HRD.out j wr IV.out j x hx
      have RG := Lib.hid rg
      have FS := Lib.hid (wv_size x); have F1 := Lib.hid (wv_oneA x)
      have j1 : (j : Int) < (n : Int) := by omega
      have nB : (n : Int) ≤ 9223372036854775807 := by omega
      have A0 := Lib.hid (Blk.new wr 113 [.int .i64 0, .int .i64 0, .bool false, .slice none 0 0])
      have A1 := Lib.hid (A0.out.setRow (wv x))
      have W1 := Lib.hid (below_setRow ((Below.refl wr.heap.size wr).alloc (Nat.le_refl _) (.cells #[.int .i64 0, .int .i64 0, .bool false, .slice none 0 0] 113)) (Nat.le_refl _) (wv x).toArray)
      have CX := Lib.hid (HC.out j x _ hx HB.out (HST.out j wr _ IV.out W1.out))
      clear rg hx hxe hbl
      go_wp2_with (first
        | ((with_reducible refine at_op (.load 113 (.tmp 11)) rfl ?_); go_must (refine wpList_load_mid rfl 113 (.tmp 11) rfl b (o + j * 4) rfl (wv x) _ RG.out Tryz.underlying113 rfl FS.out ?_))
        | ((with_reducible refine store_blk 113 (.tmp 6) (.tmp 12) wr.heap.size 113 [.int .i64 0, .int .i64 0, .bool false, .slice none 0 0] (wv x) rfl rfl ?_ ?_ ?_ ?_ ?_ ?_ ?_); exact A0.out; exact rfl; exact FS.out; exact F1.out; exact rfl; exact rfl)
        | ((with_reducible refine load_blk 113 (.tmp 6) wr.heap.size 113 (wv x) _ rfl rfl ?_ Tryz.underlying113 ?_ ?_ ?_ ?_); exact A1.out; exact rfl; exact FS.out; exact rfl))
      refine CX.out.mono ?_
      rintro e w2 ⟨rfl, iv2, b2⟩
      have IV2 := Lib.hid iv2
      have B2 := Lib.hid (b2 (BW.out.trans (W1.out.mono BW.out.size)))
      clear iv2 b2 IV A0 A1 W1 RG FS F1 CX BW
      cases hb : B j with
      | false =>
        have hR := AN.out j hlt hb
        subst hR
        clear hb
        go_wp2_with fail
        go_ret
        exact ⟨rfl, B2.out⟩
      | true =>
        have HB2 := Lib.hid (show ∀ i, i < j + 1 → B i = true from fun i hi => by
          rcases Nat.lt_or_ge i j with h | h
          · exact HB.out i h
          · obtain rfl : i = j := by omega
            exact hb)
        have IV3 := Lib.hid (IV2.out hb)
        clear hb IV2
        go_wp2_with fail
        go_roundw
        case rel => exact ⟨j + 1, hlt, by go_num, IV3.out, HB2.out, B2.out⟩
        case measure => simp [intOf]; omega
    · obtain rfl : j = n := by omega
      have hR := AY.out HB.out
      subst hR
      clear hlt
      go_wp2_with fail
      go_ret
      exact ⟨by simp, BW.out⟩
def cnts (l : List It) : List Value := [.int .i64 (ownN 0 l : Nat), .int .i64 (ownN 1 l : Nat), .int .i64 (ownN 2 l : Nat), .int .i64 (ownN 3 l : Nat)]
theorem ownN_snoc (c : Int) (l : List It) (x : It) : ownN c (l ++ [x]) = ownN c l + if x.own == c then 1 else 0 := by
  unfold ownN
  rw [List.countP_append, List.countP_singleton]
theorem ownN_le (c : Int) (l : List It) : ownN c l ≤ l.length := List.countP_le_length
def itBj (now : Int) (l : List It) (j : Nat) : Bool := match l[j]? with
  | some x => itB now x && decide (ownN x.own (l.take (j + 1)) ≤ 24)
  | none => true
theorem take_snoc {α : Type} {l : List α} {j : Nat} {x : α} (h : l[j]? = some x) : l.take (j + 1) = l.take j ++ [x] := by
  rw [List.take_add_one, h]
  rfl
theorem few_own {l : List It} : l.all (fun i => decide (ownN i.own l ≤ 24)) = true ↔ ∀ c, ownN c l ≤ 24 := by
  rw [List.all_eq_true]
  constructor
  · intro h c
    by_cases hc : ∃ x ∈ l, x.own = c
    · obtain ⟨x, hx, rfl⟩ := hc
      simpa using h x hx
    · have : ownN c l = 0 := by
        unfold ownN
        rw [List.countP_eq_zero]
        intro x hx e
        exact hc ⟨x, hx, by simpa using e⟩
      omega
  · intro h x _
    simpa using h x.own
theorem all_itBj (now : Int) (l : List It) : ∀ k, k ≤ l.length → (allN (itBj now l) k = true ↔ (∀ x ∈ l.take k, itB now x = true) ∧ ∀ c, ownN c (l.take k) ≤ 24)
  | 0, _ => by simp [allN, ownN]
  | k + 1, hk => by
    have hx : l[k]? = some l[k] := List.getElem?_eq_getElem (by omega)
    rw [allN, Bool.and_eq_true, all_itBj now l k (by omega), take_snoc hx]
    unfold itBj
    rw [hx]
    show _ ∧ (itB now l[k] && decide (ownN l[k].own (l.take (k + 1)) ≤ 24)) = true ↔ _
    rw [take_snoc hx, Bool.and_eq_true, decide_eq_true_eq]
    constructor
    · rintro ⟨⟨h1, h2⟩, h3, h4⟩
      refine ⟨fun x hm => ?_, fun c => ?_⟩
      · rcases List.mem_append.1 hm with h | h
        · exact h1 x h
        · obtain rfl : x = l[k] := by simpa using h
          exact h3
      · by_cases hc : l[k].own = c
        · rw [← hc]; exact h4
        · rw [ownN_snoc, if_neg (by simpa using hc)]
          exact h2 c
    · rintro ⟨h1, h2⟩
      refine ⟨⟨fun x hm => h1 x (List.mem_append_left _ hm), fun c => ?_⟩, h1 _ (List.mem_append_right _ (List.mem_singleton_self _)), h2 _⟩
      have := h2 c
      rw [ownN_snoc] at this
      omega
theorem itsB_j (now : Int) (l : List It) : itsB now l = (decide (l.length ≤ 64) && allN (itBj now l) l.length) := by
  unfold itsB
  congr 1
  rw [Bool.eq_iff_iff, all_itBj now l l.length (Nat.le_refl _), List.take_length, Bool.and_eq_true, few_own, List.all_eq_true]
theorem clB_cases {c : Int} (h : clB c = true) : c = 0 ∨ c = 1 ∨ c = 2 ∨ c = 3 := by
  unfold clB at h
  simp only [Bool.and_eq_true, decide_eq_true_eq] at h
  omega
structure MI (w0 W : World) (gb ga : Nat) (now : Int) (l : List It) : Prop where
  nb : W.cell? ⟨gb, 0, none⟩ = some (.int .i64 now)
  lb : gb < W.heap.size
  nl : w0.heap.size ≤ ga
  ar : Blk W ga 162 (cnts l)
  ne : gb ≠ ga
  bel : Below w0.heap.size w0 W
theorem MI.below {w0 W W' : World} {gb ga : Nat} {now : Int} {l : List It} (h : MI w0 W gb ga now l) (hb : Below W.heap.size W W') : MI w0 W' gb ga now l :=
  ⟨(hb.cell (p := ⟨gb, 0, none⟩) h.lb).trans h.nb, Nat.lt_of_lt_of_le h.lb hb.size, h.nl, h.ar.below hb h.ar.lt, h.ne, h.bel.trans (hb.mono h.bel.size)⟩
theorem MI.more {w0 W : World} {gb ga : Nat} {now : Int} {l : List It} (h : MI w0 W gb ga now l) {x : It} {k : Nat} (hk : x.own = (k : Int)) (h4 : k < 4) :
    MI w0 (W.setCell ⟨ga, k, none⟩ (.int .i64 ((ownN x.own l + 1 : Nat) : Int))) gb ga now (l ++ [x]) := by
  refine ⟨(World.cell?_setCell_far W ⟨ga, k, none⟩ ⟨gb, 0, none⟩ _ (fun e => h.ne e.symm)).trans h.nb, by simpa using h.lb, h.nl, ?_, h.ne, h.bel.setCell (p := ⟨ga, k, none⟩) h.nl _⟩
  have := h.ar.store k (.int .i64 ((ownN x.own l + 1 : Nat) : Int))
  have e : (cnts l).set k (.int .i64 ((ownN x.own l + 1 : Nat) : Int)) = cnts (l ++ [x]) := by
    unfold cnts
    rw [ownN_snoc, ownN_snoc, ownN_snoc, ownN_snoc, hk]
    have hc : k = 0 ∨ k = 1 ∨ k = 2 ∨ k = 3 := by omega
    rcases hc with rfl | rfl | rfl | rfl <;> simp
  rw [← e]
  exact this
set_option maxRecDepth 100000 in
set_option maxHeartbeats 1000000 in
theorem mayItems1_t (w0 W : World) (gb ga : Nat) (now : Int) (l : List It) (x : Itv) (h : MI w0 W gb ga now l) (hx : TR W x.p x.i.t) (hlen : l.length ≤ 64) :
    Calls Tryz.prog 111 #[.agg (iv x).toArray, .pointer (some ⟨gb, 0, none⟩), .pointer (some ⟨ga, 0, none⟩)] W fun e W' => e = .returned (.bool (itB now x.i && decide (ownN x.i.own (l ++ [x.i]) ≤ 24))) ∧ ((itB now x.i && decide (ownN x.i.own (l ++ [x.i]) ≤ 24)) = true → MI w0 W' gb ga now (l ++ [x.i])) ∧ Below w0.heap.size w0 W' := by
  have B0 := Lib.hid (Blk.new W 108 (iv x))
  have BW := Lib.hid ((Below.refl W.heap.size W).alloc (Nat.le_refl _) (.cells (iv x).toArray 108))
  have M1 := Lib.hid (h.below BW.out)
  have IC := Lib.hid (isClient_t x.i.own (W.alloc (.cells (iv x).toArray 108)))
  have ML := Lib.hid (mayLast_t x.i.un now (W.alloc (.cells (iv x).toArray 108)))
  have MT := Lib.hid (show Calls _ _ _ _ fun e w' => e = .returned (.bool (vT x.i.t)) ∧ _ from May_t x.i.t.length x.c x.p (gl x.i.t) _ hx.n (hx.below BW.out).t)
  obtain ⟨c0, c1, c2⟩ := iv_cells B0.out
  have cb := M1.out.nb
  have HG := h.ar.lt
  have hg1 : ¬ ga = W.heap.size := by omega
  have hg2 : ¬ W.heap.size = ga := by omega
  obtain ⟨⟨ow, un, t⟩, p, c⟩ := x
  have hf : itB now ⟨ow, un, t⟩ = (clB ow && (lastB un now && vT t)) := rfl
  dsimp only at IC ML MT c0 c1 c2 ⊢
  rw [hf]
  obtain ⟨xs, hxs⟩ : ∃ l, iv ⟨⟨ow, un, t⟩, p, c⟩ = l := ⟨_, rfl⟩
  rw [hxs] at B0 BW M1 IC ML MT c0 c1 c2 cb ⊢
  obtain ⟨v1, h1⟩ : ∃ b, clB ow = b := ⟨_, rfl⟩
  obtain ⟨v2, h2⟩ : ∃ b, lastB un now = b := ⟨_, rfl⟩
  obtain ⟨v3, h3⟩ : ∃ b, vT t = b := ⟨_, rfl⟩
  rw [h1] at IC ⊢
  rw [h2] at ML ⊢
  rw [h3] at MT ⊢
  obtain ⟨n, hn⟩ : ∃ n, t.length = n := ⟨_, rfl⟩
  rw [hn] at MT c2
  clear hxs hf h2 h3 hx h hn HG
  cases v1 with
  | false =>
    go_enter Tryz.func111, Tryz.ntmps111
    go_wp2_with fail
    refine IC.out.mono ?_
    rintro e w1 ⟨rfl, rfl⟩
    go_wp2_with fail
    go_ret
    exact ⟨rfl, fun e => (by cases e), M1.out.bel⟩
  | true =>
  cases v2 with
  | false =>
    go_enter Tryz.func111, Tryz.ntmps111
    go_wp2_with fail
    refine IC.out.mono ?_
    rintro e w1 ⟨rfl, rfl⟩
    go_wp2_with fail
    refine ML.out.mono ?_
    rintro e w1 ⟨rfl, rfl⟩
    go_wp2_with fail
    go_ret
    exact ⟨rfl, fun e => (by cases e), M1.out.bel⟩
  | true =>
  cases v3 with
  | false =>
    go_enter Tryz.func111, Tryz.ntmps111
    go_wp2_with fail
    refine IC.out.mono ?_
    rintro e w1 ⟨rfl, rfl⟩
    go_wp2_with fail
    refine ML.out.mono ?_
    rintro e w1 ⟨rfl, rfl⟩
    go_wp2_with fail
    refine MT.out.mono ?_
    rintro e w2 ⟨rfl, b2⟩
    have M2 := Lib.hid (M1.out.below b2)
    have c0' := (b2.cell (p := ⟨W.heap.size, 0, none⟩) B0.out.lt).trans c0
    clear b2 c0
    go_wp2_with fail
    go_ret
    exact ⟨rfl, fun e => (by cases e), M2.out.bel⟩
  | true =>
    go_enter Tryz.func111, Tryz.ntmps111
    go_wp2_with fail
    refine IC.out.mono ?_
    rintro e w1 ⟨rfl, rfl⟩
    go_wp2_with fail
    refine ML.out.mono ?_
    rintro e w1 ⟨rfl, rfl⟩
    go_wp2_with fail
    refine MT.out.mono ?_
    rintro e w2 ⟨rfl, b2⟩
    have M2 := Lib.hid (M1.out.below b2)
    have c0' := (b2.cell (p := ⟨W.heap.size, 0, none⟩) B0.out.lt).trans c0
    clear b2 c0
    have HO := Lib.hid (clB_cases h1)
    clear h1
    rcases HO.out with e | e | e | e
    · skip
      subst e
      have M3 := Lib.hid (M2.out.more (x := ⟨0, un, t⟩) (k := 0) rfl (by decide))
      have cc : w2.cell? ⟨ga, 0, none⟩ = some (.int .i64 (ownN 0 l : Nat)) := M2.out.ar.cell 0
      have ff := M2.out.ar.frozen 0
      have le := ownN_le 0 l
      have sn := ownN_snoc 0 l ⟨0, un, t⟩
      rw [show (((⟨0, un, t⟩ : It).own == (0 : Int)) = true) from rfl, if_pos rfl] at sn
      dsimp only at M3
      obtain ⟨k, hk⟩ : ∃ k, ownN 0 l = k := ⟨_, rfl⟩
      rw [hk] at cc le sn M3
      have k1 : IntKind.i64.wrap ((k : Int) + 1) = ((k + 1 : Nat) : Int) := by rw [IntWalk.i64_in _ (by omega)]; omega
      have hd : (decide (ownN 0 (l ++ [(⟨0, un, t⟩ : It)]) ≤ 24)) = decide (((k + 1 : Nat) : Int) ≤ 24) := by rw [sn]; simp only [decide_eq_decide]; omega
      have EV := Lib.hid hd
      clear hd sn HO
      go_wp2_with fail
      go_ret
      exact ⟨by rw [EV.out]; simp, fun _ => M3.out, M3.out.bel⟩
    · skip
      subst e
      have M3 := Lib.hid (M2.out.more (x := ⟨1, un, t⟩) (k := 1) rfl (by decide))
      have cc : w2.cell? ⟨ga, 1, none⟩ = some (.int .i64 (ownN 1 l : Nat)) := M2.out.ar.cell 1
      have ff := M2.out.ar.frozen 1
      have le := ownN_le 1 l
      have sn := ownN_snoc 1 l ⟨1, un, t⟩
      rw [show (((⟨1, un, t⟩ : It).own == (1 : Int)) = true) from rfl, if_pos rfl] at sn
      dsimp only at M3
      obtain ⟨k, hk⟩ : ∃ k, ownN 1 l = k := ⟨_, rfl⟩
      rw [hk] at cc le sn M3
      have k1 : IntKind.i64.wrap ((k : Int) + 1) = ((k + 1 : Nat) : Int) := by rw [IntWalk.i64_in _ (by omega)]; omega
      have hd : (decide (ownN 1 (l ++ [(⟨1, un, t⟩ : It)]) ≤ 24)) = decide (((k + 1 : Nat) : Int) ≤ 24) := by rw [sn]; simp only [decide_eq_decide]; omega
      have EV := Lib.hid hd
      clear hd sn HO
      go_wp2_with fail
      go_ret
      exact ⟨by rw [EV.out]; simp, fun _ => M3.out, M3.out.bel⟩
    · skip
      subst e
      have M3 := Lib.hid (M2.out.more (x := ⟨2, un, t⟩) (k := 2) rfl (by decide))
      have cc : w2.cell? ⟨ga, 2, none⟩ = some (.int .i64 (ownN 2 l : Nat)) := M2.out.ar.cell 2
      have ff := M2.out.ar.frozen 2
      have le := ownN_le 2 l
      have sn := ownN_snoc 2 l ⟨2, un, t⟩
      rw [show (((⟨2, un, t⟩ : It).own == (2 : Int)) = true) from rfl, if_pos rfl] at sn
      dsimp only at M3
      obtain ⟨k, hk⟩ : ∃ k, ownN 2 l = k := ⟨_, rfl⟩
      rw [hk] at cc le sn M3
      have k1 : IntKind.i64.wrap ((k : Int) + 1) = ((k + 1 : Nat) : Int) := by rw [IntWalk.i64_in _ (by omega)]; omega
      have hd : (decide (ownN 2 (l ++ [(⟨2, un, t⟩ : It)]) ≤ 24)) = decide (((k + 1 : Nat) : Int) ≤ 24) := by rw [sn]; simp only [decide_eq_decide]; omega
      have EV := Lib.hid hd
      clear hd sn HO
      go_wp2_with fail
      go_ret
      exact ⟨by rw [EV.out]; simp, fun _ => M3.out, M3.out.bel⟩
    · skip
      subst e
      have M3 := Lib.hid (M2.out.more (x := ⟨3, un, t⟩) (k := 3) rfl (by decide))
      have cc : w2.cell? ⟨ga, 3, none⟩ = some (.int .i64 (ownN 3 l : Nat)) := M2.out.ar.cell 3
      have ff := M2.out.ar.frozen 3
      have le := ownN_le 3 l
      have sn := ownN_snoc 3 l ⟨3, un, t⟩
      rw [show (((⟨3, un, t⟩ : It).own == (3 : Int)) = true) from rfl, if_pos rfl] at sn
      dsimp only at M3
      obtain ⟨k, hk⟩ : ∃ k, ownN 3 l = k := ⟨_, rfl⟩
      rw [hk] at cc le sn M3
      have k1 : IntKind.i64.wrap ((k : Int) + 1) = ((k + 1 : Nat) : Int) := by rw [IntWalk.i64_in _ (by omega)]; omega
      have hd : (decide (ownN 3 (l ++ [(⟨3, un, t⟩ : It)]) ≤ 24)) = decide (((k + 1 : Nat) : Int) ≤ 24) := by rw [sn]; simp only [decide_eq_decide]; omega
      have EV := Lib.hid hd
      clear hd sn HO
      go_wp2_with fail
      go_ret
      exact ⟨by rw [EV.out]; simp, fun _ => M3.out, M3.out.bel⟩
theorem MI.new {w : World} (now : Int) : MI w ((w.alloc (.cells #[.int .i64 now] 3)).alloc (.cells #[.int .i64 0, .int .i64 0, .int .i64 0, .int .i64 0] 162)) w.heap.size (w.heap.size + 1) now [] := by
  have b1 := (Below.refl w.heap.size w).alloc (Nat.le_refl _) (.cells #[.int .i64 now] 3)
  have b2 := b1.alloc (by simp) (.cells #[.int .i64 0, .int .i64 0, .int .i64 0, .int .i64 0] 162)
  have x := (Blk.new w 3 [.int .i64 now]).alloc (.cells #[.int .i64 0, .int .i64 0, .int .i64 0, .int .i64 0] 162)
  exact ⟨x.cell 0, x.lt, Nat.le_succ _, Blk.new2 w _ 162 (cnts []), Nat.ne_of_lt (Nat.lt_succ_self _), b2⟩
theorem mayItems_t (l : List Itv) (p : Option Addr) (c : Nat) (now : Int) (w : World) (hn : l.length ≤ 9223372036854775807) (hp : RowL w p 3 iv l) (ht : ∀ y ∈ l, TR w y.p y.i.t) :
    Calls Tryz.prog 94 #[.slice p l.length c, .int .i64 now] w fun e w' => e = .returned (.bool (itsB now (l.map (·.i)))) ∧ Below w.heap.size w w' := by
  have B0 := Lib.hid ((Below.refl w.heap.size w).alloc (Nat.le_refl _) (.cells #[.int .i64 now] 3))
  have ML : (l.map (·.i)).length = l.length := List.length_map _
  rw [itsB_j, ML]
  by_cases h64 : l.length ≤ 64
  · have M0 := Lib.hid (MI.new (w := w) now)
    have EV := Lib.hid (everyI_t 111 #[.pointer (some ⟨w.heap.size, 0, none⟩), .pointer (some ⟨w.heap.size + 1, 0, none⟩)] l l.length c p (itBj now (l.map (·.i)))
      (fun j W => MI w W w.heap.size (w.heap.size + 1) now ((l.map (fun y : Itv => y.i)).take j)) w _ M0.out.bel rfl hn (enters_of Tryz.func111 (by kernel_rfl) rfl)
      M0.out (fun j W W' h hb => h.below hb) (fun j W h => hp.below h.bel)
      (fun j x W hx hb h => by
        have hm : (l.map (·.i))[j]? = some x.i := by rw [List.getElem?_map, hx]; rfl
        have hi : itBj now (l.map (·.i)) j = (itB now x.i && decide (ownN x.i.own ((l.map (·.i)).take j ++ [x.i]) ≤ 24)) := by unfold itBj; rw [hm, ← take_snoc hm]
        rw [hi, take_snoc hm]
        exact (mayItems1_t w W w.heap.size (w.heap.size + 1) now ((l.map (·.i)).take j) x h ((ht x (List.mem_of_getElem? hx)).below h.bel) (by rw [List.length_take]; omega)).mono fun e W' ⟨h1, h2, h3⟩ => ⟨h1, h2, fun _ => h3⟩))
    rw [decide_eq_true h64, Bool.true_and]
    have h65 : (l.length : Int) ≤ 64 := by omega
    obtain ⟨r, hr⟩ : ∃ r, allN (itBj now (l.map (·.i))) l.length = r := ⟨_, rfl⟩
    rw [hr] at EV ⊢
    obtain ⟨n, hn⟩ : ∃ n, l.length = n := ⟨_, rfl⟩
    rw [hn] at EV h65 ⊢
    clear hp ht ML hr hn M0
    go_enter Tryz.func94, Tryz.ntmps94
    go_wp2_with fail
    refine EV.out.mono ?_
    rintro e w1 ⟨rfl, b1⟩
    go_wp2_with fail
    go_ret
    exact ⟨rfl, b1⟩
  · rw [decide_eq_false h64, Bool.false_and]
    have h65 : (64 : Int) < (l.length : Int) := by omega
    obtain ⟨n, hn⟩ : ∃ n, l.length = n := ⟨_, rfl⟩
    rw [hn] at h65 ⊢
    clear hp ht ML
    go_enter Tryz.func94, Tryz.ntmps94
    go_wp2_with fail
    go_ret
    exact ⟨rfl, B0.out⟩
set_option maxRecDepth 100000 in
theorem mayWaiters1_t (x : Wtv) (w : World) (hx : TR w x.p x.x.p) :
    Calls Tryz.prog 116 #[.agg (wv x).toArray] w fun e w' => e = .returned (.bool (wtB x.x)) ∧ Below w.heap.size w w' := by
  have B0 := Lib.hid (Blk.new w 113 (wv x))
  have BW := Lib.hid ((Below.refl w.heap.size w).alloc (Nat.le_refl _) (.cells (wv x).toArray 113))
  have IC := Lib.hid (isClient_t x.x.cl (w.alloc (.cells (wv x).toArray 113)))
  have MT := Lib.hid (show Calls _ _ _ _ fun e w' => e = .returned (.bool (pT x.x.p)) ∧ _ from MayTemplate_t x.x.p.length x.c x.p (gl x.x.p) _ hx.n (hx.below BW.out).t)
  obtain ⟨c0, c1, _, c3⟩ := wv_cells B0.out
  have hf : wtB x.x = (clB x.x.cl && (decide (1 ≤ x.x.sq) && (decide (x.x.sq ≤ 1073741824) && pT x.x.p))) := rfl
  rw [hf]
  obtain ⟨b1, hb1⟩ : ∃ n, clB x.x.cl = n := ⟨_, rfl⟩
  rw [hb1] at IC ⊢
  clear hb1
  obtain ⟨b2, hb2⟩ : ∃ n, pT x.x.p = n := ⟨_, rfl⟩
  rw [hb2] at MT ⊢
  clear hb2
  obtain ⟨cl, hcl⟩ : ∃ n, x.x.cl = n := ⟨_, rfl⟩
  rw [hcl] at c0 IC
  clear hcl
  obtain ⟨sq, hsq⟩ : ∃ n, x.x.sq = n := ⟨_, rfl⟩
  rw [hsq] at c1 ⊢
  clear hsq
  obtain ⟨xs, hxs⟩ : ∃ l, wv x = l := ⟨_, rfl⟩
  rw [hxs] at B0 BW IC MT c0 c1 c3 ⊢
  clear hf hx hxs B0
  cases b1 with
  | false =>
    go_enter Tryz.func116, Tryz.ntmps116
    go_wp2_with fail
    refine IC.out.mono ?_
    rintro e w1 ⟨rfl, rfl⟩
    go_wp2_with fail
    go_ret
    exact ⟨rfl, BW.out⟩
  | true =>
  by_cases h1 : 1 ≤ sq
  · by_cases h2 : sq ≤ 1073741824
    · rw [decide_eq_true h1, decide_eq_true h2]
      go_enter Tryz.func116, Tryz.ntmps116
      go_wp2_with fail
      refine IC.out.mono ?_
      rintro e w1 ⟨rfl, rfl⟩
      go_wp2_with fail
      refine MT.out.mono ?_
      rintro e w2 ⟨rfl, b2⟩
      go_wp2_with fail
      go_ret
      exact ⟨rfl, BW.out.trans (b2.mono BW.out.size)⟩
    · rw [decide_eq_false h2]
      have h3 : 1073741824 < sq := by omega
      go_enter Tryz.func116, Tryz.ntmps116
      go_wp2_with fail
      refine IC.out.mono ?_
      rintro e w1 ⟨rfl, rfl⟩
      go_wp2_with fail
      go_ret
      exact ⟨by simp, BW.out⟩
  · rw [decide_eq_false h1]
    have h3 : sq < 1 := by omega
    go_enter Tryz.func116, Tryz.ntmps116
    go_wp2_with fail
    refine IC.out.mono ?_
    rintro e w1 ⟨rfl, rfl⟩
    go_wp2_with fail
    go_ret
    exact ⟨by simp, BW.out⟩
def wtBj (l : List Wtv) (j : Nat) : Bool := match l[j]? with
  | some x => wtB x.x
  | none => true
theorem all_wtBj (l : List Wtv) : allN (wtBj l) l.length = (l.map (·.x)).all wtB := by
  rw [Bool.eq_iff_iff, allN_iff, List.all_eq_true]
  constructor
  · intro h y hy
    obtain ⟨x, hx, rfl⟩ := List.mem_map.1 hy
    obtain ⟨j, hj⟩ := List.getElem?_of_mem hx
    have := h j (List.getElem?_eq_some_iff.1 hj).1
    unfold wtBj at this
    rw [hj] at this
    exact this
  · intro h j hj
    unfold wtBj
    rw [List.getElem?_eq_getElem hj]
    exact h _ (List.mem_map_of_mem (List.getElem_mem hj))
theorem mayWaiters_t (l : List Wtv) (p : Option Addr) (c : Nat) (w : World) (hn : l.length ≤ 9223372036854775807) (hp : RowL w p 4 wv l) (ht : ∀ y ∈ l, TR w y.p y.x.p) :
    Calls Tryz.prog 95 #[.slice p l.length c] w fun e w' => e = .returned (.bool (wtsB (l.map (·.x)))) ∧ Below w.heap.size w w' := by
  have hf : wtsB (l.map (·.x)) = (decide (l.length ≤ 16) && allN (wtBj l) l.length) := by rw [all_wtBj]; unfold wtsB; rw [List.length_map]
  rw [hf]
  have EV := Lib.hid (everyW_t 116 #[] l l.length c p (wtBj l)
      (fun j W => Below w.heap.size w W) w w (Below.refl _ _) rfl hn (enters_of Tryz.func116 (by kernel_rfl) rfl)
      (Below.refl _ _) (fun j W W' h hb => h.trans (hb.mono h.size)) (fun j W h => hp.below h)
      (fun j x W hx hb h => by
        have hi : wtBj l j = wtB x.x := by unfold wtBj; rw [hx]
        rw [hi]
        exact (mayWaiters1_t x W ((ht x (List.mem_of_getElem? hx)).below h)).mono fun e W' ⟨h1, h2⟩ => ⟨h1, fun _ => h.trans (h2.mono h.size), fun _ => h.trans (h2.mono h.size)⟩))
  obtain ⟨r, hr⟩ : ∃ r, allN (wtBj l) l.length = r := ⟨_, rfl⟩
  rw [hr] at EV ⊢
  obtain ⟨n, hn⟩ : ∃ n, l.length = n := ⟨_, rfl⟩
  rw [hn] at EV ⊢
  clear hp ht hf hr hn
  by_cases h16 : n ≤ 16
  · rw [decide_eq_true h16, Bool.true_and]
    have h17 : (n : Int) ≤ 16 := by omega
    go_enter Tryz.func95, Tryz.ntmps95
    go_wp2_with fail
    refine EV.out.mono ?_
    rintro e w1 ⟨rfl, b1⟩
    go_wp2_with fail
    go_ret
    exact ⟨rfl, b1⟩
  · rw [decide_eq_false h16, Bool.false_and]
    have h17 : (16 : Int) < (n : Int) := by omega
    go_enter Tryz.func95, Tryz.ntmps95
    go_wp2_with fail
    go_ret
    exact ⟨rfl, Below.refl _ _⟩
end Go.Proofs.YtidklgicmhdapaaGreatDoor
