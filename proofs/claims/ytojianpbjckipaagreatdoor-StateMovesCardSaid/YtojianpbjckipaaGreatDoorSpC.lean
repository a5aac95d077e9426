/-
  PACKAGE space: the library's IndexFunc, EqualFunc; Find; Same.
-/
import Derived.Test.YtojianpbjckipaaGreatDoorSpB
namespace Go.Proofs.YtojianpbjckipaaGreatDoor
open Go Go.RowKit Sh

def ixI {α : Type} (B : α → Bool) (l : List α) : Int := match l.findIdx? B with | some k => (k : Int) | none => -1
theorem ixI_some {α : Type} {B : α → Bool} {l : List α} {j : Nat} {x : α} (hx : l[j]? = some x) (hb : B x = true) (hn : ∀ (i : Nat) (y : α), i < j → l[i]? = some y → B y = false) : ixI B l = (j : Int) := by
  have : l.findIdx? B = some j := by
    rw [List.findIdx?_eq_some_iff_getElem]
    obtain ⟨hj, rfl⟩ := List.getElem?_eq_some_iff.1 hx
    exact ⟨hj, hb, fun i hi => by simpa using hn i _ hi (List.getElem?_eq_getElem (by omega))⟩
  rw [ixI, this]
theorem ixI_none {α : Type} {B : α → Bool} {l : List α} (hn : ∀ (i : Nat) (y : α), l[i]? = some y → B y = false) : ixI B l = -1 := by
  have : l.findIdx? B = none := by
    rw [List.findIdx?_eq_none_iff]
    intro x hx
    obtain ⟨i, hi⟩ := List.getElem?_of_mem hx
    simpa using hn i x hi
  rw [ixI, this]
theorem ix_map {α β : Type} (g : β → α) (B : α → Bool) (l : List β) : ixI B (l.map g) = ixI (fun x => B (g x)) l := by
  unfold ixI
  rw [List.findIdx?_map]
  rfl
theorem fnd_ix (p : List Fld) (l : List It) : fndI p l = ixI (fun i => mT p i.t) l := rfl
set_option maxRecDepth 100000 in
set_option maxHeartbeats 400000 in
theorem indexI_t (F : FuncId) (C : Array Value) (B : Itv → Bool) (l : List Itv) (n c : Nat) (p : Option Addr) (w : World) (hl : l.length = n) (hn : n ≤ 9223372036854775807) (hp : RowL w p 3 iv l)
    (hcf : ∀ args W, (callFunc F args).run Tryz.prog W = .ok (.enter F args) W)
    (hcall : ∀ x W, x ∈ l → Below w.heap.size w W → Calls Tryz.prog F (#[.agg (iv x).toArray] ++ C) W fun e W' => e = .returned (.bool (B x)) ∧ Below W.heap.size W W') :
    Calls Tryz.prog 131 #[.slice p n c, .func (.func F) #[] C] w fun e w' => e = .returned (.int .i64 (ixI B l)) ∧ Below w.heap.size w w' := by
  have HP := Lib.hid hp; have HC := Lib.hid hcall
  have IS := Lib.hid (fun j x => ixI_some (B := B) (l := l) (j := j) (x := x)); have IN := Lib.hid (ixI_none (B := B) (l := l))
  obtain ⟨r, hr⟩ : ∃ r, ixI B l = r := ⟨_, rfl⟩
  rw [hr] at IS IN ⊢
  clear hp hcall hr
  go_enter Tryz.func131, Tryz.ntmps131
  go_upto_region 2 with (fail)
  go_loopw [8] (fun x wr => ∃ j : Nat, j ≤ n ∧ x = .int .i64 (j : Int) ∧ Below w.heap.size w wr ∧ ∀ (i : Nat) (y : Itv), i < j → l[i]? = some y → B y = false) (fun x _ => n - (intOf x).toNat)
  case atStart => exact ⟨0, by omega, rfl, Below.refl _ _, fun i y hi => absurd hi (by omega)⟩
  case round =>
    obtain ⟨j, hj, rfl, bw, hb⟩ := hrel
    have BW := Lib.hid bw; have HB := Lib.hid hb
    clear bw hb
    by_cases hlt : j < n
    · have hx : l[j]? = some l[j] := List.getElem?_eq_getElem (by omega)
      obtain ⟨x, hxe⟩ : ∃ x, l[j] = x := ⟨_, rfl⟩
      rw [hxe] at hx
      have HX := Lib.hid hx
      obtain ⟨b, o, rfl, hbl, rg⟩ := HP.out j x hx
      have RG := Lib.hid (rows_below rg BW.out hbl)
      have FS := Lib.hid (iv_size x)
      have j1 : (j : Int) < (n : Int) := by omega
      have nB : (n : Int) ≤ 9223372036854775807 := by omega
      have CX := Lib.hid (HC.out x wr (List.mem_of_getElem? hx) BW.out)
      clear rg hx hxe hbl
      go_wp2_with ((with_reducible refine at_op (.load 62 (.tmp 14)) rfl ?_); go_must (refine wpList_load_mid rfl 62 (.tmp 14) rfl b (o + j * 3) rfl (iv x) _ RG.out Tryz.underlying62 rfl FS.out ?_))
      refine CX.out.mono ?_
      rintro e w2 ⟨rfl, b2⟩
      have B2 := Lib.hid (BW.out.trans (b2.mono BW.out.size))
      clear b2 BW RG FS CX
      cases hb : B x with
      | true =>
        have hR := IS.out j x HX.out hb HB.out
        subst hR
        clear hb IS IN
        go_wp2_with fail
        go_ret
        exact ⟨rfl, B2.out⟩
      | false =>
        have HB2 := Lib.hid (show ∀ (i : Nat) (y : Itv), i < j + 1 → l[i]? = some y → B y = false from fun i y hi hy => by
          rcases Nat.lt_or_ge i j with h | h
          · exact HB.out i y h hy
          · obtain rfl : i = j := by omega
            rw [HX.out] at hy
            obtain rfl := Option.some.inj hy
            exact hb)
        clear hb
        go_wp2_with fail
        go_roundw
        case rel => exact ⟨j + 1, hlt, by go_num, B2.out, HB2.out⟩
        case measure => simp [intOf]; omega
    · obtain rfl : j = n := by omega
      have hR := IN.out (fun i y hy => HB.out i y (by have := (List.getElem?_eq_some_iff.1 hy).1; omega) hy)
      subst hR
      clear hlt IS IN
      go_wp2_with fail
      go_ret
      exact ⟨rfl, BW.out⟩
theorem Find1_t (cb : Nat) (pp : Option Addr) (m c : Nat) (G : Nat → Fld) (x : Itv) (W : World) (hm : m ≤ 9223372036854775807) (hr : Rw W pp m G) (hx : TR W x.p x.i.t) (hc : W.cell? ⟨cb, 0, none⟩ = some (.slice pp m c)) (hl : cb < W.heap.size) :
    Calls Tryz.prog 148 #[.agg (iv x).toArray, .pointer (some ⟨cb, 0, none⟩)] W fun e W' => e = .returned (.bool (mT (fl m G) x.i.t)) ∧ Below W.heap.size W W' := by
  obtain ⟨⟨ow, un, t⟩, p, cc⟩ := x
  have B0 := Lib.hid (Blk.new W 62 (iv ⟨⟨ow, un, t⟩, p, cc⟩))
  have BW := Lib.hid ((Below.refl W.heap.size W).alloc (Nat.le_refl _) (.cells (iv ⟨⟨ow, un, t⟩, p, cc⟩).toArray 62))
  have c0 := (BW.out.cell (p := ⟨cb, 0, none⟩) hl).trans hc
  have c2 := B0.out.cell 2
  have c2' : (W.alloc (.cells (iv ⟨⟨ow, un, t⟩, p, cc⟩).toArray 62)).cell? ⟨W.heap.size, 2, none⟩ = some (.slice p t.length cc) := c2
  have MT := Lib.hid (Match_t m c t.length cc pp p G (gl t) _ hm hx.n (hr.below BW.out) (hx.below BW.out).t)
  have he : matchN m G t.length (gl t) = mT (fl m G) t := by rw [← fl_gl t, mT_fl, fl_length]; exact matchN_congr (fun _ _ => rfl) (fun j hj => gl_fl hj)
  rw [he] at MT
  obtain ⟨bb, hbb⟩ : ∃ b, mT (fl m G) t = b := ⟨_, rfl⟩
  show Calls _ _ _ _ fun e W' => e = .returned (.bool (mT (fl m G) t)) ∧ _
  rw [hbb] at MT ⊢
  obtain ⟨n, hn⟩ : ∃ n, t.length = n := ⟨_, rfl⟩
  rw [hn] at MT c2'
  obtain ⟨xs, hxs⟩ : ∃ l, iv ⟨⟨ow, un, t⟩, p, cc⟩ = l := ⟨_, rfl⟩
  rw [hxs] at B0 BW MT c0 c2' ⊢
  clear c2 hx hr hc hbb he hn hxs B0
  go_enter Tryz.func148, Tryz.ntmps148
  go_wp2_with fail
  refine MT.out.mono ?_
  rintro e w2 ⟨rfl, b2⟩
  go_wp2_with fail
  go_ret
  exact ⟨rfl, BW.out.trans (b2.mono BW.out.size)⟩
theorem sv_cells {w : World} {g : Nat} {x : Spv} (h : Blk w g 29 (sv x)) :
    w.cell? ⟨g, 0, none⟩ = some (.int .i64 x.now) ∧ w.cell? ⟨g, 1, none⟩ = some (.slice x.ip x.its.length x.ic) ∧ w.cell? ⟨g, 2, none⟩ = some (.slice x.wp x.wts.length x.wc) ∧ w.cell? ⟨g, 3, none⟩ = some (.int .i64 x.rd) ∧ w.cell? ⟨g, 4, none⟩ = some (.int .i64 x.wr) := ⟨h.cell 0, h.cell 1, h.cell 2, h.cell 3, h.cell 4⟩
theorem ix_i (q : List Fld) (l : List Itv) : ixI (fun y : Itv => mT q y.i.t) l = fndI q (l.map (·.i)) := by rw [fnd_ix, ix_map]
theorem Find_t (x : Spv) (pp : Option Addr) (m c : Nat) (G : Nat → Fld) (w : World) (hm : m ≤ 9223372036854775807) (hr : Rw w pp m G) (hx : SpW w x) :
    Calls Tryz.prog 133 #[.agg (sv x).toArray, .slice pp m c] w fun e w' => e = .returned (.int .i64 (fndI (fl m G) x.sp.its)) ∧ Below w.heap.size w w' := by
  have b1 := (Below.refl w.heap.size w).alloc (Nat.le_refl _) (.cells (sv x).toArray 29)
  have BW := Lib.hid (b1.alloc (by simp) (.cells #[.slice pp m c] 24))
  have S0 := Lib.hid ((Blk.new w 29 (sv x)).alloc (.cells #[.slice pp m c] 24))
  have P0 := Lib.hid (Blk.new2 w (.cells (sv x).toArray 29) 24 [.slice pp m c])
  have c1 := (sv_cells S0.out).2.1
  have IX := Lib.hid (indexI_t 148 #[.pointer (some ⟨w.heap.size + 1, 0, none⟩)] (fun y => mT (fl m G) y.i.t) x.its x.its.length x.ic x.ip _ rfl hx.n (hx.below BW.out).its (enters_of Tryz.func148 (by kernel_rfl) rfl)
    (fun y W hy hb => Find1_t (w.heap.size + 1) pp m c G y W hm ((hr.below BW.out).below hb) (((hx.below BW.out).it y hy).below hb) ((hb.cell (p := ⟨w.heap.size + 1, 0, none⟩) P0.out.lt).trans (P0.out.cell 0)) (Nat.lt_of_lt_of_le P0.out.lt hb.size)))
  rw [ix_i] at IX
  show Calls _ _ _ _ fun e w' => e = .returned (.int .i64 (fndI (fl m G) (x.its.map (·.i)))) ∧ _
  obtain ⟨r, hr⟩ : ∃ r, fndI (fl m G) (x.its.map (·.i)) = r := ⟨_, rfl⟩
  rw [hr] at IX ⊢
  obtain ⟨xs, hxs⟩ : ∃ l, sv x = l := ⟨_, rfl⟩
  rw [hxs] at S0 P0 BW IX c1 b1 ⊢
  obtain ⟨n, hn⟩ : ∃ n, x.its.length = n := ⟨_, rfl⟩
  obtain ⟨ip, hip⟩ : ∃ n, x.ip = n := ⟨_, rfl⟩
  obtain ⟨ic, hic⟩ : ∃ n, x.ic = n := ⟨_, rfl⟩
  rw [hn, hip, hic] at IX c1
  clear b1 hx hr hxs hn hip hic S0 P0
  go_enter Tryz.func133, Tryz.ntmps133
  go_wp2_with fail
  refine IX.out.mono ?_
  rintro e w2 ⟨rfl, b2⟩
  go_wp2_with fail
  go_ret
  exact ⟨rfl, BW.out.trans (b2.mono BW.out.size)⟩
theorem lsS_all {α : Type} {E : α → α → Bool} : ∀ {l m : List α}, l.length = m.length → (∀ (i : Nat) (x y : α), l[i]? = some x → m[i]? = some y → E x y = true) → lsS E l m = true
  | [], [], _, _ => rfl
  | a :: l, b :: m, hl, h => by
    rw [lsS, h 0 a b rfl rfl, Bool.true_and]
    exact lsS_all (by simpa using hl) (fun i x y hx hy => h (i + 1) x y (by simpa using hx) (by simpa using hy))
theorem lsS_no {α : Type} {E : α → α → Bool} : ∀ {l m : List α} {i : Nat} {x y : α}, l[i]? = some x → m[i]? = some y → E x y = false → lsS E l m = false
  | a :: l, b :: m, 0, x, y, hx, hy, h => by
    obtain rfl : a = x := by simpa using hx
    obtain rfl : b = y := by simpa using hy
    rw [lsS, h, Bool.false_and]
  | a :: l, b :: m, i + 1, x, y, hx, hy, h => by
    rw [lsS, lsS_no (l := l) (m := m) (i := i) (by simpa using hx) (by simpa using hy) h, Bool.and_false]
theorem lsS_len {α : Type} {E : α → α → Bool} : ∀ {l m : List α}, l.length ≠ m.length → lsS E l m = false
  | [], [], h => absurd rfl h
  | [], _ :: _, _ => rfl
  | _ :: _, [], _ => rfl
  | a :: l, b :: m, h => by rw [lsS, lsS_len (l := l) (m := m) (by simpa using h), Bool.and_false]
theorem iv_oneA (x : Itv) : (iv x).toArray.all (·.oneCell') = true := by simp [iv, Value.oneCell']
theorem wv_oneA (x : Wtv) : (wv x).toArray.all (·.oneCell') = true := by simp [wv, Value.oneCell']
set_option maxRecDepth 100000 in
set_option maxHeartbeats 800000 in
theorem equalI_t (F : FuncId) (E : Itv → Itv → Bool) (l m : List Itv) (n k c d : Nat) (p q : Option Addr) (w : World) (hl : l.length = n) (hm : m.length = k) (hn : n ≤ 9223372036854775807) (hk : k ≤ 9223372036854775807) (hp : RowL w p 3 iv l) (hq : RowL w q 3 iv m)
    (hcf : ∀ args W, (callFunc F args).run Tryz.prog W = .ok (.enter F args) W)
    (hcall : ∀ x y W, x ∈ l → y ∈ m → Below w.heap.size w W → Calls Tryz.prog F #[.agg (iv x).toArray, .agg (iv y).toArray] W fun e W' => e = .returned (.bool (E x y)) ∧ Below W.heap.size W W') :
    Calls Tryz.prog 65 #[.slice p n c, .slice q k d, .func (.func F) #[] #[]] w fun e w' => e = .returned (.bool (lsS E l m)) ∧ Below w.heap.size w w' := by
  by_cases hnk : n = k
  · subst hnk
    have HP := Lib.hid hp; have HQ := Lib.hid hq; have HC := Lib.hid hcall
    have IS := Lib.hid (lsS_all (E := E) (l := l) (m := m) (by omega)); have IN := Lib.hid (fun i x y => lsS_no (E := E) (l := l) (m := m) (i := i) (x := x) (y := y))
    obtain ⟨r, hr⟩ : ∃ r, lsS E l m = r := ⟨_, rfl⟩
    rw [hr] at IS IN ⊢
    clear hp hq hcall hr
    go_enter Tryz.func65, Tryz.ntmps65
    go_upto_region 4 with (fail)
    go_loopw [17] (fun x wr => ∃ j : Nat, j ≤ n ∧ x = .int .i64 (j : Int) ∧ Below w.heap.size w wr ∧ ∀ (i : Nat) (x y : Itv), i < j → l[i]? = some x → m[i]? = some y → E x y = true) (fun x _ => n - (intOf x).toNat)
    case atStart => exact ⟨0, by omega, rfl, Below.refl _ _, fun i x y hi => absurd hi (by omega)⟩
    case round =>
      obtain ⟨j, hj, rfl, bw, hb⟩ := hrel
      have BW := Lib.hid bw; have HB := Lib.hid hb
      clear bw hb
      by_cases hlt : j < n
      · have hx : l[j]? = some l[j] := List.getElem?_eq_getElem (by omega)
        have hy : m[j]? = some m[j] := List.getElem?_eq_getElem (by omega)
        obtain ⟨x, hxe⟩ : ∃ x, l[j] = x := ⟨_, rfl⟩
        obtain ⟨y, hye⟩ : ∃ x, m[j] = x := ⟨_, rfl⟩
        rw [hxe] at hx
        rw [hye] at hy
        have HX := Lib.hid hx; have HY := Lib.hid hy
        obtain ⟨b, o, rfl, hbl, rg⟩ := HP.out j x hx
        obtain ⟨b', o', rfl, hbl', rg'⟩ := HQ.out j y hy
        have W1 := Lib.hid (below_setRow ((Below.refl wr.heap.size wr).alloc (Nat.le_refl _) (.cells #[.int .i64 0, .int .i64 0, .slice none 0 0] 62)) (Nat.le_refl _) (iv x).toArray)
        have RG := Lib.hid (rows_below rg BW.out hbl)
        have RG' := Lib.hid (rows_below (rows_below rg' BW.out hbl') W1.out (Nat.lt_of_lt_of_le hbl' BW.out.size))
        have FS := Lib.hid (iv_size x); have FS' := Lib.hid (iv_size y); have F1 := Lib.hid (iv_oneA x); have F1' := Lib.hid (iv_oneA y)
        have j1 : (j : Int) < (n : Int) := by omega
        have nB : (n : Int) ≤ 9223372036854775807 := by omega
        have A0 := Lib.hid (Blk.new wr 62 [.int .i64 0, .int .i64 0, .slice none 0 0])
        have A1 := Lib.hid (A0.out.setRow (iv x))
        obtain ⟨V, hV⟩ : ∃ V, (wr.alloc (.cells #[.int .i64 0, .int .i64 0, .slice none 0 0] 62)).setRow wr.heap.size (iv x).toArray = V := ⟨_, rfl⟩
        have HV := Lib.hid hV
        rw [hV] at A1 RG' W1
        have C0 := Lib.hid (Blk.new V 62 [.int .i64 0, .int .i64 0, .slice none 0 0])
        have C1 := Lib.hid (C0.out.setRow (iv y))
        have W2 := Lib.hid (below_setRow ((Below.refl V.heap.size V).alloc (Nat.le_refl _) (.cells #[.int .i64 0, .int .i64 0, .slice none 0 0] 62)) (Nat.le_refl _) (iv y).toArray)
        have D1 := Lib.hid (A1.out.below W2.out A1.out.lt)
        have WX := Lib.hid (BW.out.trans ((W1.out.trans (W2.out.mono W1.out.size)).mono BW.out.size))
        have CX := Lib.hid (HC.out x y _ (List.mem_of_getElem? hx) (List.mem_of_getElem? hy) WX.out)
        clear rg rg' hx hy hxe hye hbl hbl' hV
        go_upto_region 6 with (first
          | ((with_reducible refine at_op (.load 62 (.tmp 20)) rfl ?_); go_must (refine wpList_load_mid rfl 62 (.tmp 20) rfl b (o + j * 3) rfl (iv x) _ RG.out Tryz.underlying62 rfl FS.out ?_))
          | ((with_reducible refine store_blk 62 (.tmp 8) (.tmp 21) wr.heap.size 62 [.int .i64 0, .int .i64 0, .slice none 0 0] (iv x) rfl rfl ?_ ?_ ?_ ?_ ?_ ?_ ?_); exact A0.out; exact rfl; exact FS.out; exact F1.out; exact rfl; exact rfl))
        rw [HV.out]
        go_wp2_with (first
          | ((with_reducible refine at_op (.load 62 (.tmp 24)) rfl ?_); go_must (refine wpList_load_mid rfl 62 (.tmp 24) rfl b' (o' + j * 3) rfl (iv y) _ RG'.out Tryz.underlying62 rfl FS'.out ?_))
          | ((with_reducible refine store_blk 62 (.tmp 9) (.tmp 25) V.heap.size 62 [.int .i64 0, .int .i64 0, .slice none 0 0] (iv y) rfl rfl ?_ ?_ ?_ ?_ ?_ ?_ ?_); exact C0.out; exact rfl; exact FS'.out; exact F1'.out; exact rfl; exact rfl)
          | ((with_reducible refine load_blk 62 (.tmp 8) wr.heap.size 62 (iv x) _ rfl rfl ?_ Tryz.underlying62 ?_ ?_ ?_ ?_); exact D1.out; exact rfl; exact FS.out; exact rfl)
          | ((with_reducible refine load_blk 62 (.tmp 9) V.heap.size 62 (iv y) _ rfl rfl ?_ Tryz.underlying62 ?_ ?_ ?_ ?_); exact C1.out; exact rfl; exact FS'.out; exact rfl))
        refine CX.out.mono ?_
        rintro e w2 ⟨rfl, b2⟩
        have B2 := Lib.hid (WX.out.trans (b2.mono WX.out.size))
        clear b2 BW RG RG' FS FS' CX A0 A1 C0 C1 D1 W1 W2 WX F1 F1'
        cases hb : E x y with
        | false =>
          have hR := IN.out j x y HX.out HY.out hb
          subst hR
          clear hb IS IN
          go_wp2_with fail
          go_ret
          exact ⟨rfl, B2.out⟩
        | true =>
          have HB2 := Lib.hid (show ∀ (i : Nat) (x y : Itv), i < j + 1 → l[i]? = some x → m[i]? = some y → E x y = true from fun i x' y' hi hx' hy' => by
            rcases Nat.lt_or_ge i j with h | h
            · exact HB.out i x' y' h hx' hy'
            · obtain rfl : i = j := by omega
              rw [HX.out] at hx'
              rw [HY.out] at hy'
              obtain rfl := Option.some.inj hx'
              obtain rfl := Option.some.inj hy'
              exact hb)
          clear hb
          go_wp2_with fail
          go_roundw
          case rel => exact ⟨j + 1, hlt, by go_num, B2.out, HB2.out⟩
          case measure => simp [intOf]; omega
      · obtain rfl : j = n := by omega
        have hR := IS.out (fun i x y hx hy => HB.out i x y (by have := (List.getElem?_eq_some_iff.1 hx).1; omega) hx hy)
        subst hR
        clear hlt IS IN
        go_wp2_with fail
        go_ret
        exact ⟨rfl, BW.out⟩
  · have hR : lsS E l m = false := lsS_len (by omega)
    have e1 : ((n : Int) != (k : Int)) = true := by rw [bne_iff_ne]; omega
    rw [hR]
    clear hR hcall hp hq
    go_enter Tryz.func65, Tryz.ntmps65
    go_wp2_with fail
    go_ret
    exact ⟨rfl, Below.refl _ _⟩
set_option maxRecDepth 100000 in
set_option maxHeartbeats 800000 in
theorem equalW_t (F : FuncId) (E : Wtv → Wtv → Bool) (l m : List Wtv) (n k c d : Nat) (p q : Option Addr) (w : World) (hl : l.length = n) (hm : m.length = k) (hn : n ≤ 9223372036854775807) (hk : k ≤ 9223372036854775807) (hp : RowL w p 4 wv l) (hq : RowL w q 4 wv m)
    (hcf : ∀ args W, (callFunc F args).run Tryz.prog W = .ok (.enter F args) W)
    (hcall : ∀ x y W, x ∈ l → y ∈ m → Below w.heap.size w W → Calls Tryz.prog F #[.agg (wv x).toArray, .agg (wv y).toArray] W fun e W' => e = .returned (.bool (E x y)) ∧ Below W.heap.size W W') :
    Calls Tryz.prog 67 #[.slice p n c, .slice q k d, .func (.func F) #[] #[]] w fun e w' => e = .returned (.bool (lsS E l m)) ∧ Below w.heap.size w w' := by
  by_cases hnk : n = k
  · subst hnk
    have HP := Lib.hid hp; have HQ := Lib.hid hq; have HC := Lib.hid hcall
    have IS := Lib.hid (lsS_all (E := E) (l := l) (m := m) (by omega)); have IN := Lib.hid (fun i x y => lsS_no (E := E) (l := l) (m := m) (i := i) (x := x) (y := y))
    obtain ⟨r, hr⟩ : ∃ r, lsS E l m = r := ⟨_, rfl⟩
    rw [hr] at IS IN ⊢
    clear hp hq hcall hr
    go_enter Tryz.func67, Tryz.ntmps67
    go_upto_region 4 with (fail)
    go_loopw [17] (fun x wr => ∃ j : Nat, j ≤ n ∧ x = .int .i64 (j : Int) ∧ Below w.heap.size w wr ∧ ∀ (i : Nat) (x y : Wtv), i < j → l[i]? = some x → m[i]? = some y → E x y = true) (fun x _ => n - (intOf x).toNat)
    case atStart => exact ⟨0, by omega, rfl, Below.refl _ _, fun i x y hi => absurd hi (by omega)⟩
    case round =>
      obtain ⟨j, hj, rfl, bw, hb⟩ := hrel
      have BW := Lib.hid bw; have HB := Lib.hid hb
      clear bw hb
      by_cases hlt : j < n
      · have hx : l[j]? = some l[j] := List.getElem?_eq_getElem (by omega)
        have hy : m[j]? = some m[j] := List.getElem?_eq_getElem (by omega)
        obtain ⟨x, hxe⟩ : ∃ x, l[j] = x := ⟨_, rfl⟩
        obtain ⟨y, hye⟩ : ∃ x, m[j] = x := ⟨_, rfl⟩
        rw [hxe] at hx
        rw [hye] at hy
        have HX := Lib.hid hx; have HY := Lib.hid hy
        obtain ⟨b, o, rfl, hbl, rg⟩ := HP.out j x hx
        obtain ⟨b', o', rfl, hbl', rg'⟩ := HQ.out j y hy
        have W1 := Lib.hid (below_setRow ((Below.refl wr.heap.size wr).alloc (Nat.le_refl _) (.cells #[.int .i64 0, .int .i64 0, .bool false, .slice none 0 0] 64)) (Nat.le_refl _) (wv x).toArray)
        have RG := Lib.hid (rows_below rg BW.out hbl)
        have RG' := Lib.hid (rows_below (rows_below rg' BW.out hbl') W1.out (Nat.lt_of_lt_of_le hbl' BW.out.size))
        have FS := Lib.hid (wv_size x); have FS' := Lib.hid (wv_size y); have F1 := Lib.hid (wv_oneA x); have F1' := Lib.hid (wv_oneA y)
        have j1 : (j : Int) < (n : Int) := by omega
        have nB : (n : Int) ≤ 9223372036854775807 := by omega
        have A0 := Lib.hid (Blk.new wr 64 [.int .i64 0, .int .i64 0, .bool false, .slice none 0 0])
        have A1 := Lib.hid (A0.out.setRow (wv x))
        obtain ⟨V, hV⟩ : ∃ V, (wr.alloc (.cells #[.int .i64 0, .int .i64 0, .bool false, .slice none 0 0] 64)).setRow wr.heap.size (wv x).toArray = V := ⟨_, rfl⟩
        have HV := Lib.hid hV
        rw [hV] at A1 RG' W1
        have C0 := Lib.hid (Blk.new V 64 [.int .i64 0, .int .i64 0, .bool false, .slice none 0 0])
        have C1 := Lib.hid (C0.out.setRow (wv y))
        have W2 := Lib.hid (below_setRow ((Below.refl V.heap.size V).alloc (Nat.le_refl _) (.cells #[.int .i64 0, .int .i64 0, .bool false, .slice none 0 0] 64)) (Nat.le_refl _) (wv y).toArray)
        have D1 := Lib.hid (A1.out.below W2.out A1.out.lt)
        have WX := Lib.hid (BW.out.trans ((W1.out.trans (W2.out.mono W1.out.size)).mono BW.out.size))
        have CX := Lib.hid (HC.out x y _ (List.mem_of_getElem? hx) (List.mem_of_getElem? hy) WX.out)
        clear rg rg' hx hy hxe hye hbl hbl' hV
        go_upto_region 6 with (first
          | ((with_reducible refine at_op (.load 64 (.tmp 20)) rfl ?_); go_must (refine wpList_load_mid rfl 64 (.tmp 20) rfl b (o + j * 4) rfl (wv x) _ RG.out Tryz.underlying64 rfl FS.out ?_))
          | ((with_reducible refine store_blk 64 (.tmp 8) (.tmp 21) wr.heap.size 64 [.int .i64 0, .int .i64 0, .bool false, .slice none 0 0] (wv x) rfl rfl ?_ ?_ ?_ ?_ ?_ ?_ ?_); exact A0.out; exact rfl; exact FS.out; exact F1.out; exact rfl; exact rfl))
        rw [HV.out]
        go_wp2_with (first
          | ((with_reducible refine at_op (.load 64 (.tmp 24)) rfl ?_); go_must (refine wpList_load_mid rfl 64 (.tmp 24) rfl b' (o' + j * 4) rfl (wv y) _ RG'.out Tryz.underlying64 rfl FS'.out ?_))
          | ((with_reducible refine store_blk 64 (.tmp 9) (.tmp 25) V.heap.size 64 [.int .i64 0, .int .i64 0, .bool false, .slice none 0 0] (wv y) rfl rfl ?_ ?_ ?_ ?_ ?_ ?_ ?_); exact C0.out; exact rfl; exact FS'.out; exact F1'.out; exact rfl; exact rfl)
          | ((with_reducible refine load_blk 64 (.tmp 8) wr.heap.size 64 (wv x) _ rfl rfl ?_ Tryz.underlying64 ?_ ?_ ?_ ?_); exact D1.out; exact rfl; exact FS.out; exact rfl)
          | ((with_reducible refine load_blk 64 (.tmp 9) V.heap.size 64 (wv y) _ rfl rfl ?_ Tryz.underlying64 ?_ ?_ ?_ ?_); exact C1.out; exact rfl; exact FS'.out; exact rfl))
        refine CX.out.mono ?_
        rintro e w2 ⟨rfl, b2⟩
        have B2 := Lib.hid (WX.out.trans (b2.mono WX.out.size))
        clear b2 BW RG RG' FS FS' CX A0 A1 C0 C1 D1 W1 W2 WX F1 F1'
        cases hb : E x y with
        | false =>
          have hR := IN.out j x y HX.out HY.out hb
          subst hR
          clear hb IS IN
          go_wp2_with fail
          go_ret
          exact ⟨rfl, B2.out⟩
        | true =>
          have HB2 := Lib.hid (show ∀ (i : Nat) (x y : Wtv), i < j + 1 → l[i]? = some x → m[i]? = some y → E x y = true from fun i x' y' hi hx' hy' => by
            rcases Nat.lt_or_ge i j with h | h
            · exact HB.out i x' y' h hx' hy'
            · obtain rfl : i = j := by omega
              rw [HX.out] at hx'
              rw [HY.out] at hy'
              obtain rfl := Option.some.inj hx'
              obtain rfl := Option.some.inj hy'
              exact hb)
          clear hb
          go_wp2_with fail
          go_roundw
          case rel => exact ⟨j + 1, hlt, by go_num, B2.out, HB2.out⟩
          case measure => simp [intOf]; omega
      · obtain rfl : j = n := by omega
        have hR := IS.out (fun i x y hx hy => HB.out i x y (by have := (List.getElem?_eq_some_iff.1 hx).1; omega) hx hy)
        subst hR
        clear hlt IS IN
        go_wp2_with fail
        go_ret
        exact ⟨rfl, BW.out⟩
  · have hR : lsS E l m = false := lsS_len (by omega)
    have e1 : ((n : Int) != (k : Int)) = true := by rw [bne_iff_ne]; omega
    rw [hR]
    clear hR hcall hp hq
    go_enter Tryz.func67, Tryz.ntmps67
    go_wp2_with fail
    go_ret
    exact ⟨rfl, Below.refl _ _⟩
set_option maxRecDepth 100000 in
set_option maxHeartbeats 800000 in
theorem equalP_t (F : FuncId) (E : Rpv → Rpv → Bool) (l m : List Rpv) (n k c d : Nat) (p q : Option Addr) (w : World) (hl : l.length = n) (hm : m.length = k) (hn : n ≤ 9223372036854775807) (hk : k ≤ 9223372036854775807) (hp : RowL w p 5 pv l) (hq : RowL w q 5 pv m)
    (hcf : ∀ args W, (callFunc F args).run Tryz.prog W = .ok (.enter F args) W)
    (hcall : ∀ x y W, x ∈ l → y ∈ m → Below w.heap.size w W → Calls Tryz.prog F #[.agg (pv x).toArray, .agg (pv y).toArray] W fun e W' => e = .returned (.bool (E x y)) ∧ Below W.heap.size W W') :
    Calls Tryz.prog 69 #[.slice p n c, .slice q k d, .func (.func F) #[] #[]] w fun e w' => e = .returned (.bool (lsS E l m)) ∧ Below w.heap.size w w' := by
  by_cases hnk : n = k
  · subst hnk
    have HP := Lib.hid hp; have HQ := Lib.hid hq; have HC := Lib.hid hcall
    have IS := Lib.hid (lsS_all (E := E) (l := l) (m := m) (by omega)); have IN := Lib.hid (fun i x y => lsS_no (E := E) (l := l) (m := m) (i := i) (x := x) (y := y))
    obtain ⟨r, hr⟩ : ∃ r, lsS E l m = r := ⟨_, rfl⟩
    rw [hr] at IS IN ⊢
    clear hp hq hcall hr
    go_enter Tryz.func69, Tryz.ntmps69
    go_upto_region 4 with (fail)
    go_loopw [17] (fun x wr => ∃ j : Nat, j ≤ n ∧ x = .int .i64 (j : Int) ∧ Below w.heap.size w wr ∧ ∀ (i : Nat) (x y : Rpv), i < j → l[i]? = some x → m[i]? = some y → E x y = true) (fun x _ => n - (intOf x).toNat)
    case atStart => exact ⟨0, by omega, rfl, Below.refl _ _, fun i x y hi => absurd hi (by omega)⟩
    case round =>
      obtain ⟨j, hj, rfl, bw, hb⟩ := hrel
      have BW := Lib.hid bw; have HB := Lib.hid hb
      clear bw hb
      by_cases hlt : j < n
      · have hx : l[j]? = some l[j] := List.getElem?_eq_getElem (by omega)
        have hy : m[j]? = some m[j] := List.getElem?_eq_getElem (by omega)
        obtain ⟨x, hxe⟩ : ∃ x, l[j] = x := ⟨_, rfl⟩
        obtain ⟨y, hye⟩ : ∃ x, m[j] = x := ⟨_, rfl⟩
        rw [hxe] at hx
        rw [hye] at hy
        have HX := Lib.hid hx; have HY := Lib.hid hy
        obtain ⟨b, o, rfl, hbl, rg⟩ := HP.out j x hx
        obtain ⟨b', o', rfl, hbl', rg'⟩ := HQ.out j y hy
        have W1 := Lib.hid (below_setRow ((Below.refl wr.heap.size wr).alloc (Nat.le_refl _) (.cells #[.int .i64 0, .int .i64 0, .int .i64 0, .slice none 0 0, .bool false] 26)) (Nat.le_refl _) (pv x).toArray)
        have RG := Lib.hid (rows_below rg BW.out hbl)
        have RG' := Lib.hid (rows_below (rows_below rg' BW.out hbl') W1.out (Nat.lt_of_lt_of_le hbl' BW.out.size))
        have FS := Lib.hid (pv_size x); have FS' := Lib.hid (pv_size y); have F1 := Lib.hid (pv_oneA x); have F1' := Lib.hid (pv_oneA y)
        have j1 : (j : Int) < (n : Int) := by omega
        have nB : (n : Int) ≤ 9223372036854775807 := by omega
        have A0 := Lib.hid (Blk.new wr 26 [.int .i64 0, .int .i64 0, .int .i64 0, .slice none 0 0, .bool false])
        have A1 := Lib.hid (A0.out.setRow (pv x))
        obtain ⟨V, hV⟩ : ∃ V, (wr.alloc (.cells #[.int .i64 0, .int .i64 0, .int .i64 0, .slice none 0 0, .bool false] 26)).setRow wr.heap.size (pv x).toArray = V := ⟨_, rfl⟩
        have HV := Lib.hid hV
        rw [hV] at A1 RG' W1
        have C0 := Lib.hid (Blk.new V 26 [.int .i64 0, .int .i64 0, .int .i64 0, .slice none 0 0, .bool false])
        have C1 := Lib.hid (C0.out.setRow (pv y))
        have W2 := Lib.hid (below_setRow ((Below.refl V.heap.size V).alloc (Nat.le_refl _) (.cells #[.int .i64 0, .int .i64 0, .int .i64 0, .slice none 0 0, .bool false] 26)) (Nat.le_refl _) (pv y).toArray)
        have D1 := Lib.hid (A1.out.below W2.out A1.out.lt)
        have WX := Lib.hid (BW.out.trans ((W1.out.trans (W2.out.mono W1.out.size)).mono BW.out.size))
        have CX := Lib.hid (HC.out x y _ (List.mem_of_getElem? hx) (List.mem_of_getElem? hy) WX.out)
        clear rg rg' hx hy hxe hye hbl hbl' hV
        go_upto_region 6 with (first
          | ((with_reducible refine at_op (.load 26 (.tmp 20)) rfl ?_); go_must (refine wpList_load_mid rfl 26 (.tmp 20) rfl b (o + j * 5) rfl (pv x) _ RG.out Tryz.underlying26 rfl FS.out ?_))
          | ((with_reducible refine store_blk 26 (.tmp 8) (.tmp 21) wr.heap.size 26 [.int .i64 0, .int .i64 0, .int .i64 0, .slice none 0 0, .bool false] (pv x) rfl rfl ?_ ?_ ?_ ?_ ?_ ?_ ?_); exact A0.out; exact rfl; exact FS.out; exact F1.out; exact rfl; exact rfl))
        rw [HV.out]
        go_wp2_with (first
          | ((with_reducible refine at_op (.load 26 (.tmp 24)) rfl ?_); go_must (refine wpList_load_mid rfl 26 (.tmp 24) rfl b' (o' + j * 5) rfl (pv y) _ RG'.out Tryz.underlying26 rfl FS'.out ?_))
          | ((with_reducible refine store_blk 26 (.tmp 9) (.tmp 25) V.heap.size 26 [.int .i64 0, .int .i64 0, .int .i64 0, .slice none 0 0, .bool false] (pv y) rfl rfl ?_ ?_ ?_ ?_ ?_ ?_ ?_); exact C0.out; exact rfl; exact FS'.out; exact F1'.out; exact rfl; exact rfl)
          | ((with_reducible refine load_blk 26 (.tmp 8) wr.heap.size 26 (pv x) _ rfl rfl ?_ Tryz.underlying26 ?_ ?_ ?_ ?_); exact D1.out; exact rfl; exact FS.out; exact rfl)
          | ((with_reducible refine load_blk 26 (.tmp 9) V.heap.size 26 (pv y) _ rfl rfl ?_ Tryz.underlying26 ?_ ?_ ?_ ?_); exact C1.out; exact rfl; exact FS'.out; exact rfl))
        refine CX.out.mono ?_
        rintro e w2 ⟨rfl, b2⟩
        have B2 := Lib.hid (WX.out.trans (b2.mono WX.out.size))
        clear b2 BW RG RG' FS FS' CX A0 A1 C0 C1 D1 W1 W2 WX F1 F1'
        cases hb : E x y with
        | false =>
          have hR := IN.out j x y HX.out HY.out hb
          subst hR
          clear hb IS IN
          go_wp2_with fail
          go_ret
          exact ⟨rfl, B2.out⟩
        | true =>
          have HB2 := Lib.hid (show ∀ (i : Nat) (x y : Rpv), i < j + 1 → l[i]? = some x → m[i]? = some y → E x y = true from fun i x' y' hi hx' hy' => by
            rcases Nat.lt_or_ge i j with h | h
            · exact HB.out i x' y' h hx' hy'
            · obtain rfl : i = j := by omega
              rw [HX.out] at hx'
              rw [HY.out] at hy'
              obtain rfl := Option.some.inj hx'
              obtain rfl := Option.some.inj hy'
              exact hb)
          clear hb
          go_wp2_with fail
          go_roundw
          case rel => exact ⟨j + 1, hlt, by go_num, B2.out, HB2.out⟩
          case measure => simp [intOf]; omega
      · obtain rfl : j = n := by omega
        have hR := IS.out (fun i x y hx hy => HB.out i x y (by have := (List.getElem?_eq_some_iff.1 hx).1; omega) hx hy)
        subst hR
        clear hlt IS IN
        go_wp2_with fail
        go_ret
        exact ⟨rfl, BW.out⟩
  · have hR : lsS E l m = false := lsS_len (by omega)
    have e1 : ((n : Int) != (k : Int)) = true := by rw [bne_iff_ne]; omega
    rw [hR]
    clear hR hcall hp hq
    go_enter Tryz.func69, Tryz.ntmps69
    go_wp2_with fail
    go_ret
    exact ⟨rfl, Below.refl _ _⟩
theorem iv_cells {w : World} {g : Nat} {x : Itv} (h : Blk w g 62 (iv x)) :
    w.cell? ⟨g, 0, none⟩ = some (.int .i64 x.i.own) ∧ w.cell? ⟨g, 1, none⟩ = some (.int .i64 x.i.un) ∧ w.cell? ⟨g, 2, none⟩ = some (.slice x.p x.i.t.length x.c) := ⟨h.cell 0, h.cell 1, h.cell 2⟩
theorem wv_cells {w : World} {g : Nat} {x : Wtv} (h : Blk w g 64 (wv x)) :
    w.cell? ⟨g, 0, none⟩ = some (.int .i64 x.x.cl) ∧ w.cell? ⟨g, 1, none⟩ = some (.int .i64 x.x.sq) ∧ w.cell? ⟨g, 2, none⟩ = some (.bool x.x.tk) ∧ w.cell? ⟨g, 3, none⟩ = some (.slice x.p x.x.p.length x.c) := ⟨h.cell 0, h.cell 1, h.cell 2, h.cell 3⟩
set_option maxRecDepth 100000 in
theorem sameItem_t (x y : Itv) (w : World) (hx : TR w x.p x.i.t) (hy : TR w y.p y.i.t) :
    Calls Tryz.prog 66 #[.agg (iv x).toArray, .agg (iv y).toArray] w fun e w' => e = .returned (.bool (itS x.i y.i)) ∧ Below w.heap.size w w' := by
  have BA := Lib.hid ((Blk.new w 62 (iv x)).alloc (.cells (iv y).toArray 62))
  have BB := Lib.hid (Blk.new2 w (.cells (iv x).toArray 62) 62 (iv y))
  have BW := Lib.hid (((Below.refl w.heap.size w).alloc (Nat.le_refl _) (.cells (iv x).toArray 62)).alloc (by simp) (.cells (iv y).toArray 62))
  have ST := Lib.hid (show Calls _ _ _ _ fun e w' => e = .returned (.bool (sT x.i.t y.i.t)) ∧ _ from Same_t x.i.t.length x.c y.i.t.length y.c x.p y.p (gl x.i.t) (gl y.i.t) _ hx.n hy.n (hx.below BW.out).t (hy.below BW.out).t)
  obtain ⟨c0, c1, c2⟩ := iv_cells BA.out
  obtain ⟨d0, d1, d2⟩ := iv_cells BB.out
  have hs : itS x.i y.i = ((x.i.own == y.i.own) && ((x.i.un == y.i.un) && sT x.i.t y.i.t)) := rfl
  rw [hs]
  obtain ⟨xs, hxs⟩ : ∃ l, iv x = l := ⟨_, rfl⟩
  obtain ⟨ys, hys⟩ : ∃ l, iv y = l := ⟨_, rfl⟩
  rw [hxs, hys] at BA BB BW ST c0 c1 c2 d0 d1 d2 ⊢
  obtain ⟨s, hs⟩ : ∃ n, sT x.i.t y.i.t = n := ⟨_, rfl⟩
  rw [hs] at ST ⊢
  clear hs
  obtain ⟨p0, hp0⟩ : ∃ n, x.i.own = n := ⟨_, rfl⟩
  rw [hp0] at c0 ⊢
  clear hp0
  obtain ⟨p1, hp1⟩ : ∃ n, x.i.un = n := ⟨_, rfl⟩
  rw [hp1] at c1 ⊢
  clear hp1
  obtain ⟨q0, hq0⟩ : ∃ n, y.i.own = n := ⟨_, rfl⟩
  rw [hq0] at d0 ⊢
  clear hq0
  obtain ⟨q1, hq1⟩ : ∃ n, y.i.un = n := ⟨_, rfl⟩
  rw [hq1] at d1 ⊢
  clear hq1
  clear hx hy hs hxs hys BA BB
  cases e0 : (p0 == q0) with
  | false =>
    go_enter Tryz.func66, Tryz.ntmps66
    go_wp2_with fail
    go_ret
    exact ⟨rfl, BW.out⟩
  | true =>
  cases e1 : (p1 == q1) with
  | false =>
    go_enter Tryz.func66, Tryz.ntmps66
    go_wp2_with fail
    go_ret
    exact ⟨rfl, BW.out⟩
  | true =>
  go_enter Tryz.func66, Tryz.ntmps66
  go_wp2_with fail
  refine ST.out.mono ?_
  rintro e w2 ⟨rfl, b2⟩
  go_wp2_with fail
  go_ret
  exact ⟨rfl, BW.out.trans (b2.mono BW.out.size)⟩
set_option maxRecDepth 100000 in
theorem sameWaiter_t (x y : Wtv) (w : World) (hx : TR w x.p x.x.p) (hy : TR w y.p y.x.p) :
    Calls Tryz.prog 68 #[.agg (wv x).toArray, .agg (wv y).toArray] w fun e w' => e = .returned (.bool (wtS x.x y.x)) ∧ Below w.heap.size w w' := by
  have BA := Lib.hid ((Blk.new w 64 (wv x)).alloc (.cells (wv y).toArray 64))
  have BB := Lib.hid (Blk.new2 w (.cells (wv x).toArray 64) 64 (wv y))
  have BW := Lib.hid (((Below.refl w.heap.size w).alloc (Nat.le_refl _) (.cells (wv x).toArray 64)).alloc (by simp) (.cells (wv y).toArray 64))
  have ST := Lib.hid (show Calls _ _ _ _ fun e w' => e = .returned (.bool (sT x.x.p y.x.p)) ∧ _ from Same_t x.x.p.length x.c y.x.p.length y.c x.p y.p (gl x.x.p) (gl y.x.p) _ hx.n hy.n (hx.below BW.out).t (hy.below BW.out).t)
  obtain ⟨c0, c1, c2, c3⟩ := wv_cells BA.out
  obtain ⟨d0, d1, d2, d3⟩ := wv_cells BB.out
  have hs : wtS x.x y.x = ((x.x.cl == y.x.cl) && ((x.x.sq == y.x.sq) && ((x.x.tk == y.x.tk) && sT x.x.p y.x.p))) := rfl
  rw [hs]
  obtain ⟨xs, hxs⟩ : ∃ l, wv x = l := ⟨_, rfl⟩
  obtain ⟨ys, hys⟩ : ∃ l, wv y = l := ⟨_, rfl⟩
  rw [hxs, hys] at BA BB BW ST c0 c1 c2 c3 d0 d1 d2 d3 ⊢
  obtain ⟨s, hs⟩ : ∃ n, sT x.x.p y.x.p = n := ⟨_, rfl⟩
  rw [hs] at ST ⊢
  clear hs
  obtain ⟨p0, hp0⟩ : ∃ n, x.x.cl = n := ⟨_, rfl⟩
  rw [hp0] at c0 ⊢
  clear hp0
  obtain ⟨p1, hp1⟩ : ∃ n, x.x.sq = n := ⟨_, rfl⟩
  rw [hp1] at c1 ⊢
  clear hp1
  obtain ⟨p2, hp2⟩ : ∃ n, x.x.tk = n := ⟨_, rfl⟩
  rw [hp2] at c2 ⊢
  clear hp2
  obtain ⟨q0, hq0⟩ : ∃ n, y.x.cl = n := ⟨_, rfl⟩
  rw [hq0] at d0 ⊢
  clear hq0
  obtain ⟨q1, hq1⟩ : ∃ n, y.x.sq = n := ⟨_, rfl⟩
  rw [hq1] at d1 ⊢
  clear hq1
  obtain ⟨q2, hq2⟩ : ∃ n, y.x.tk = n := ⟨_, rfl⟩
  rw [hq2] at d2 ⊢
  clear hq2
  clear hx hy hs hxs hys BA BB
  cases e0 : (p0 == q0) with
  | false =>
    go_enter Tryz.func68, Tryz.ntmps68
    go_wp2_with fail
    go_ret
    exact ⟨rfl, BW.out⟩
  | true =>
  cases e1 : (p1 == q1) with
  | false =>
    go_enter Tryz.func68, Tryz.ntmps68
    go_wp2_with fail
    go_ret
    exact ⟨rfl, BW.out⟩
  | true =>
  cases p2 <;> cases q2
  · skip
    go_enter Tryz.func68, Tryz.ntmps68
    go_wp2_with fail
    refine ST.out.mono ?_
    rintro e w2 ⟨rfl, b2⟩
    go_wp2_with fail
    go_ret
    exact ⟨rfl, BW.out.trans (b2.mono BW.out.size)⟩
  · skip
    go_enter Tryz.func68, Tryz.ntmps68
    go_wp2_with fail
    go_ret
    exact ⟨rfl, BW.out⟩
  · skip
    go_enter Tryz.func68, Tryz.ntmps68
    go_wp2_with fail
    go_ret
    exact ⟨rfl, BW.out⟩
  · skip
    go_enter Tryz.func68, Tryz.ntmps68
    go_wp2_with fail
    refine ST.out.mono ?_
    rintro e w2 ⟨rfl, b2⟩
    go_wp2_with fail
    go_ret
    exact ⟨rfl, BW.out.trans (b2.mono BW.out.size)⟩
set_option maxRecDepth 100000 in
theorem sameReply_t (x y : Rpv) (w : World) (hx : TR w x.p x.r.t) (hy : TR w y.p y.r.t) :
    Calls Tryz.prog 70 #[.agg (pv x).toArray, .agg (pv y).toArray] w fun e w' => e = .returned (.bool (rpS x.r y.r)) ∧ Below w.heap.size w w' := by
  have BA := Lib.hid ((Blk.new w 26 (pv x)).alloc (.cells (pv y).toArray 26))
  have BB := Lib.hid (Blk.new2 w (.cells (pv x).toArray 26) 26 (pv y))
  have BW := Lib.hid (((Below.refl w.heap.size w).alloc (Nat.le_refl _) (.cells (pv x).toArray 26)).alloc (by simp) (.cells (pv y).toArray 26))
  have ST := Lib.hid (show Calls _ _ _ _ fun e w' => e = .returned (.bool (sT x.r.t y.r.t)) ∧ _ from Same_t x.r.t.length x.c y.r.t.length y.c x.p y.p (gl x.r.t) (gl y.r.t) _ hx.n hy.n (hx.below BW.out).t (hy.below BW.out).t)
  obtain ⟨c0, c1, c2, c3, c4⟩ := pv_cells BA.out
  obtain ⟨d0, d1, d2, d3, d4⟩ := pv_cells BB.out
  have hs : rpS x.r y.r = ((x.r.cl == y.r.cl) && ((x.r.sq == y.r.sq) && ((x.r.kd == y.r.kd) && ((x.r.lt == y.r.lt) && sT x.r.t y.r.t)))) := rfl
  rw [hs]
  obtain ⟨xs, hxs⟩ : ∃ l, pv x = l := ⟨_, rfl⟩
  obtain ⟨ys, hys⟩ : ∃ l, pv y = l := ⟨_, rfl⟩
  rw [hxs, hys] at BA BB BW ST c0 c1 c2 c3 c4 d0 d1 d2 d3 d4 ⊢
  obtain ⟨s, hs⟩ : ∃ n, sT x.r.t y.r.t = n := ⟨_, rfl⟩
  rw [hs] at ST ⊢
  clear hs
  obtain ⟨p0, hp0⟩ : ∃ n, x.r.cl = n := ⟨_, rfl⟩
  rw [hp0] at c0 ⊢
  clear hp0
  obtain ⟨p1, hp1⟩ : ∃ n, x.r.sq = n := ⟨_, rfl⟩
  rw [hp1] at c1 ⊢
  clear hp1
  obtain ⟨p2, hp2⟩ : ∃ n, x.r.kd = n := ⟨_, rfl⟩
  rw [hp2] at c2 ⊢
  clear hp2
  obtain ⟨p4, hp4⟩ : ∃ n, x.r.lt = n := ⟨_, rfl⟩
  rw [hp4] at c4 ⊢
  clear hp4
  obtain ⟨q0, hq0⟩ : ∃ n, y.r.cl = n := ⟨_, rfl⟩
  rw [hq0] at d0 ⊢
  clear hq0
  obtain ⟨q1, hq1⟩ : ∃ n, y.r.sq = n := ⟨_, rfl⟩
  rw [hq1] at d1 ⊢
  clear hq1
  obtain ⟨q2, hq2⟩ : ∃ n, y.r.kd = n := ⟨_, rfl⟩
  rw [hq2] at d2 ⊢
  clear hq2
  obtain ⟨q4, hq4⟩ : ∃ n, y.r.lt = n := ⟨_, rfl⟩
  rw [hq4] at d4 ⊢
  clear hq4
  clear hx hy hs hxs hys BA BB
  cases e0 : (p0 == q0) with
  | false =>
    go_enter Tryz.func70, Tryz.ntmps70
    go_wp2_with fail
    go_ret
    exact ⟨rfl, BW.out⟩
  | true =>
  cases e1 : (p1 == q1) with
  | false =>
    go_enter Tryz.func70, Tryz.ntmps70
    go_wp2_with fail
    go_ret
    exact ⟨rfl, BW.out⟩
  | true =>
  cases e2 : (p2 == q2) with
  | false =>
    go_enter Tryz.func70, Tryz.ntmps70
    go_wp2_with fail
    go_ret
    exact ⟨rfl, BW.out⟩
  | true =>
  cases p4 <;> cases q4
  · skip
    go_enter Tryz.func70, Tryz.ntmps70
    go_wp2_with fail
    refine ST.out.mono ?_
    rintro e w2 ⟨rfl, b2⟩
    go_wp2_with fail
    go_ret
    exact ⟨rfl, BW.out.trans (b2.mono BW.out.size)⟩
  · skip
    go_enter Tryz.func70, Tryz.ntmps70
    go_wp2_with fail
    go_ret
    exact ⟨rfl, BW.out⟩
  · skip
    go_enter Tryz.func70, Tryz.ntmps70
    go_wp2_with fail
    go_ret
    exact ⟨rfl, BW.out⟩
  · skip
    go_enter Tryz.func70, Tryz.ntmps70
    go_wp2_with fail
    refine ST.out.mono ?_
    rintro e w2 ⟨rfl, b2⟩
    go_wp2_with fail
    go_ret
    exact ⟨rfl, BW.out.trans (b2.mono BW.out.size)⟩
end Go.Proofs.YtojianpbjckipaaGreatDoor
