/-
  PACKAGE hss, OF ANY BYTES: readKey, partSize, holds and Verify where the length is wrong.
-/
import Derived.Test.YtohgggblnnokeaaGreatDoorHsA
namespace Go.Proofs.YtohgggblnnokeaaGreatDoor
open Go Go.RowKit Sh

/-- The form of a public key of chapter 5. -/
def hform (xs : List Nat) : Bool := decide (xs.length = 60 ∧ 1 ≤ val (xs.take 4) ∧ val (xs.take 4) ≤ 2 ∧ formN (xs.drop 4) = true)
theorem built_hk (n : Int) (A : Option Addr) (m c : Nat) : Tryz.prog.built 82 [(0, .int .i64 n), (1, .slice A m c)] = some (hkv n (.slice A m c)).toArray := by kernel_rfl
theorem sr_setRow {w : World} {p : Option Addr} {xs : List Nat} {g : Nat} (h : Sr w p xs) (hf : ∀ a : Addr, p = some a → a.block ≠ g) (c : Array Value) : Sr (w.setRow g c) p xs := fun hx => by
  obtain ⟨b, o, rfl, hlt, hc⟩ := h hx
  refine ⟨b, o, rfl, by simpa using hlt, fun j hj => ?_⟩
  have hne : b ≠ g := hf _ rfl
  rw [← hc j hj]
  simp only [World.cell?, setRow_other w g b c hne]
theorem world_at2 {P : Program} {c : Code} {Q : Exit → Act → World → Prop} {a : Act} {w : World} (R : World → Prop) (h : R w) (k : ∀ W, R W → Code.wp P c Q a W) : Code.wp P c Q a w := k w h
set_option maxRecDepth 100000 in
set_option maxHeartbeats 1000000 in
theorem hrk_60 (xs : List Nat) (A : Option Addr) (c : Nat) (w : World) (hx : xs.length = 60) (hp : Sr w A xs) (hb : Bytes xs) (hk : KI w) :
    Calls Tryz.prog 30 #[.slice A 60 c] w fun e w' => Below w.heap.size w w' ∧ ((hform xs = false ∧ e = .returned (.tuple #[.agg (hkv 0 (.slice none 0 0)).toArray, .bool false])) ∨ (hform xs = true ∧ ∃ A' c', e = .returned (.tuple #[.agg (hkv (val (xs.take 4) : Nat) (.slice A' 56 c')).toArray, .bool true]) ∧ 56 ≤ c' ∧ Sr w' A' (xs.drop 4))) := by
  have HX := Lib.hid hx; have HP := Lib.hid hp; have HB := Lib.hid hb; have HK := Lib.hid hk
  have R0 := Lib.hid (Blk.new w 82 (hkv 0 (.slice none 0 0)))
  have B0 := Lib.hid ((Below.refl w.heap.size w).alloc (Nat.le_refl _) (.cells (hkv 0 (.slice none 0 0)).toArray 82))
  clear hx hp hb hk
  have hv1 := val_lt (xs.take 4) (bytes_take HB.out 4)
  rw [List.length_take, HX.out, show min 4 60 = 4 from rfl] at hv1
  obtain ⟨v, hv⟩ : ∃ v, val (xs.take 4) = v := ⟨_, rfl⟩
  obtain ⟨ys, hys⟩ : ∃ ys, xs.drop 4 = ys := ⟨_, rfl⟩
  have HYL := Lib.hid (show ys.length = 56 by rw [← hys, List.length_drop, HX.out])
  have HYB := Lib.hid (show Bytes ys by rw [← hys]; exact bytes_drop HB.out 4)
  rw [hv] at hv1 ⊢
  rw [hys]
  have HV := Lib.hid hv; have HD := Lib.hid hys
  have vw : IntKind.i64.wrap (v : Int) = (v : Int) := IntWalk.i64_in _ (by omega)
  clear hv hys
  go_enter Tryz.func30, Tryz.ntmps30
  go_wp2_with fail
  refine (rnew_t xs A 60 c _ HX.out (HP.out.below B0.out) (by decide)).mono ?_
  rintro e w1 ⟨g, rfl, hg, r1, b1⟩
  have hg1 : w.heap.size < g := by have := R0.out.lt; omega
  have B1 := Lib.hid (B0.out.trans (b1.mono B0.out.size)); have R1 := Lib.hid (R0.out.below b1 R0.out.lt); have D1 := Lib.hid r1
  clear b1 r1 hg R0 B0 HP
  go_wp2_with fail
  refine (rnum_ok g xs false 4 w1 D1.out HB.out (by decide) (by decide) (by rw [HX.out]; decide) (by rw [HX.out]; decide)).mono ?_
  rintro e w2 ⟨rfl, r2, k2⟩
  have bb := k2.at_below (B := w.heap.size) (by omega) B1.out.size
  have B2 := Lib.hid (B1.out.trans bb); have R2 := Lib.hid (R1.out.kept k2 (by omega)); have D2 := Lib.hid r2
  clear bb r2 k2 B1 R1 D1
  rw [HV.out]
  rw [HD.out] at D2
  go_wp2_with fail
  refine (raw_ok g ys false 56 w2 D2.out (by rw [HYL.out]; decide) (by rw [HYL.out]; decide)).mono ?_
  rintro e w3 ⟨u, rfl, o3, r3, k3⟩
  obtain ⟨A, c, rfl, hcc⟩ := own_form o3
  have hbl := o3.lt
  have S3 := Lib.hid (show Sr w3 A ys by have := Sr.of_own o3; rwa [List.take_of_length_le (by rw [HYL.out]; decide)] at this)
  have bb := k3.at_below (B := w.heap.size) (by omega) B2.out.size
  have B3 := Lib.hid (B2.out.trans bb); have R3 := Lib.hid (R2.out.kept k3 (by omega))
  have hlt2 := R2.out.lt
  have HAW := Lib.hid (show ∀ a : Addr, A = some a → a.block ≠ w.heap.size from fun a ha => by
    subst ha
    have := (hbl a.block rfl).1
    omega)
  have HCC := Lib.hid hcc
  have BH := built_hk (v : Int) A 56 c
  clear bb r3 k3 o3 B2 R2 D2 hbl hcc hlt2 HB
  go_upto_region 5 with (fail)
  refine world_at2 (fun Y => Blk Y w3.heap.size 82 (hkv v (.slice A 56 c)) ∧ Blk Y w.heap.size 82 (hkv 0 (.slice none 0 0)) ∧ Sr Y A ys ∧ Below w.heap.size w Y)
    ⟨Blk.new w3 _ (hkv v (.slice A 56 c)), R3.out.alloc _, S3.out.below ((Below.refl _ _).alloc (Nat.le_refl _) _), B3.out.alloc B3.out.size _⟩ ?_
  rintro Y ⟨f4, r4, s4, b4⟩
  obtain ⟨g5, hg5⟩ : ∃ x, w3.heap.size = x := ⟨_, rfl⟩
  rw [hg5] at f4 ⊢
  have F4 := Lib.hid f4; have R4 := Lib.hid r4; have SY := Lib.hid s4; have B4 := Lib.hid b4
  have c0 : Y.cell? ⟨g5, 0, none⟩ = some (.int .i64 (v : Int)) := f4.cell 0
  have c1 : Y.cell? ⟨g5, 1, none⟩ = some (.slice A 56 c) := f4.cell 1
  clear f4 r4 s4 b4 hg5 R3 B3 S3 BH vw
  by_cases h1 : v = 1
  · subst h1
    go_wp2_with fail
    refine (many_1 _).mono ?_
    rintro e w5 ⟨rfl, rfl⟩
    skip
    have hno : hform xs = formN ys := by
      unfold hform
      rw [HX.out, HV.out, HD.out]
      cases formN ys <;> simp
    have FM := Lib.hid (form_t ys A 56 c Y HYL.out SY.out HYB.out (by decide) (HK.out.kept B4.out))
    have HNO := Lib.hid hno
    clear hno HX HV HD
    obtain ⟨fm, hfm⟩ : ∃ x, formN ys = x := ⟨_, rfl⟩
    rw [hfm] at FM HNO
    clear hfm
    go_wp2_with fail
    refine FM.out.mono ?_
    rintro e w5 ⟨rfl, b5⟩
    clear FM
    cases fm with
    | false =>
      clear F4 SY c0 c1
      have R5 := Lib.hid (R4.out.below b5 R4.out.lt); have B5 := Lib.hid (B4.out.trans ((b5).mono B4.out.size))
      clear R4 B4
      go_wp2_with ((with_reducible refine store_blk 82 (.tmp 2) (.tmp 28) w.heap.size 82 (hkv 0 (.slice none 0 0)) (hkv 0 (.slice none 0 0)) rfl rfl ?_ ?_ ?_ ?_ ?_ ?_ ?_); exact R5.out; exact rfl; exact hkv_size _ _; exact hkv_one _ _ _ _; exact rfl; exact rfl)
      refine ret_blk2 (p := 2) (u := 3) (ty := 82) rfl rfl w.heap.size 82 (hkv 0 (.slice none 0 0)) _ rfl (R5.out.setRow _) Tryz.underlying82 rfl (hkv_size _ _) (.bool false) rfl ?_
      exact ⟨below_setRow B5.out (Nat.le_refl _) _, .inl ⟨by rw [HNO.out], rfl⟩⟩
    | true =>
      have F5 := Lib.hid (F4.out.below b5 F4.out.lt); have S5 := Lib.hid (SY.out.below b5)
      have R5 := Lib.hid (R4.out.below b5 R4.out.lt); have B5 := Lib.hid (B4.out.trans (b5.mono B4.out.size))
      clear F4 SY R4 B4 b5 c0 c1
      go_wp2_with (first
        | ((with_reducible refine load_blk 82 (.tmp 5) g5 82 (hkv 1 (.slice A 56 c)) _ rfl rfl ?_ Tryz.underlying82 ?_ ?_ ?_ ?_); exact F5.out; exact rfl; exact hkv_size _ _; exact rfl)
        | ((with_reducible refine store_blk 82 (.tmp 2) (.tmp 29) w.heap.size 82 (hkv 0 (.slice none 0 0)) (hkv 1 (.slice A 56 c)) rfl rfl ?_ ?_ ?_ ?_ ?_ ?_ ?_); exact R5.out; exact rfl; exact hkv_size _ _; exact hkv_one _ _ _ _; exact rfl; exact rfl))
      refine ret_blk2 (p := 2) (u := 3) (ty := 82) rfl rfl w.heap.size 82 (hkv 1 (.slice A 56 c)) _ rfl (R5.out.setRow _) Tryz.underlying82 rfl (hkv_size _ _) (.bool true) rfl ?_
      exact ⟨below_setRow B5.out (Nat.le_refl _) _, .inr ⟨HNO.out, A, c, by rfl, HCC.out, sr_setRow S5.out HAW.out _⟩⟩
  · by_cases h2 : v = 2
    · subst h2
      go_wp2_with fail
      refine (many_2 _).mono ?_
      rintro e w5 ⟨rfl, rfl⟩
      skip
      have hno : hform xs = formN ys := by
        unfold hform
        rw [HX.out, HV.out, HD.out]
        cases formN ys <;> simp
      have FM := Lib.hid (form_t ys A 56 c Y HYL.out SY.out HYB.out (by decide) (HK.out.kept B4.out))
      have HNO := Lib.hid hno
      clear hno HX HV HD
      obtain ⟨fm, hfm⟩ : ∃ x, formN ys = x := ⟨_, rfl⟩
      rw [hfm] at FM HNO
      clear hfm
      go_wp2_with fail
      refine FM.out.mono ?_
      rintro e w5 ⟨rfl, b5⟩
      clear FM
      cases fm with
      | false =>
        clear F4 SY c0 c1
        have R5 := Lib.hid (R4.out.below b5 R4.out.lt); have B5 := Lib.hid (B4.out.trans ((b5).mono B4.out.size))
        clear R4 B4
        go_wp2_with ((with_reducible refine store_blk 82 (.tmp 2) (.tmp 28) w.heap.size 82 (hkv 0 (.slice none 0 0)) (hkv 0 (.slice none 0 0)) rfl rfl ?_ ?_ ?_ ?_ ?_ ?_ ?_); exact R5.out; exact rfl; exact hkv_size _ _; exact hkv_one _ _ _ _; exact rfl; exact rfl)
        refine ret_blk2 (p := 2) (u := 3) (ty := 82) rfl rfl w.heap.size 82 (hkv 0 (.slice none 0 0)) _ rfl (R5.out.setRow _) Tryz.underlying82 rfl (hkv_size _ _) (.bool false) rfl ?_
        exact ⟨below_setRow B5.out (Nat.le_refl _) _, .inl ⟨by rw [HNO.out], rfl⟩⟩
      | true =>
        have F5 := Lib.hid (F4.out.below b5 F4.out.lt); have S5 := Lib.hid (SY.out.below b5)
        have R5 := Lib.hid (R4.out.below b5 R4.out.lt); have B5 := Lib.hid (B4.out.trans (b5.mono B4.out.size))
        clear F4 SY R4 B4 b5 c0 c1
        go_wp2_with (first
          | ((with_reducible refine load_blk 82 (.tmp 5) g5 82 (hkv 2 (.slice A 56 c)) _ rfl rfl ?_ Tryz.underlying82 ?_ ?_ ?_ ?_); exact F5.out; exact rfl; exact hkv_size _ _; exact rfl)
          | ((with_reducible refine store_blk 82 (.tmp 2) (.tmp 29) w.heap.size 82 (hkv 0 (.slice none 0 0)) (hkv 2 (.slice A 56 c)) rfl rfl ?_ ?_ ?_ ?_ ?_ ?_ ?_); exact R5.out; exact rfl; exact hkv_size _ _; exact hkv_one _ _ _ _; exact rfl; exact rfl))
        refine ret_blk2 (p := 2) (u := 3) (ty := 82) rfl rfl w.heap.size 82 (hkv 2 (.slice A 56 c)) _ rfl (R5.out.setRow _) Tryz.underlying82 rfl (hkv_size _ _) (.bool true) rfl ?_
        exact ⟨below_setRow B5.out (Nat.le_refl _) _, .inr ⟨HNO.out, A, c, by rfl, HCC.out, sr_setRow S5.out HAW.out _⟩⟩
    · have HNO := Lib.hid (show hform xs = false by
        unfold hform
        rw [HV.out]
        exact decide_eq_false (fun q => by omega))
      go_wp2_with fail
      refine (many_no (v : Int) _ (by omega) (by omega)).mono ?_
      rintro e w5 ⟨rfl, rfl⟩
      have bz := Below.refl Y.heap.size Y
      clear c1 c0 F4 SY
      have R5 := Lib.hid (R4.out.below bz R4.out.lt); have B5 := Lib.hid (B4.out.trans ((bz).mono B4.out.size))
      clear R4 B4
      go_wp2_with ((with_reducible refine store_blk 82 (.tmp 2) (.tmp 28) w.heap.size 82 (hkv 0 (.slice none 0 0)) (hkv 0 (.slice none 0 0)) rfl rfl ?_ ?_ ?_ ?_ ?_ ?_ ?_); exact R5.out; exact rfl; exact hkv_size _ _; exact hkv_one _ _ _ _; exact rfl; exact rfl)
      refine ret_blk2 (p := 2) (u := 3) (ty := 82) rfl rfl w.heap.size 82 (hkv 0 (.slice none 0 0)) _ rfl (R5.out.setRow _) Tryz.underlying82 rfl (hkv_size _ _) (.bool false) rfl ?_
      exact ⟨below_setRow B5.out (Nat.le_refl _) _, .inl ⟨by rw [HNO.out], rfl⟩⟩
set_option maxRecDepth 100000 in
set_option maxHeartbeats 1000000 in
theorem hpart_t (lv : Int) (ys : List Nat) (i : Nat) (A : Option Addr) (c : Nat) (w : World) (hy : ys.length = 56) (hp : Sr w A ys) (hb : Bytes ys) (hi : i < 4) (hvi : val ((ys.drop 4).take 4) = i + 1) (hk : KI w) :
    Calls Tryz.prog 55 #[.agg (hkv lv (.slice A 56 c)).toArray] w fun e w' => e = .returned (.int .i64 (lszN i : Nat)) ∧ Below w.heap.size w w' := by
  have HY := Lib.hid hy; have HB := Lib.hid hb; have HK := Lib.hid hk; have HVI := Lib.hid hvi; have HP := Lib.hid hp
  have B0 := Lib.hid ((Below.refl w.heap.size w).alloc (Nat.le_refl _) (.cells (hkv lv (.slice A 56 c)).toArray 82))
  have c1 : (w.alloc (.cells (hkv lv (.slice A 56 c)).toArray 82)).cell? ⟨w.heap.size, 1, none⟩ = some (.slice A 56 c) := (Blk.new w 82 (hkv lv (.slice A 56 c))).cell 1
  clear hy hb hk hvi hp
  go_enter Tryz.func55, Tryz.ntmps55
  go_wp2_with fail
  refine (rnew_t ys A 56 c _ HY.out (HP.out.below B0.out) (by decide)).mono ?_
  rintro e w1 ⟨g, rfl, hg, r1, b1⟩
  have hg1 : w.heap.size ≤ g := Nat.le_trans B0.out.size hg
  have B1 := Lib.hid (B0.out.trans (b1.mono B0.out.size)); have D1 := Lib.hid r1
  clear b1 r1 hg B0 HP c1
  go_wp2_with fail
  refine (rnum_ok g ys false 4 w1 D1.out HB.out (by decide) (by decide) (by rw [HY.out]; decide) (by rw [HY.out]; decide)).mono ?_
  rintro e w2 ⟨rfl, r2, k2⟩
  have bb := k2.at_below (B := w.heap.size) hg1 B1.out.size
  have B2 := Lib.hid (B1.out.trans bb); have D2 := Lib.hid r2
  clear bb r2 k2 B1 D1
  have HY4 := Lib.hid (show (ys.drop 4).length = 52 by rw [List.length_drop, HY.out])
  obtain ⟨v0, hv0⟩ : ∃ v, val (ys.take 4) = v := ⟨_, rfl⟩
  rw [hv0]
  clear hv0
  go_wp2_with fail
  refine (rnum_ok g (ys.drop 4) false 4 w2 D2.out (bytes_drop HB.out 4) (by decide) (by decide) (by rw [HY4.out]; decide) (by rw [HY4.out]; decide)).mono ?_
  rintro e w3 ⟨rfl, r3, k3⟩
  have bb := k3.at_below (B := w.heap.size) hg1 B2.out.size
  have B3 := Lib.hid (B2.out.trans bb)
  rw [HVI.out]
  clear bb r3 k3 B2 D2 HY HY4 HVI HB
  rcases (show i = 0 ∨ i = 1 ∨ i = 2 ∨ i = 3 by omega) with rfl | rfl | rfl | rfl
  · skip
    have SZ := size_yes 0 (by decide) w3 (HK.out.kept B3.out)
    rw [show ((kd 0).w : Int) = 1 from rfl] at SZ
    have SZ := Lib.hid SZ
    go_wp2_with fail
    refine SZ.out.mono ?_
    rintro e w4 ⟨rfl, b4⟩
    have B4 := Lib.hid (B3.out.trans (b4.mono B3.out.size))
    clear b4 SZ
    go_wp2_with fail
    go_ret
    exact ⟨rfl, B4.out⟩
  · skip
    have SZ := size_yes 1 (by decide) w3 (HK.out.kept B3.out)
    rw [show ((kd 1).w : Int) = 2 from rfl] at SZ
    have SZ := Lib.hid SZ
    go_wp2_with fail
    refine SZ.out.mono ?_
    rintro e w4 ⟨rfl, b4⟩
    have B4 := Lib.hid (B3.out.trans (b4.mono B3.out.size))
    clear b4 SZ
    go_wp2_with fail
    go_ret
    exact ⟨rfl, B4.out⟩
  · skip
    have SZ := size_yes 2 (by decide) w3 (HK.out.kept B3.out)
    rw [show ((kd 2).w : Int) = 4 from rfl] at SZ
    have SZ := Lib.hid SZ
    go_wp2_with fail
    refine SZ.out.mono ?_
    rintro e w4 ⟨rfl, b4⟩
    have B4 := Lib.hid (B3.out.trans (b4.mono B3.out.size))
    clear b4 SZ
    go_wp2_with fail
    go_ret
    exact ⟨rfl, B4.out⟩
  · skip
    have SZ := size_yes 3 (by decide) w3 (HK.out.kept B3.out)
    rw [show ((kd 3).w : Int) = 8 from rfl] at SZ
    have SZ := Lib.hid SZ
    go_wp2_with fail
    refine SZ.out.mono ?_
    rintro e w4 ⟨rfl, b4⟩
    have B4 := Lib.hid (B3.out.trans (b4.mono B3.out.size))
    clear b4 SZ
    go_wp2_with fail
    go_ret
    exact ⟨rfl, B4.out⟩
set_option maxRecDepth 100000 in
set_option maxHeartbeats 1000000 in
theorem hholds_1 (ys : List Nat) (i : Nat) (A B C : Option Addr) (c m1 c1 m2 c2 : Nat) (w : World) (hy : ys.length = 56) (hp : Sr w A ys) (hb : Bytes ys) (hi : i < 4) (hvi : val ((ys.drop 4).take 4) = i + 1) (hk : KI w) (hne : m2 ≠ 4 + lszN i) :
    Calls Tryz.prog 31 #[.agg (hkv 1 (.slice A 56 c)).toArray, .slice B m1 c1, .slice C m2 c2] w fun e w' => e = .returned (.bool false) ∧ Below w.heap.size w w' := by
  have R0 := Lib.hid (Blk.new w 82 (hkv 1 (.slice A 56 c)))
  have B0 := Lib.hid ((Below.refl w.heap.size w).alloc (Nat.le_refl _) (.cells (hkv 1 (.slice A 56 c)).toArray 82))
  have PT := Lib.hid (hpart_t 1 ys i A c _ hy (hp.below B0.out) hb hi hvi (hk.kept B0.out))
  have hp9 := kd_p i hi
  have hN : lszN i ≤ 9000 := by unfold lszN; omega
  obtain ⟨N, hNN⟩ : ∃ N, lszN i = N := ⟨_, rfl⟩
  rw [hNN] at PT hne hN
  have q1 : ((N : Nat) : Int) ≤ 9000 := by omega
  have t0 : ((m2 : Int) != 4 + (N : Int)) = true := by rw [bne_iff_ne]; omega
  clear hy hp hb hvi hk hNN hp9 hne hN
  go_enter Tryz.func31, Tryz.ntmps31
  go_wp2_with ((with_reducible refine load_blk 82 (.tmp 3) w.heap.size 82 (hkv 1 (.slice A 56 c)) _ rfl rfl ?_ Tryz.underlying82 ?_ ?_ ?_ ?_); exact R0.out; exact rfl; exact hkv_size _ _; exact rfl)
  refine PT.out.mono ?_
  rintro e w1 ⟨rfl, b1⟩
  have B1 := Lib.hid (B0.out.trans (b1.mono B0.out.size))
  have r1 := R0.out.below b1 R0.out.lt
  have c0 : w1.cell? ⟨w.heap.size, 0, none⟩ = some (.int .i64 1) := r1.cell 0
  clear r1 b1 PT R0 B0
  go_wp2_with fail
  go_ret
  exact ⟨rfl, B1.out⟩
set_option maxRecDepth 100000 in
set_option maxHeartbeats 1000000 in
theorem hholds_2 (ys : List Nat) (i : Nat) (A B C : Option Addr) (c m1 c1 m2 c2 : Nat) (w : World) (hy : ys.length = 56) (hp : Sr w A ys) (hb : Bytes ys) (hi : i < 4) (hvi : val ((ys.drop 4).take 4) = i + 1) (hk : KI w) (hne : m2 ≠ 60 + 2 * lszN i) :
    Calls Tryz.prog 31 #[.agg (hkv 2 (.slice A 56 c)).toArray, .slice B m1 c1, .slice C m2 c2] w fun e w' => e = .returned (.bool false) ∧ Below w.heap.size w w' := by
  have R0 := Lib.hid (Blk.new w 82 (hkv 2 (.slice A 56 c)))
  have B0 := Lib.hid ((Below.refl w.heap.size w).alloc (Nat.le_refl _) (.cells (hkv 2 (.slice A 56 c)).toArray 82))
  have PT := Lib.hid (hpart_t 2 ys i A c _ hy (hp.below B0.out) hb hi hvi (hk.kept B0.out))
  have hp9 := kd_p i hi
  have hN : lszN i ≤ 9000 := by unfold lszN; omega
  obtain ⟨N, hNN⟩ : ∃ N, lszN i = N := ⟨_, rfl⟩
  rw [hNN] at PT hne hN
  have q1 : ((N : Nat) : Int) ≤ 9000 := by omega
  have t0 : ((m2 : Int) != 4 + 2 * (N : Int) + 56) = true := by rw [bne_iff_ne]; omega
  clear hy hp hb hvi hk hNN hp9 hne hN
  go_enter Tryz.func31, Tryz.ntmps31
  go_wp2_with ((with_reducible refine load_blk 82 (.tmp 3) w.heap.size 82 (hkv 2 (.slice A 56 c)) _ rfl rfl ?_ Tryz.underlying82 ?_ ?_ ?_ ?_); exact R0.out; exact rfl; exact hkv_size _ _; exact rfl)
  refine PT.out.mono ?_
  rintro e w1 ⟨rfl, b1⟩
  have B1 := Lib.hid (B0.out.trans (b1.mono B0.out.size))
  have r1 := R0.out.below b1 R0.out.lt
  have c0 : w1.cell? ⟨w.heap.size, 0, none⟩ = some (.int .i64 2) := r1.cell 0
  clear r1 b1 PT R0 B0
  go_wp2_with fail
  go_ret
  exact ⟨rfl, B1.out⟩
end Go.Proofs.YtohgggblnnokeaaGreatDoor
