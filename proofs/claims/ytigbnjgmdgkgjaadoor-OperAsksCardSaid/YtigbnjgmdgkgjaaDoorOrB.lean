/-
  THE REFERENCE of chapter 7: Cat; PutRequest.
-/
import Derived.Test.YtigbnjgmdgkgjaaDoorOpA
import Derived.Test.YtigbnjgmdgkgjaaDoorTrC
import Derived.Test.YtigbnjgmdgkgjaaDoorRefP
import Derived.Deep.DeepCutAuto
namespace Go.Proofs.YtigbnjgmdgkgjaaDoor
open Go Go.RowKit Sh

/-- A slice of bytes as Cat takes it: its address, its capacity, what it reads as. -/
structure PartO where
  A : Option Addr
  c : Nat
  X : List Nat
def partsO (l : List PartO) : List Value := l.map fun x => .slice x.A x.X.length x.c
def catO (l : List PartO) : List Nat := l.flatMap (·.X)
theorem catO_le (l : List PartO) (k : Nat) : (catO (l.take k)).length ≤ (catO l).length := by
  conv => rhs; rw [← List.take_append_drop k l]
  unfold catO
  rw [List.flatMap_append, List.length_append]
  omega
theorem catO_succ (l : List PartO) (k : Nat) (x : PartO) (h : l[k]? = some x) : catO (l.take (k + 1)) = catO (l.take k) ++ x.X := by
  obtain ⟨hk, rfl⟩ := List.getElem?_eq_some_iff.1 h
  unfold catO
  rw [List.take_succ_eq_append_getElem hk, List.flatMap_append, List.flatMap_cons, List.flatMap_nil, List.append_nil]
set_option maxHeartbeats 400000 in
theorem catO_t (l : List PartO) (g n c : Nat) (t : TypeId) (w : World) (hn : l.length = n) (hb : Blk w g t (partsO l)) (hr : ∀ x, x ∈ l → Sr w x.A x.X) (hl : (catO l).length ≤ 1000000) (hn2 : n ≤ 100) :
    Calls Tryd.prog 31 #[.slice (some ⟨g, 0, none⟩) n c] w fun e w' => ∃ v, e = .returned v ∧ Fresh 5 w w' v (catO l) := by
  have HB := Lib.hid hb; have HR := Lib.hid hr; have HL := Lib.hid hl; have HN := Lib.hid hn
  have n1 : (n : Int) ≤ 100 := by omega
  clear hb hr hl hn
  go_enter Tryd.func31, Tryd.ntmps31
  go_wp2_with fail
  go_loopw [3, 4] (fun o i wr => ∃ k : Nat, k ≤ n ∧ i = .int .i64 k ∧ wr.ownsRow w.heap.size 5 1 o (catO (l.take k)).length (u8s (catO (l.take k))) ∧ Below w.heap.size w wr) (fun _ i _ => n - (intOf i).toNat)
  case atStart => exact ⟨0, by omega, rfl, by simpa [catO] using nil_own _ _, Below.refl _ _⟩
  case round =>
    obtain ⟨k, hk, rfl, ho, hb⟩ := hrel
    by_cases hlt : k < n
    · obtain ⟨x, hx⟩ : ∃ x, l[k]? = some x := ⟨_, List.getElem?_eq_getElem (by rw [HN.out]; exact hlt)⟩
      have hs := (HR.out x (List.mem_of_getElem? hx)).below hb
      have h1 := catO_succ l k x hx
      have h2 : (catO (l.take k)).length + x.X.length ≤ 1000000 := by
        have := catO_le l (k + 1)
        rw [h1, List.length_append] at this
        exact Nat.le_trans this HL.out
      have c0 : wr.cell? ⟨g, k, none⟩ = some (.slice x.A x.X.length x.c) := by
        refine (hb.cell (p := ⟨g, k, none⟩) HB.out.lt).trans ?_
        rw [HB.out.cell]; simp [partsO, hx]
      obtain ⟨A, cx, X⟩ := x
      simp only [] at hs h1 h2 c0
      obtain ⟨Y, hY⟩ : ∃ Y, catO (l.take k) = Y := ⟨_, rfl⟩
      rw [hY] at ho h1 h2
      have HO := Lib.hid ho; have HW := Lib.hid hb; have HS := Lib.hid hs; have H1 := Lib.hid h1
      clear ho hb hs h1 hx hY
      go_wp2_with ((with_reducible refine at_op (.call { callee := .builtin .append, args := #[.tmp 11, .tmp 15], argTypes := #[25, 25] }) rfl ?_); refine append_bytes (.tmp 11) (.tmp 15) 25 rfl rfl 5 Tryd.underlying25 byte_info w.heap.size _ Y.length Y X rfl HO.out A X.length cx rfl rfl HS.out (by omega) HW.out.size ?_; intro v2 w2 a1 a2 a3)
      go_roundw
      case rel =>
        refine ⟨k + 1, by omega, by go_num, ?_, HW.out.grown a2.out HW.out.size fun i e => (HO.out.lt i e).1⟩
        rw [H1.out, List.length_append]
        exact a1.out
      case measure => simp [intOf]; omega
    · obtain rfl : k = n := by omega
      rw [List.take_of_length_le (by rw [HN.out]; exact Nat.le_refl _)] at ho
      have HO := Lib.hid ho; have HW := Lib.hid hb
      clear ho hb
      go_wp2_with fail
      go_ret
      exact ⟨_, rfl, HO.out, HW.out⟩
/-- A fresh row, opened. -/
theorem fresh_opO {w w' : World} {v : Value} {l : List Nat} (h : Fresh 5 w w' v l) : ∃ A c, v = .slice A l.length c ∧ l.length ≤ c ∧ Sr w' A l ∧ Below w.heap.size w w' := by
  obtain ⟨A, c, rfl, hc⟩ := own_form h.1
  exact ⟨A, c, rfl, hc, Sr.of_own h.1, h.2⟩
theorem refput_nil (c : Nat) (p : Option Addr) (w : World) : Calls Tryd.prog 34 #[.slice p 0 c] w fun e w' => e = .returned (.slice none 0 0) ∧ w = w' := by
  go_enter Tryd.func34, Tryd.ntmps34
  go_wp2_with fail
  go_ret
  exact ⟨rfl, rfl⟩
/-- The bytes of a row of fields, none of none. -/
theorem refpf_t (n c : Nat) (p : Option Addr) (G : Nat → Fld) (w : World) (hr : Rw w p n G) (h : n = 0 ∨ mayP n G = true) :
    Calls Tryd.prog 34 #[.slice p n c] w fun e w' => ∃ u, e = .returned u ∧ Fresh 5 w w' u (pf n G) := by
  by_cases h0 : n = 0
  · subst h0
    rw [show pf 0 G = [] from if_pos rfl]
    refine (refput_nil c p w).mono ?_
    rintro e w' ⟨rfl, rfl⟩
    exact ⟨_, rfl, nil_own _ _, Below.refl _ _⟩
  · have hm : mayP n G = true := by rcases h with h | h; exact absurd h h0; exact h
    rw [show pf n G = putN n G from if_neg h0]
    refine (refput_t n c p G w hr hm).mono ?_
    rintro e w' ⟨u, rfl, o, b⟩
    exact ⟨u, rfl, o, b⟩
/-- What PutRequest has in hand. -/
structure OZ (w0 W : World) (x : Rv) : Prop where
  box : Blk W w0.heap.size 24 (rv x)
  rx : RvW W x
  bel : Below w0.heap.size w0 W
theorem OZ.below {w0 W W' : World} {x : Rv} (h : OZ w0 W x) (hb : Below W.heap.size W W') : OZ w0 W' x := ⟨h.box.below hb h.box.lt, h.rx.below hb, h.bel.trans (hb.mono h.bel.size)⟩
/-- The parts that lie so far. -/
def Six (W : World) (l : List PartO) : Prop := ∀ x, x ∈ l → Sr W x.A x.X
theorem Six.below {W W' : World} {l : List PartO} (h : Six W l) (hb : Below W.heap.size W W') : Six W' l := fun x hx => (h x hx).below hb
theorem Six.snoc {W : World} {l : List PartO} (h : Six W l) {A : Option Addr} {c : Nat} {X : List Nat} (hs : Sr W A X) : Six W (l ++ [⟨A, c, X⟩]) := fun x hx => by
  rcases List.mem_append.1 hx with h1 | h1
  · exact h x h1
  · obtain rfl := List.mem_singleton.1 h1
    exact hs
set_option maxRecDepth 100000 in
set_option maxHeartbeats 4000000 in
theorem refPut_r (x : Rv) (w : World) (h : RvW w x) (hm : mayR x.r = true) :
    Calls Tryd.prog 13 #[.agg (rv x).toArray] w fun e w' => ∃ u, e = .returned u ∧ Fresh 5 w w' u (putR x.r) := by
  have Z0 := Lib.hid (show OZ w (w.alloc (.cells (rv x).toArray 24)).drew x from by
    have bz : Below w.heap.size w (w.alloc (.cells (rv x).toArray 24)).drew := ((Below.refl _ _).alloc (Nat.le_refl _) _).drew
    exact ⟨(Blk.new w 24 (rv x)).below (B := w.heap.size + 1) (Below.refl (w.heap.size + 1) (w.alloc (.cells (rv x).toArray 24))).drew (Nat.lt_succ_self _), h.below bz, bz⟩)
  have hh := mayR_h hm
  obtain ⟨a, ha⟩ : ∃ a : Nat, x.r.cl = (a : Int) := ⟨x.r.cl.toNat, by have := hh.cl0; omega⟩
  obtain ⟨b, hb⟩ : ∃ a : Nat, x.r.sq = (a : Int) := ⟨x.r.sq.toNat, by have := hh.sq1; omega⟩
  obtain ⟨k, hk⟩ : ∃ a : Nat, x.r.kd = (a : Int) := ⟨x.r.kd.toNat, by have := hh.k1; omega⟩
  obtain ⟨t, ht⟩ : ∃ a : Nat, x.r.le = (a : Int) := ⟨x.r.le.toNat, by have := hh.le0; omega⟩
  have a4 : a < 4 := by have := hh.cl4; omega
  have b9 : b ≤ 1073741824 := by have := hh.sqm; omega
  have k8 : k ≤ 8 := by have := hh.k8; omega
  have t9 : t ≤ 1099511627776 := by have := hh.lem; omega
  have HP := Lib.hid hh.p; have HT := Lib.hid hh.t
  have LP := Lib.hid (pf_length hh.p); have LT := Lib.hid (pf_length hh.t)
  have e : putR x.r = catO [⟨none, 0, beN a 1⟩, ⟨none, 0, beN b 4⟩, ⟨none, 0, beN k 1⟩, ⟨none, 0, beN t 8⟩, ⟨none, 0, txtN (pf x.r.n x.r.G)⟩, ⟨none, 0, txtN (pf x.r.m x.r.H)⟩] := by
    unfold putR catO
    rw [ha, hb, hk, ht]
    simp only [Int.toNat_natCast, List.flatMap_cons, List.flatMap_nil, List.append_nil, List.append_assoc]
  have hlen := (putR_length hm).1
  obtain ⟨xs, hxs⟩ : ∃ l, putR x.r = l := ⟨_, rfl⟩
  rw [hxs] at e hlen ⊢
  have E := Lib.hid e
  have i1 : IntKind.u64.wrap (a : Int) = (a : Int) := IntWalk.u64_in _ (by omega)
  have i2 : IntKind.u64.wrap (b : Int) = (b : Int) := IntWalk.u64_in _ (by omega)
  have i3 : IntKind.u64.wrap (k : Int) = (k : Int) := IntWalk.u64_in _ (by omega)
  have i4 : IntKind.u64.wrap (t : Int) = (t : Int) := IntWalk.u64_in _ (by omega)
  clear h hm hh e hxs
  have r0 := rv_cells Z0.out.box
  go_enter Tryd.func13, Tryd.ntmps13
  go_upto_region 1 with (fail)
  refine wp_region_held (S := fun W => W.cell? ⟨w.heap.size, 0, none⟩ = some (.int .i64 x.r.cl) ∧ W.cell? ⟨w.heap.size, 1, none⟩ = some (.int .i64 x.r.sq) ∧ W.cell? ⟨w.heap.size, 2, none⟩ = some (.int .i64 x.r.kd) ∧ W.cell? ⟨w.heap.size, 3, none⟩ = some (.slice x.p x.r.n x.c) ∧ W.cell? ⟨w.heap.size, 4, none⟩ = some (.slice x.t x.r.m x.d) ∧ W.cell? ⟨w.heap.size, 5, none⟩ = some (.int .i64 x.r.le)) (by kernel_rfl) ?_
  change wpAnyH _ _ _ _ _ _ _ _ (w.alloc (.cells (rv x).toArray 24)).drew
  obtain ⟨U, hU⟩ : ∃ U, (w.alloc (.cells (rv x).toArray 24)).drew = U := ⟨_, rfl⟩
  rw [hU] at Z0 r0 ⊢
  clear hU
  refine wpAnyH_take (i := 0) (v := ?_) rfl (by kernel_rfl) (by kernel_rfl) (by kernel_rfl) (fun _ _ _ h => h) (Or.inl ⟨by kernel_rfl, ?_⟩) r0 ?_
  rotate_left 1
  · (intro w hS; clear hS; go_simp; try (with_reducible rfl))
  refine wpAnyH_take (i := 4) (v := ?_) rfl (by kernel_rfl) (by kernel_rfl) (by kernel_rfl) (fun _ _ _ h => h) (Or.inl ⟨by kernel_rfl, ?_⟩) r0 ?_
  rotate_left 1
  · (intro w hS; clear hS; go_simp; try (with_reducible rfl))
  refine wpAnyH_take (i := 8) (v := ?_) rfl (by kernel_rfl) (by kernel_rfl) (by kernel_rfl) (fun _ _ _ h => h) (Or.inl ⟨by kernel_rfl, ?_⟩) r0 ?_
  rotate_left 1
  · (intro w hS; clear hS; go_simp; try (with_reducible rfl))
  refine wpAnyH_take (i := 12) (v := ?_) rfl (by kernel_rfl) (by kernel_rfl) (by kernel_rfl) (fun _ _ _ h => h) (Or.inl ⟨by kernel_rfl, ?_⟩) r0 ?_
  rotate_left 1
  · (intro w hS; clear hS; go_simp; try (with_reducible rfl))
  refine wpAnyH_take (i := 16) (v := ?_) rfl (by kernel_rfl) (by kernel_rfl) (by kernel_rfl) (fun _ _ _ h => h) (Or.inl ⟨by kernel_rfl, ?_⟩) r0 ?_
  rotate_left 1
  · (intro w hS; clear hS; go_simp; try (with_reducible rfl))
  refine wpAnyH_take (i := 20) (v := ?_) rfl (by kernel_rfl) (by kernel_rfl) (by kernel_rfl) (fun _ _ _ h => h) (Or.inl ⟨by kernel_rfl, ?_⟩) r0 ?_
  rotate_left 1
  · (intro w hS; clear hS; go_simp; try (with_reducible rfl))
  refine wpAnyH_take (i := 1) (v := ?_) rfl (by kernel_rfl) (by kernel_rfl) (by kernel_rfl) (fun _ _ _ h => h) (Or.inl ⟨by kernel_rfl, ?_⟩) r0 ?_
  rotate_left 1
  · (intro w hS; have hs := hS.1; clear hS; go_simp; try (with_reducible rfl))
  refine wpAnyH_take (i := 5) (v := ?_) rfl (by kernel_rfl) (by kernel_rfl) (by kernel_rfl) (fun _ _ _ h => h) (Or.inl ⟨by kernel_rfl, ?_⟩) r0 ?_
  rotate_left 1
  · (intro w hS; have hs := hS.2.1; clear hS; go_simp; try (with_reducible rfl))
  refine wpAnyH_take (i := 9) (v := ?_) rfl (by kernel_rfl) (by kernel_rfl) (by kernel_rfl) (fun _ _ _ h => h) (Or.inl ⟨by kernel_rfl, ?_⟩) r0 ?_
  rotate_left 1
  · (intro w hS; have hs := hS.2.2.1; clear hS; go_simp; try (with_reducible rfl))
  refine wpAnyH_take (i := 13) (v := ?_) rfl (by kernel_rfl) (by kernel_rfl) (by kernel_rfl) (fun _ _ _ h => h) (Or.inl ⟨by kernel_rfl, ?_⟩) r0 ?_
  rotate_left 1
  · (intro w hS; have hs := hS.2.2.2.2.2; clear hS; go_simp; try (with_reducible rfl))
  refine wpAnyH_take (i := 17) (v := ?_) rfl (by kernel_rfl) (by kernel_rfl) (by kernel_rfl) (fun _ _ _ h => h) (Or.inl ⟨by kernel_rfl, ?_⟩) r0 ?_
  rotate_left 1
  · (intro w hS; have hs := hS.2.2.2.1; clear hS; go_simp; try (with_reducible rfl))
  refine wpAnyH_take (i := 21) (v := ?_) rfl (by kernel_rfl) (by kernel_rfl) (by kernel_rfl) (fun _ _ _ h => h) (Or.inl ⟨by kernel_rfl, ?_⟩) r0 ?_
  rotate_left 1
  · (intro w hS; have hs := hS.2.2.2.2.1; clear hS; go_simp; try (with_reducible rfl))
  refine wpAnyH_take (i := 2) (v := ?_) rfl (by kernel_rfl) (by kernel_rfl) (by kernel_rfl) (fun _ _ _ h => h) (Or.inl ⟨by kernel_rfl, ?_⟩) r0 ?_
  rotate_left 1
  · (intro w hS; clear hS; go_simp; try (with_reducible rfl))
  refine wpAnyH_take (i := 6) (v := ?_) rfl (by kernel_rfl) (by kernel_rfl) (by kernel_rfl) (fun _ _ _ h => h) (Or.inl ⟨by kernel_rfl, ?_⟩) r0 ?_
  rotate_left 1
  · (intro w hS; clear hS; go_simp; try (with_reducible rfl))
  refine wpAnyH_take (i := 10) (v := ?_) rfl (by kernel_rfl) (by kernel_rfl) (by kernel_rfl) (fun _ _ _ h => h) (Or.inl ⟨by kernel_rfl, ?_⟩) r0 ?_
  rotate_left 1
  · (intro w hS; clear hS; go_simp; try (with_reducible rfl))
  refine wpAnyH_take (i := 14) (v := ?_) rfl (by kernel_rfl) (by kernel_rfl) (by kernel_rfl) (fun _ _ _ h => h) (Or.inl ⟨by kernel_rfl, ?_⟩) r0 ?_
  rotate_left 1
  · (intro w hS; clear hS; go_simp; try (with_reducible rfl))
  have X0 := Lib.hid (show Six U [] from fun x hx => absurd hx List.not_mem_nil)
  refine wpAnyH_ready (rs := [3]) (by kernel_rfl) (by simp) ?_
  refine AllReadyH.cons rfl (fun K hK => ?_) AllReadyH.nil
  go_simp
  refine (refnum_t a 1 U (by decide) (by decide)).mono ?_
  rintro e w3 ⟨u, rfl, fr⟩
  obtain ⟨A3, k3, rfl, _, sr, bb⟩ := fresh_opO fr
  have Z3 := Lib.hid (Z0.out.below bb); have X3 := Lib.hid ((X0.out.below bb).snoc (c := k3) sr)
  have r3 := rv_cells Z3.out.box
  clear fr sr bb
  refine hK.out _ _ r3 (fun _ => ?_)
  clear hK K Z0 X0
  refine wpAnyH_ready (rs := [7]) (by kernel_rfl) (by simp) ?_
  refine AllReadyH.cons rfl (fun K hK => ?_) AllReadyH.nil
  go_simp
  refine (refnum_t b 4 w3 (by decide) (by decide)).mono ?_
  rintro e w7 ⟨u, rfl, fr⟩
  obtain ⟨A7, k7, rfl, _, sr, bb⟩ := fresh_opO fr
  have Z7 := Lib.hid (Z3.out.below bb); have X7 := Lib.hid ((X3.out.below bb).snoc (c := k7) sr)
  have r7 := rv_cells Z7.out.box
  clear fr sr bb
  refine hK.out _ _ r7 (fun _ => ?_)
  clear hK K Z3 X3
  refine wpAnyH_ready (rs := [11]) (by kernel_rfl) (by simp) ?_
  refine AllReadyH.cons rfl (fun K hK => ?_) AllReadyH.nil
  go_simp
  refine (refnum_t k 1 w7 (by decide) (by decide)).mono ?_
  rintro e w11 ⟨u, rfl, fr⟩
  obtain ⟨A11, k11, rfl, _, sr, bb⟩ := fresh_opO fr
  have Z11 := Lib.hid (Z7.out.below bb); have X11 := Lib.hid ((X7.out.below bb).snoc (c := k11) sr)
  have r11 := rv_cells Z11.out.box
  clear fr sr bb
  refine hK.out _ _ r11 (fun _ => ?_)
  clear hK K Z7 X7
  refine wpAnyH_ready (rs := [15]) (by kernel_rfl) (by simp) ?_
  refine AllReadyH.cons rfl (fun K hK => ?_) AllReadyH.nil
  go_simp
  refine (refnum_t t 8 w11 (by decide) (by decide)).mono ?_
  rintro e w15 ⟨u, rfl, fr⟩
  obtain ⟨A15, k15, rfl, _, sr, bb⟩ := fresh_opO fr
  have Z15 := Lib.hid (Z11.out.below bb); have X15 := Lib.hid ((X11.out.below bb).snoc (c := k15) sr)
  have r15 := rv_cells Z15.out.box
  clear fr sr bb
  refine hK.out _ _ r15 (fun _ => ?_)
  clear hK K Z11 X11
  refine wpAnyH_ready (rs := [18]) (by kernel_rfl) (by simp) ?_
  refine AllReadyH.cons rfl (fun K hK => ?_) AllReadyH.nil
  go_simp
  refine (refpf_t x.r.n x.c x.p x.r.G w15 (by first | exact Z15.out.rx.p | exact Z15.out.rx.t) HP.out).mono ?_
  rintro e w18 ⟨u, rfl, fr⟩
  obtain ⟨A18, k18, rfl, _, sr, bb⟩ := fresh_opO fr
  have Z18 := Lib.hid (Z15.out.below bb); have Spf := Lib.hid sr
  have r18 := rv_cells Z18.out.box
  clear fr sr Z15
  refine hK.out _ _ r18 (fun _ => ?_)
  clear hK K
  have X18 := Lib.hid (X15.out.below bb)
  clear bb X15
  refine wpAnyH_ready (rs := [19]) (by kernel_rfl) (by simp) ?_
  refine AllReadyH.cons rfl (fun K hK => ?_) AllReadyH.nil
  go_simp
  refine (reftext_t (pf x.r.n x.r.G) A18 _ k18 w18 rfl Spf.out (by have := LP.out; omega)).mono ?_
  rintro e w19 ⟨u, rfl, fr⟩
  obtain ⟨A19, k19, rfl, _, sr, bb⟩ := fresh_opO fr
  have Z19 := Lib.hid (Z18.out.below bb)
  have r19 := rv_cells Z19.out.box
  clear fr Z18 Spf
  refine hK.out _ _ r19 (fun _ => ?_)
  clear hK K
  have X19 := Lib.hid ((X18.out.below bb).snoc (c := k19) sr)
  clear bb sr X18
  refine wpAnyH_ready (rs := [22]) (by kernel_rfl) (by simp) ?_
  refine AllReadyH.cons rfl (fun K hK => ?_) AllReadyH.nil
  go_simp
  refine (refpf_t x.r.m x.d x.t x.r.H w19 (by first | exact Z19.out.rx.p | exact Z19.out.rx.t) HT.out).mono ?_
  rintro e w22 ⟨u, rfl, fr⟩
  obtain ⟨A22, k22, rfl, _, sr, bb⟩ := fresh_opO fr
  have Z22 := Lib.hid (Z19.out.below bb); have Spf := Lib.hid sr
  have r22 := rv_cells Z22.out.box
  clear fr sr Z19
  refine hK.out _ _ r22 (fun _ => ?_)
  clear hK K
  have X22 := Lib.hid (X19.out.below bb)
  clear bb X19
  refine wpAnyH_ready (rs := [23]) (by kernel_rfl) (by simp) ?_
  refine AllReadyH.cons rfl (fun K hK => ?_) AllReadyH.nil
  go_simp
  refine (reftext_t (pf x.r.m x.r.H) A22 _ k22 w22 rfl Spf.out (by have := LT.out; omega)).mono ?_
  rintro e w23 ⟨u, rfl, fr⟩
  obtain ⟨A23, k23, rfl, _, sr, bb⟩ := fresh_opO fr
  have Z23 := Lib.hid (Z22.out.below bb)
  have r23 := rv_cells Z23.out.box
  clear fr Z22 Spf
  refine hK.out _ _ r23 (fun _ => ?_)
  clear hK K
  have X23 := Lib.hid ((X22.out.below bb).snoc (c := k23) sr)
  clear bb sr X22
  obtain ⟨l6, hl6⟩ : ∃ l : List PartO, ((((([] ++ [⟨A3, k3, beN a 1⟩]) ++ [⟨A7, k7, beN b 4⟩]) ++ [⟨A11, k11, beN k 1⟩]) ++ [⟨A15, k15, beN t 8⟩]) ++ [⟨A19, k19, txtN (pf x.r.n x.r.G)⟩]) ++ [⟨A23, k23, txtN (pf x.r.m x.r.H)⟩] = l := ⟨_, rfl⟩
  rw [hl6] at X23
  have L6 := Lib.hid (show l6.length = 6 by rw [← hl6]; rfl)
  have P6 := Lib.hid (show partsO l6 = [.slice A3 (beN a 1).length k3, .slice A7 (beN b 4).length k7, .slice A11 (beN k 1).length k11, .slice A15 (beN t 8).length k15, .slice A19 (txtN (pf x.r.n x.r.G)).length k19, .slice A23 (txtN (pf x.r.m x.r.H)).length k23] by rw [← hl6]; rfl)
  have E6 := Lib.hid (show catO l6 = xs by rw [E.out, ← hl6]; rfl)
  clear hl6 E
  have bz : Below w23.heap.size w23 (w23.alloc (.cells (partsO l6).toArray 25)) := (Below.refl _ _).alloc (Nat.le_refl _) _
  have ZZ := Lib.hid (Z23.out.below bz); have XX := Lib.hid (X23.out.below bz)
  have BB := Lib.hid (Blk.new w23 25 (partsO l6))
  have rz := rv_cells ZZ.out.box
  clear bz Z23 X23
  refine wpAnyH_ready (rs := [24]) (by kernel_rfl) (by simp) ?_
  refine AllReadyH.cons rfl (fun K hK => ?_) AllReadyH.nil
  go_simp
  rw [P6.out] at ZZ XX BB rz
  refine hK.out _ _ rz (fun _ => ?_)
  clear hK K
  refine wpAnyH_ready (rs := [25]) (by kernel_rfl) (by simp) ?_
  refine AllReadyH.cons rfl (fun K hK => ?_) AllReadyH.nil
  go_simp
  refine (catO_t l6 w23.heap.size 6 6 25 _ L6.out (by rw [P6.out]; exact BB.out) XX.out (by rw [E6.out]; omega) (by decide)).mono ?_
  rintro e wz ⟨u, rfl, fr⟩
  rw [E6.out] at fr
  have FR := Lib.hid (show Fresh 5 w wz u xs from ⟨own_base fr.1 (fun k hk => Nat.le_trans ZZ.out.bel.size (fr.1.lt k hk).1), ZZ.out.bel.trans (fr.2.mono ZZ.out.bel.size)⟩)
  have rq := rv_cells (ZZ.out.below fr.2).box
  clear fr ZZ XX BB
  refine hK.out _ _ rq (fun _ => ?_)
  clear hK K
  refine wpAnyH_take (i := 26) (v := ?_) rfl (by kernel_rfl) (by kernel_rfl) (by kernel_rfl) (fun _ _ _ h => h) (Or.inl ⟨by kernel_rfl, ?_⟩) rq ?_
  rotate_left 1
  · (intro w hS; clear hS; go_simp; try (with_reducible rfl))
  refine wpAnyH_done (by kernel_rfl) ?_ _
  go_simp
  go_wp2_with fail
  go_ret
  exact ⟨u, rfl, FR.out⟩
end Go.Proofs.YtigbnjgmdgkgjaaDoor
