/-
  THE REFERENCE OF CHAPTER 10
-/
import Derived.Test.YtlipjglehongeaaGreatDoorGa36
import Derived.Deep.CutBlock
namespace Go.Proofs.YtlipjglehongeaaGreatDoor
open Go Go.RowKit Sh

theorem kSeg_bad (ys : List Nat) : (kSeg ys true).2.2 = true := by
  unfold kSeg
  split <;> rfl
theorem kRd_bad {ys : List Nat} {bad : Bool} {j : Nat} (h : (kRd ys bad j).2.2 = true) : ∀ i, (kRd ys bad (j + i)).2.2 = true
  | 0 => h
  | i + 1 => by
    show (kSeg (kRd ys bad (j + i)).2.1 (kRd ys bad (j + i)).2.2).2.2 = true
    rw [kRd_bad h i]
    exact kSeg_bad _
theorem rTxt_bad9 (ys : List Nat) (n : Nat) : (rTxt ys true n).2.2 = true := by
  unfold rTxt
  split <;> rfl
theorem okE_eq (xs : List Nat) : okE xs = (decide (endN (g5 xs).2.1 (g5 xs).2.2 = 0) && begQ (gotE xs)) := by
  unfold okE
  cases hq : begQ (gotE xs) with
  | false => rw [Bool.and_false, Bool.and_false]
  | true =>
    have m := begQ_h hq
    have h0 : (0 : Int) ≤ ((g1 xs).1 : Nat) := by omega
    have h2 : (((g1 xs).1 : Nat) : Int) ≤ 2 := m.f2
    unfold fltB
    rw [decide_eq_true h0, decide_eq_true h2]
    rfl
theorem okE_bad {xs : List Nat} (h : (g4 xs).2.2 = true) : okE xs = false := by
  have h5 : (g5 xs).2.2 = true := by unfold g5; rw [h]; exact rTxt_bad9 _ _
  rw [okE_eq, h5, endN_bad]
  rfl
theorem rTxt_most {ys : List Nat} {n : Nat} (h : ys.length ≤ n) : rTxtM ys false n = rTxt ys false ys.length := by
  rw [rTxtM_eq]
  unfold rTxt
  by_cases h1 : 4 ≤ ys.length ∧ val (ys.take 4) ≤ ys.length ∧ val (ys.take 4) ≤ ys.length - 4
  · rw [if_pos h1, if_pos ⟨h1.1, by omega, h1.2.2⟩]
  · rw [if_neg h1, if_neg (fun q => h1 ⟨q.1, by have := q.2.2; omega, q.2.2⟩)]
theorem rTxtM_none (n : Nat) : rTxtM [] true n = ([], [], true) := rTxtM_bad n
def OK9 (W : World) (B : Nat) (y : Ky) : Prop := W.ownsRow B 5 1 (.slice y.A y.X.length y.c) y.X.length (u8s y.X)
theorem OK9.off {W : World} {B base n : Nat} {y : Ky} {v : Value} {l : List Value} (h : OK9 W B y) (o : W.ownsRow base 23 1 v n l) : ∀ k, (Value.slice y.A y.X.length y.c).ownBlock = some k → v.ownBlock ≠ some k := fun k hk => by
  rcases h.2 with ⟨h0, _⟩ | ⟨g, cap, cur, e, _, hh, _⟩
  · rw [h0] at hk; cases hk
  · rw [e] at hk
    obtain rfl : g = k := by simpa [Value.ownBlock] using hk
    exact own_apart (t := 5) (cs := cur.toList) o (by unfold Blk; rw [Array.toArray_toList]; exact hh) (by decide)
structure RG9 (w0 W : World) (g gx : Nat) (zs : List Nat) (bad : Bool) (x : Gv) : Prop where
  rd : Rr w0 W g zs bad
  bx : Blk W gx 25 (gv x)
  res : Blk W w0.heap.size 25 (gv zGv)
  hi : w0.heap.size < gx
  ow : W.ownsRow w0.heap.size 23 1 (.slice x.kp x.ks.length x.kc) x.ks.length (x.ks.flatMap kyv)
  nk : ∀ y ∈ x.ks, OK9 W w0.heap.size y
section
variable {w0 W W' : World} {g gx : Nat} {zs zs' : List Nat} {bad bad' : Bool} {x x' : Gv}
theorem RG9.below (h : RG9 w0 W g gx zs bad x) (hb : Below W.heap.size W W') : RG9 w0 W' g gx zs bad x :=
  ⟨h.rd.below hb, h.bx.below hb h.bx.lt, h.res.below hb h.res.lt, h.hi, own_below h.ow hb, fun y hy => own_below (h.nk y hy) hb⟩
theorem RG9.read (h : RG9 w0 W g gx zs bad x) (hk : Kept (fun k => k = g) W W') (hr : Rr w0 W' g zs' bad') : RG9 w0 W' g gx zs' bad' x := by
  obtain ⟨A, c, h1, _, _⟩ := h.rd.is
  exact ⟨hr, h.bx.kept hk (h.bx.apart h1 (by decide)), h.res.kept hk (h.res.apart h1 (by decide)), h.hi, own_kept h.ow hk (fun k e q => own_apart h.ow h1 (by decide) (by rw [e, q])), fun y hy => own_kept (h.nk y hy) hk (fun k e q => own_apart (h.nk y hy) h1 (by decide) (by rw [e, q]))⟩
theorem RG9.put (h : RG9 w0 W g gx zs bad x) (hk : Kept (fun k => k = gx) W W') (hb : Blk W' gx 25 (gv x')) (e : x'.ks = x.ks) (e1 : x'.kp = x.kp) (e2 : x'.kc = x.kc) : RG9 w0 W' g gx zs bad x' := by
  obtain ⟨A, c, h1, _, _⟩ := h.rd.is
  have hi := h.hi
  refine ⟨h.rd.off hk (h1.apart h.bx (by decide)) (by omega), hb, h.res.kept hk (by omega), h.hi, ?_, fun y hy => ?_⟩
  · rw [e, e1, e2]
    exact own_kept h.ow hk (fun k q q2 => own_apart h.ow h.bx (by decide) (by rw [q, q2]))
  · rw [e] at hy
    exact own_kept (h.nk y hy) hk (fun k q q2 => own_apart (h.nk y hy) h.bx (by decide) (by rw [q, q2]))
theorem RG9.grow {y : Ky} {kp' : Option Addr} {kc' : Nat} (h : RG9 w0 W g gx zs bad x) (hy : OK9 W w0.heap.size y) (ho : W'.ownsRow w0.heap.size 23 1 (.slice kp' (x.ks.length + 1) kc') (x.ks.length + 1) (x.ks.flatMap kyv ++ [y].flatMap kyv)) (hr : W.grownBy W' (Value.slice x.kp x.ks.length x.kc).ownBlock) :
    Blk W' gx 25 (gv x) ∧ RG9 w0 (W'.setCell ⟨gx, 3, none⟩ (.slice kp' (x.ks.length + 1) kc')) g gx zs bad { x with ks := x.ks ++ [y], kp := kp', kc := kc' } := by
  have k : Kept (fun k => (Value.slice x.kp x.ks.length x.kc).ownBlock = some k) W W' := (Kept.refl _ W).grown hr (fun k e => .inl e)
  have hge : ∀ i, (Value.slice x.kp x.ks.length x.kc).ownBlock = some i → w0.heap.size ≤ i := fun i hi => (h.ow.lt i hi).1
  obtain ⟨A, c, h1, h2, h3⟩ := h.rd.is
  have hi := h.hi
  have b1 := h.res.kept k (fun e => own_apart h.ow h.res (by decide) e)
  have b2 := h.bx.kept k (fun e => own_apart h.ow h.bx (by decide) e)
  have bel' : Below w0.heap.size w0 W' := h.rd.bel.trans ((k.mono hge).to_below h.rd.bel.size)
  have r2 : Rr w0 W' g zs bad := ⟨⟨A, c, h1.kept k (fun e => own_apart h.ow h1 (by decide) e), h2, h3⟩, h.rd.none_, bel', h.rd.low⟩
  have nk : ∀ z, OK9 W w0.heap.size z → OK9 W' w0.heap.size z := fun z hz => own_kept hz k (fun i hi e => hz.off h.ow i hi e)
  refine ⟨b2, ?_⟩
  have hk : Kept (fun k => k = gx) W' (W'.setCell ⟨gx, 3, none⟩ (.slice kp' (x.ks.length + 1) kc')) := Kept.setCell (F := fun k => k = gx) (Kept.refl _ _) (p := ⟨gx, 3, none⟩) (.inl rfl) _
  have r2' : ∃ A c, Blk W' g 98 [.slice A zs.length c, .bool bad] := by obtain ⟨A, c, q, _⟩ := r2.is; exact ⟨A, c, q⟩
  obtain ⟨A', c', q1⟩ := r2'
  refine ⟨r2.off hk (q1.apart b2 (by decide)) (by omega), ?_, b1.kept hk (by omega), h.hi, ?_, fun z hz => ?_⟩
  · have := b2.store 3 (.slice kp' (x.ks.length + 1) kc')
    rw [show gv { x with ks := x.ks ++ [y], kp := kp', kc := kc' } = (gv x).set 3 (.slice kp' (x.ks.length + 1) kc') by simp [gv]]
    exact this
  · refine own_kept ?_ hk (fun k hk' e => own_apart ho b2 (by decide) (by rw [show (x.ks ++ [y]).length = x.ks.length + 1 by simp] at hk'; rw [hk', e]))
    rw [show (x.ks ++ [y]).length = x.ks.length + 1 by simp, List.flatMap_append]
    exact ho
  · have hz' : OK9 W w0.heap.size z := by
      rcases List.mem_append.1 hz with h1 | h1
      · exact h.nk z h1
      · rw [List.mem_singleton.1 h1]; exact hy
    exact own_kept (nk z hz') hk (fun k q q2 => own_apart (nk z hz') b2 (by decide) (by rw [q, q2]))
theorem RG9.w (h : RG9 w0 W g gx zs bad x) (hn : x.ks.length ≤ 1000000) (hb : ∀ y ∈ x.ks, Bytes y.X) (hl : ∀ y ∈ x.ks, y.X.length ≤ 1000000) (hs : Sr W x.sp x.st) (hsb : Bytes x.st) (hsl : x.st.length ≤ 1000000) (hsc : x.st.length ≤ x.sc) : GvW W x ∧ GvC x :=
  ⟨⟨RowL.of_own kyv_len rfl h.ow, fun y hy => Sr.of_own (h.nk y hy), hb, fun y hy => by have := hl y hy; omega, by omega, hs, hsb, hsl, hsc⟩, fun y hy => by
    obtain ⟨A, c, e, hc⟩ := own_form (h.nk y hy)
    injection e with e1 e2 e3
    rw [e3]
    exact hc⟩
end
section
variable {P : Program} {ops : Array Oper} {Q : Exit → Act → World → Prop} {md : Region.Mode} {S : World → Prop} {last : Nat → Bool}
theorem wpAnyE_two9 {i j : Nat} {o p : Oper} {fuel : Nat} {listed : Array Bool} {a : Act} {w : World} (hr : Region.ready md ops listed = [i, j]) (hi : ops[i]? = some o) (hwd : Region.wanted o (yielded ops a.tmps) = true) (hj : ops[j]? = some p) (hwj : Region.wanted p (yielded ops a.tmps) = true)
    (h : ∀ K : Act → World → Prop, Hid (∀ a' w', (last i = true ∨ S w') → wpAnyE P md ops Q S last fuel (listed.setIfInBounds i true) a' w' → K a' w') → o.wp P a w K Q)
    (g : ∀ K : Act → World → Prop, Hid (∀ a' w', (last j = true ∨ S w') → wpAnyE P md ops Q S last fuel (listed.setIfInBounds j true) a' w' → K a' w') → p.wp P a w K Q) : wpAnyE P md ops Q S last (fuel + 1) listed a w := by
  refine ⟨fun h0 => (by rw [hr] at h0; cases h0), fun k hk => ?_⟩
  rw [hr] at hk
  have hk' : k = i ∨ k = j := by simpa using hk
  rcases hk' with rfl | rfl
  · unfold wpOp
    rw [hi]
    simp only [hwd, if_true]
    exact Or.inl (h _ (fun a' w' h1 h2 => ⟨h1, h2⟩))
  · unfold wpOp
    rw [hj]
    simp only [hwj, if_true]
    exact Or.inl (g _ (fun a' w' h1 h2 => ⟨h1, h2⟩))
end
def kRw (zs : List Nat) : List Nat × List Nat × Bool := if 56 ≤ zs.length then (zs.take 56, zs.drop 56, false) else ([], [], true)
theorem kRw_len (zs : List Nat) : (kRw zs).1.length ≤ 56 ∧ (kRw zs).2.1.length ≤ zs.length := by
  unfold kRw
  split
  · exact ⟨by rw [List.length_take]; omega, by rw [List.length_drop]; omega⟩
  · exact ⟨Nat.zero_le _, Nat.zero_le _⟩
theorem kRw_bytes {zs : List Nat} (h : Bytes zs) : Bytes (kRw zs).1 ∧ Bytes (kRw zs).2.1 := by
  unfold kRw
  split
  · exact ⟨bytes_take h _, bytes_drop h _⟩
  · exact ⟨nil_bytes, nil_bytes⟩
theorem rraw9_t (g : Nat) (zs : List Nat) (w0 w : World) (x : Rr w0 w g zs false) :
    Calls Tryz.prog 60 #[.pointer (some ⟨g, 0, none⟩), .int .i64 56] w fun e w' => (∃ A c, e = .returned (.slice A (kRw zs).1.length c) ∧ Sr w' A (kRw zs).1) ∧ Rr w0 w' g (kRw zs).2.1 (kRw zs).2.2 ∧ Kept (fun k => k = g) w w' := by
  unfold kRw
  by_cases h : 56 ≤ zs.length
  · rw [if_pos h]
    refine (rraw_ok g zs 56 w0 w x h).mono ?_
    rintro e w' ⟨⟨A, c, he, _, hs⟩, r, k⟩
    exact ⟨⟨A, c, by rw [he]; dsimp only; rw [List.length_take, Nat.min_eq_left h], hs⟩, r, k⟩
  · rw [if_neg h]
    refine (rraw_bad g zs false 56 w0 w x (.inr (by omega))).mono ?_
    rintro e w' ⟨he, r, k⟩
    exact ⟨⟨none, 0, he, Sr.nil⟩, r, k⟩
theorem RG9.far {w0 W W' : World} {g gx B : Nat} {zs : List Nat} {bad : Bool} {x : Gv} {F : Nat → Prop} (h : RG9 w0 W g gx zs bad x) (hk : Kept F W W') (hF : ∀ k, F k → B ≤ k) (h0 : w0.heap.size < B) (h1 : g < B) (h2 : gx < B) (h3 : ∀ k, (Value.slice x.kp x.ks.length x.kc).ownBlock = some k → k < B) (h4 : ∀ y ∈ x.ks, ∀ k, (Value.slice y.A y.X.length y.c).ownBlock = some k → k < B) : RG9 w0 W' g gx zs bad x := by
  have f : ∀ k, k < B → ¬ F k := fun k hk hf => by have := hF k hf; omega
  obtain ⟨A, c, q1, q2, q3⟩ := h.rd.is
  exact ⟨⟨⟨A, c, q1.kept hk (f g h1), q2, q3⟩, h.rd.none_, h.rd.bel.trans ((hk.mono fun k hf => by have := hF k hf; omega).to_below h.rd.bel.size), h.rd.low⟩,
    h.bx.kept hk (f gx h2), h.res.kept hk (f _ h0), h.hi, own_kept h.ow hk (fun k hk' => f k (h3 k hk')), fun y hy => own_kept (h.nk y hy) hk (fun k hk' => f k (h4 y hy k hk'))⟩
theorem byte_infoR : (Tryz.prog.info? 5).map (fun i => (i.zero, i.size, i.bytes)) = some (some (.int .u8 0), 1, 1) := by kernel_rfl
theorem built_gf (a : Int) : Tryz.prog.built 25 [(0, .int .i64 a)] = some (gv ⟨a, 0, 0, none, 0, [], none, 0, []⟩).toArray := by kernel_rfl
theorem own_emptyR (w : World) (base : Nat) (h : base ≤ w.heap.size) : (w.alloc (.cells #[] 5)).ownsRow base 5 1 (.slice (some ⟨w.heap.size, 0, none⟩) 0 0) 0 (u8s []) := by
  have := World.ownsRow_lit w (e := 5) (size := 1) (base := base) #[] 0 h (Nat.zero_le _) rfl
  simpa [u8s] using this
theorem own_zeroR {w : World} {base : Nat} {e : TypeId} {v : Value} {n : Nat} {xs : List Nat} (h : w.ownsRow base e 1 v (0 + n) (u8s ([] ++ xs))) : w.ownsRow base e 1 v n (u8s xs) := by rwa [List.nil_append, Nat.zero_add] at h
structure RJ9 (w0 W : World) (g gx n : Nat) (ys : List Nat) (d : Bool) (a b c : Int) (j : Nat) (x : Gv) (zs : List Nat) (bad : Bool) : Prop where
  q : RG9 w0 W g gx zs bad x
  ge : x.f = a ∧ x.rd = b ∧ x.wr = c ∧ x.sp = none ∧ x.sc = 0 ∧ x.st = []
  len : x.ks.length = j
  kl : ∀ y ∈ x.ks, y.X.length ≤ 56
  kb : ∀ y ∈ x.ks, Bytes y.X
  zb : Bytes zs
  zl : zs.length ≤ 1000000
  is : (bad = false ∧ kRd ys d j = (x.ks.map (·.X), zs, false)) ∨ (bad = true ∧ (kRd ys d n).2.2 = true)
theorem RJ9.next {w0 W W' : World} {g gx n : Nat} {ys : List Nat} {d : Bool} {a b c : Int} {j : Nat} {x : Gv} {zs : List Nat} {y : Ky} {kp' : Option Addr} {kc' : Nat} (h : RJ9 w0 W g gx n ys d a b c j x zs false) (hj : j < n) (hy : y.X = (kRw zs).1) (q : RG9 w0 W' g gx (kRw zs).2.1 (kRw zs).2.2 { x with ks := x.ks ++ [y], kp := kp', kc := kc' }) :
    RJ9 w0 W' g gx n ys d a b c (j + 1) { x with ks := x.ks ++ [y], kp := kp', kc := kc' } (kRw zs).2.1 (kRw zs).2.2 := by
  have h1 := kRw_len zs
  have h2 := kRw_bytes h.zb
  have hm : ∀ P : Ky → Prop, (∀ z ∈ x.ks, P z) → P y → ∀ z ∈ x.ks ++ [y], P z := fun P p1 p2 z hz => by
    rcases List.mem_append.1 hz with h | h
    · exact p1 z h
    · rw [List.mem_singleton.1 h]; exact p2
  refine ⟨q, h.ge, by show (x.ks ++ [y]).length = j + 1; rw [List.length_append, h.len]; rfl, hm _ h.kl (by rw [hy]; exact h1.1), hm _ h.kb (by rw [hy]; exact h2.1), h2.2, Nat.le_trans h1.2 h.zl, ?_⟩
  have hk : kRd ys d j = (x.ks.map (·.X), zs, false) := by
    rcases h.is with ⟨_, e⟩ | ⟨e, _⟩
    · exact e
    · cases e
  have hs : kRd ys d (j + 1) = (x.ks.map (·.X) ++ [(kSeg zs false).1], (kSeg zs false).2) := by
    show ((kRd ys d j).1 ++ [(kSeg (kRd ys d j).2.1 (kRd ys d j).2.2).1], (kSeg (kRd ys d j).2.1 (kRd ys d j).2.2).2) = _
    rw [hk]
  unfold kSeg at hs
  unfold kRw at hy ⊢
  by_cases h56 : 56 ≤ zs.length
  · rw [if_pos h56] at hs hy ⊢
    refine .inl ⟨rfl, ?_⟩
    rw [hs]
    dsimp only at hy ⊢
    rw [List.map_append, List.map_cons, List.map_nil, hy]
  · rw [if_neg h56] at hs ⊢
    refine .inr ⟨rfl, ?_⟩
    have := kRd_bad (ys := ys) (bad := d) (j := j + 1) (by rw [hs]) (n - (j + 1))
    rwa [show j + 1 + (n - (j + 1)) = n by omega] at this
set_option maxRecDepth 100000 in
set_option maxHeartbeats 4000000 in
theorem refGetE_t (xs : List Nat) (p : Option Addr) (m c : Nat) (w : World) (hx : xs.length = m) (hc : m ≤ c) (hp : Sr w p xs) (hb : Bytes xs) (hl : m ≤ 1000000) :
    Calls Tryz.prog 17 #[.slice p m c] w fun e W' => Below w.heap.size w W' ∧ ((okE xs = false ∧ e = .returned (.tuple #[.agg (gv zGv).toArray, .int .i64 2])) ∨ (okE xs = true ∧ ∃ y : Gv, y.ge = gotE xs ∧ e = .returned (.tuple #[.agg (gv y).toArray, .int .i64 0]) ∧ GvW W' y ∧ GvC y)) := by
  subst hx
  obtain ⟨⟨v1, y1, d1⟩, E1⟩ : ∃ r, rNum xs false 1 = r := ⟨_, rfl⟩
  obtain ⟨⟨v2, y2, d2⟩, E2⟩ : ∃ r, rNum y1 d1 1 = r := ⟨_, rfl⟩
  obtain ⟨⟨v3, y3, d3⟩, E3⟩ : ∃ r, rNum y2 d2 1 = r := ⟨_, rfl⟩
  have F1 : g1 xs = (v1, y1, d1) := E1
  have F2 : g2 xs = (v2, y2, d2) := by unfold g2; rw [F1]; exact E2
  have F3 : g3 xs = (v3, y3, d3) := by unfold g3; rw [F2]; exact E3
  have F4 : g4 xs = kRd y3 d3 (3 * v1 + 1) := by unfold g4; rw [F3, F1]
  have B1 := rNum_bytes xs false 1 hb
  rw [E1] at B1
  have B2 := rNum_bytes y1 d1 1 B1.1
  rw [E2] at B2
  have B3 := rNum_bytes y2 d2 1 B2.1
  rw [E3] at B3
  have v18 : v1 < 256 := by have := B1.2.2; dsimp only at this; omega
  have v28 : v2 < 256 := by have := B2.2.2; dsimp only at this; omega
  have v38 : v3 < 256 := by have := B3.2.2; dsimp only at this; omega
  have Y3 := Lib.hid (show y3.length ≤ 1000000 from by have q1 := B1.2.1; have q2 := B2.2.1; have q3 := B3.2.1; dsimp only at q1 q2 q3; omega)
  obtain ⟨n, hn⟩ : ∃ n, 3 * v1 + 1 = n := ⟨_, rfl⟩
  rw [hn] at F4
  have n9 : n ≤ 1000 := by omega
  obtain ⟨ok, hok⟩ : ∃ z, okE xs = z := ⟨_, rfl⟩
  obtain ⟨ge, hge⟩ : ∃ z, gotE xs = z := ⟨_, rfl⟩
  have GOT := Lib.hid (show ∀ ks zs st ys b, kRd y3 d3 n = (ks, zs, false) → rTxtM zs false 1048576 = (st, ys, b) → zs.length ≤ 1000000 → ge = ⟨(v1 : Int), (v2 : Int), (v3 : Int), ks, st⟩ ∧ ok = (decide (endN ys b = 0) && begQ ge) from fun ks zs st ys b h1 h2 h3 => by
    have F5 : g5 xs = (st, ys, b) := by unfold g5; rw [F4, h1]; dsimp only; rw [← rTxt_most (n := 1048576) (by omega)]; exact h2
    have hg : gotE xs = ⟨(v1 : Int), (v2 : Int), (v3 : Int), ks, st⟩ := by unfold gotE; rw [F1, F2, F3, F4, F5, h1]
    exact ⟨hge.symm.trans hg, by rw [← hok, okE_eq, F5, hge]⟩)
  have BADK := Lib.hid (show (kRd y3 d3 n).2.2 = true → ok = false from fun h => by rw [← hok]; exact okE_bad (by rw [F4]; exact h))
  rw [hok, hge]
  have HB := Lib.hid hb; have BY1 := Lib.hid B1.1; have BY2 := Lib.hid B2.1; have BY3 := Lib.hid B3.1
  have H1 := Lib.hid E1; have H2 := Lib.hid E2; have H3 := Lib.hid E3
  have HP := Lib.hid hp; have HC := Lib.hid hc
  have i1 : IntKind.i64.wrap (v1 : Int) = (v1 : Int) := IntWalk.i64_in _ (by omega)
  have i2 : IntKind.i64.wrap (v2 : Int) = (v2 : Int) := IntWalk.i64_in _ (by omega)
  have i3 : IntKind.i64.wrap (v3 : Int) = (v3 : Int) := IntWalk.i64_in _ (by omega)
  have BR := built_R p xs.length c
  have BG := built_gf (v1 : Int)
  clear hp hc hb E1 E2 E3 F1 F2 F3 F4 B1 B2 B3 hok hge hl
  go_enter Tryz.func17, Tryz.ntmps17
  go_upto_region 2 with (fail)
  obtain ⟨g, hg⟩ : ∃ g, w.heap.size + 1 = g := ⟨_, rfl⟩
  refine world_at (fun Y => Rr w Y g xs false ∧ Blk Y w.heap.size 25 (gv zGv)) (by
    have b0 := (Below.refl w.heap.size w).alloc (Nat.le_refl _) (.cells (gv zGv).toArray 25)
    have b1 := b0.alloc b0.size (.cells #[.slice p xs.length c, .bool false] 98)
    rw [← hg]
    exact ⟨⟨⟨p, c, Blk.new2 w (.cells (gv zGv).toArray 25) _ [.slice p xs.length c, .bool false], HC.out, HP.out⟩, (fun e => by cases e), b1, by omega⟩, (Blk.new w 25 (gv zGv)).alloc _⟩) ?_
  rintro Y ⟨qy, qr⟩
  first | rw [hg] | skip
  have HG := Lib.hid hg
  have Q0 := Lib.hid qy; have R0 := Lib.hid qr
  clear qy qr HP HC BR hg
  go_wp2_with fail
  refine (rrnum_t g xs false 1 w Y Q0.out HB.out (by decide) (by decide)).mono ?_
  rw [H1.out]
  rintro e w1 ⟨rfl, x1, k1⟩
  have A0 := Lib.hid (show RG9 w (w1.alloc (.cells (gv ⟨(v1 : Int), 0, 0, none, 0, [], none, 0, []⟩).toArray 25)) g w1.heap.size y1 d1 ⟨(v1 : Int), 0, 0, none, 0, [], none, 0, []⟩ from by
    have bz : Below w1.heap.size w1 (w1.alloc (.cells (gv ⟨(v1 : Int), 0, 0, none, 0, [], none, 0, []⟩).toArray 25)) := (Below.refl _ _).alloc (Nat.le_refl _) _
    have r1 := R0.out.kept k1 (by have := HG.out; omega)
    have hl := x1.lt
    exact ⟨x1.below bz, Blk.new w1 _ _, r1.below bz r1.lt, by have := HG.out; omega, World.ownsRow_nil _ _ _ _, fun y hy => by cases hy⟩)
  clear x1 k1 Q0 R0
  go_upto_region 3 with (fail)
  refine world_at (fun Z => RG9 w Z g w1.heap.size y1 d1 ⟨(v1 : Int), 0, 0, none, 0, [], none, 0, []⟩) A0.out ?_
  rintro Z1 az
  obtain ⟨gx, hgx⟩ : ∃ x, w1.heap.size = x := ⟨_, rfl⟩
  rw [hgx] at az ⊢
  have A1 := Lib.hid az
  clear az A0 hgx BG HG
  go_wp2_with fail
  refine (rrnum_t g y1 d1 1 w Z1 A1.out.rd BY1.out (by decide) (by decide)).mono ?_
  rw [H2.out]
  rintro e w2 ⟨rfl, x_, k_⟩
  have A2 := Lib.hid (A1.out.read k_ x_)
  clear x_ k_ A1
  have fz := A2.out.bx.frozen 1
  have ct : w2.cell? ⟨gx, 1, none⟩ = some (.int .i64 0) := (gv_cells A2.out.bx).2.1
  have A3 := Lib.hid (A2.out.put (x' := ⟨(v1 : Int), (v2 : Int), 0, none, 0, [], none, 0, []⟩) (Kept.setCell (F := fun k => k = gx) (Kept.refl _ _) (p := ⟨gx, 1, none⟩) (.inl rfl) _) (A2.out.bx.store 1 (.int .i64 (v2 : Int))) rfl rfl rfl)
  clear A2
  go_upto_region 4 with (fail)
  clear fz ct
  obtain ⟨Z3, hZ3⟩ : ∃ V, w2.setCell ⟨gx, 1, none⟩ (.int .i64 (v2 : Int)) = V := ⟨_, rfl⟩
  rw [hZ3] at A3 ⊢
  clear hZ3
  go_wp2_with fail
  refine (rrnum_t g y2 d2 1 w Z3 A3.out.rd BY2.out (by decide) (by decide)).mono ?_
  rw [H3.out]
  rintro e w4 ⟨rfl, x_, k_⟩
  have A4 := Lib.hid (A3.out.read k_ x_)
  clear x_ k_ A3
  have fz := A4.out.bx.frozen 2
  have ct : w4.cell? ⟨gx, 2, none⟩ = some (.int .i64 0) := (gv_cells A4.out.bx).2.2.1
  have A5 := Lib.hid (A4.out.put (x' := ⟨(v1 : Int), (v2 : Int), (v3 : Int), none, 0, [], none, 0, []⟩) (Kept.setCell (F := fun k => k = gx) (Kept.refl _ _) (p := ⟨gx, 2, none⟩) (.inl rfl) _) (A4.out.bx.store 2 (.int .i64 (v3 : Int))) rfl rfl rfl)
  clear A4
  go_upto_region 5 with (fail)
  clear fz ct
  obtain ⟨Z5, hZ5⟩ : ∃ V, w4.setCell ⟨gx, 2, none⟩ (.int .i64 (v3 : Int)) = V := ⟨_, rfl⟩
  rw [hZ5] at A5 ⊢
  clear hZ5 i1 i2 i3
  have J0 := Lib.hid (show RJ9 w Z5 g gx n y3 d3 (v1 : Int) (v2 : Int) (v3 : Int) 0 ⟨(v1 : Int), (v2 : Int), (v3 : Int), none, 0, [], none, 0, []⟩ y3 d3 from ⟨A5.out, ⟨rfl, rfl, rfl, rfl, rfl, rfl⟩, rfl, (fun y hy => by cases hy), (fun y hy => by cases hy), BY3.out, Y3.out, by
    cases hd : d3 with
    | false => exact .inl ⟨rfl, rfl⟩
    | true =>
      refine .inr ⟨rfl, ?_⟩
      have := kRd_bad (ys := y3) (bad := true) (j := 0) rfl n
      rwa [Nat.zero_add] at this⟩)
  clear A5
  go_wp2_with fail
  go_loopw [6] (fun t wr => ∃ (j : Nat) (x : Gv) (zs : List Nat) (b : Bool), j ≤ n ∧ t = .int .i64 (j : Int) ∧ RJ9 w wr g gx n y3 d3 (v1 : Int) (v2 : Int) (v3 : Int) j x zs b) (fun t _ => n - (intOf t).toNat)
  case atStart => exact ⟨0, _, _, _, Nat.zero_le _, rfl, J0.out⟩
  case round =>
    clear J0
    obtain ⟨j, x, zs, b, hj, rfl, rj⟩ := hrel
    have RJ := Lib.hid rj
    have c0 : wr.cell? ⟨gx, 0, none⟩ = some (.int .i64 (v1 : Int)) := by rw [← rj.ge.1]; exact (gv_cells rj.q.bx).1
    obtain ⟨A0, c0', q1, q2, q3⟩ := rj.q.rd.is
    have cb : wr.cell? ⟨g, 1, none⟩ = some (.bool b) := q1.cell 1
    clear rj q1 q2 q3
    by_cases hgo : j < n ∧ b = false
    · obtain ⟨hlt, rfl⟩ := hgo
      have j1 : (j : Int) < 3 * (v1 : Int) + 1 := by omega
      have HLT := Lib.hid hlt
      go_upto_block 1 with (fail)
      clear c0 cb
      go_cut [6] from 22 to 45 (fun s6 wx => s6 = .int .i64 (j : Int) ∧ ∃ (x' : Gv) (zs' : List Nat) (b' : Bool), RJ9 w wx g gx n y3 d3 (v1 : Int) (v2 : Int) (v3 : Int) (j + 1) x' zs' b')
      case first =>
        go_upto_region 8 with (fail)
        obtain ⟨W3, hW3⟩ : ∃ Z, wr.drew = Z := ⟨_, rfl⟩
        have Q3 := Lib.hid (RJ.out.q.below (show Below wr.heap.size wr W3 from by rw [← hW3]; exact (Below.refl _ _).drew))
        have LL := Lib.hid (show x.ks.length + 1 ≤ 1000000 from by rw [RJ.out.len]; have := HLT.out; omega)
        obtain ⟨B0, hB0⟩ : ∃ B, W3.heap.size = B := ⟨_, rfl⟩
        have FAR := Lib.hid (show w.heap.size < B0 ∧ g < B0 ∧ gx < B0 ∧ (∀ k, (Value.slice x.kp x.ks.length x.kc).ownBlock = some k → k < B0) ∧ (∀ y ∈ x.ks, ∀ k, (Value.slice y.A y.X.length y.c).ownBlock = some k → k < B0) from by
          rw [← hB0]
          exact ⟨Q3.out.res.lt, Q3.out.rd.lt, Q3.out.bx.lt, fun k e => (Q3.out.ow.lt k e).2, fun y hy k e => ((Q3.out.nk y hy).lt k e).2⟩)
        have s3 : W3.cell? ⟨gx, 3, none⟩ = some (.slice x.kp x.ks.length x.kc) := (gv_cells Q3.out.bx).2.2.2.1
        refine wp_region_E (fun Y => Y.cell? ⟨gx, 3, none⟩ = some (.slice x.kp x.ks.length x.kc)) (fun i => i == 9) (by kernel_rfl) ?_
        change wpAnyE _ _ _ _ _ _ _ _ _ wr.drew
        rw [hW3]
        clear hW3
        refine wpAnyE_take (i := 0) (v := ?_) rfl (by kernel_rfl) (by kernel_rfl) (by kernel_rfl) (by kernel_rfl) (fun _ _ _ h => h) (Or.inl ⟨by kernel_rfl, ?_⟩) s3 ?_
        rotate_left 1
        · (intro w hS; clear hS; go_simp; try (with_reducible rfl))
        refine wpAnyE_take (i := 1) (v := ?_) rfl (by kernel_rfl) (by kernel_rfl) (by kernel_rfl) (by kernel_rfl) (fun _ _ _ h => h) (Or.inl ⟨by kernel_rfl, ?_⟩) s3 ?_
        rotate_left 1
        · (intro w hS; have hs := hS; clear hS; go_simp; try (with_reducible rfl))
        refine wpAnyE_take (i := 3) (v := ?_) rfl (by kernel_rfl) (by kernel_rfl) (by kernel_rfl) (by kernel_rfl) (fun _ _ _ h => h) (Or.inl ⟨by kernel_rfl, ?_⟩) s3 ?_
        rotate_left 1
        · (intro w hS; clear hS; go_simp; try (with_reducible rfl))
        refine wpAnyE_two9 (i := 2) (j := 4) (by kernel_rfl) rfl (by kernel_rfl) rfl (by kernel_rfl) (fun K hK => ?_) (fun K hK => ?_)
        · have bz := (Below.refl W3.heap.size W3).alloc (Nat.le_refl _) (.cells #[] 5)
          have Q4 := Lib.hid (Q3.out.below bz)
          have OE4 := Lib.hid (own_emptyR W3 w.heap.size Q3.out.rd.bel.size)
          have HGE := Lib.hid (Nat.le_of_eq hB0.symm)
          have s4 : (W3.alloc (.cells #[] 5)).cell? ⟨gx, 3, none⟩ = some (.slice x.kp x.ks.length x.kc) := (gv_cells Q4.out.bx).2.2.2.1
          go_simp
          refine hK.out _ _ (.inr s4) ?_
          clear hK K bz Q3 s3
          obtain ⟨W4, hW4⟩ : ∃ V, W3.alloc (.cells #[] 5) = V := ⟨_, rfl⟩
          rw [hW4] at Q4 OE4 s4 ⊢
          clear hW4
          refine wpAnyE_one (i := 4) (by kernel_rfl) rfl (by kernel_rfl) (fun K hK => ?_)
          go_simp
          refine (rraw9_t g zs w W4 Q4.out.rd).mono ?_
          rintro e W5 ⟨⟨A, cA, rfl, sa⟩, x5, k5⟩
          have Q5 := Lib.hid (Q4.out.read k5 x5); have SA := Lib.hid sa
          have OE := Lib.hid (show W5.ownsRow w.heap.size 5 1 (.slice (some ⟨W3.heap.size, 0, none⟩) 0 0) 0 (u8s []) from own_kept OE4.out k5 (fun k e q => by have h1 := Option.some.inj e; have h2 := FAR.out.2.1; simp at h1; omega))
          have HB5 := Lib.hid (show w.heap.size ≤ W5.heap.size from Q5.out.rd.bel.size)
          have s5 : W5.cell? ⟨gx, 3, none⟩ = some (.slice x.kp x.ks.length x.kc) := (gv_cells Q5.out.bx).2.2.2.1
          refine hK.out _ _ (.inr s5) ?_
          clear hK K s4 sa x5 k5 Q4 OE4
          refine wpAnyE_one (i := 5) (by kernel_rfl) rfl (by kernel_rfl) (fun K hK => ?_)
          refine wp_append_bytes (.tmp 39) (.tmp 41) 23 ?_ 5 Tryz.underlying23 byte_infoR w.heap.size (.slice (some ⟨W3.heap.size, 0, none⟩) 0 0) 0 [] (kRw zs).1 ?_ OE.out A (kRw zs).1.length cA ?_ rfl SA.out ?_ HB5.out ?_
          · rfl
          · go_simp
          · go_simp
          · have := (kRw_len zs).1; omega
          intro v1 w6 a1 a2 a3
          have o1 := own_zeroR a1.out
          obtain ⟨A1, c1, hv, _⟩ := own_form o1
          subst hv
          have kw : Kept (fun k => k = W3.heap.size) W5 w6 := (Kept.refl _ W5).grown a2.out (fun k e => .inl (by have := Option.some.inj e; exact this.symm))
          have Q6 := Lib.hid (Q5.out.far kw (B := B0) (fun k e => by subst e; exact HGE.out) FAR.out.1 FAR.out.2.1 FAR.out.2.2.1 FAR.out.2.2.2.1 FAR.out.2.2.2.2)
          obtain ⟨y, hy⟩ : ∃ y : Ky, (⟨A1, c1, (kRw zs).1⟩ : Ky) = y := ⟨_, rfl⟩
          have HYX := Lib.hid (show y.X = (kRw zs).1 from by rw [← hy])
          have KV := Lib.hid (show kyv y = [.slice A1 (kRw zs).1.length c1] from by rw [← hy]; rfl)
          have NY := Lib.hid (show OK9 w6 w.heap.size y from by rw [← hy]; exact o1)
          have s6 : w6.cell? ⟨gx, 3, none⟩ = some (.slice x.kp x.ks.length x.kc) := (gv_cells Q6.out.bx).2.2.2.1
          refine hK.out _ _ (.inr s6) ?_
          clear hK K a1 a2 a3 o1 kw hy Q5 OE SA HB5
          have BA := Lib.hid ((Below.refl w6.heap.size w6).alloc (Nat.le_refl _) (.cells #[.slice A1 (kRw zs).1.length c1] 23))
          have Q7 := Lib.hid (Q6.out.below BA.out)
          have NY7 := Lib.hid (own_below NY.out BA.out : OK9 (w6.alloc (.cells #[.slice A1 (kRw zs).1.length c1] 23)) w.heap.size y)
          have RO := Lib.hid (show RowL (w6.alloc (.cells #[.slice A1 (kRw zs).1.length c1] 23)) (some ⟨w6.heap.size, 0, none⟩) 1 kyv [y] from by
            have h := row_one kyv 1 y w6 23
            rw [KV.out] at h
            exact h)
          have O1 := Lib.hid Q7.out.ow
          have HBS := Lib.hid (show w.heap.size ≤ (w6.alloc (.cells #[.slice A1 (kRw zs).1.length c1] 23)).heap.size from Q7.out.rd.bel.size)
          have s7 : (w6.alloc (.cells #[.slice A1 (kRw zs).1.length c1] 23)).cell? ⟨gx, 3, none⟩ = some (.slice x.kp x.ks.length x.kc) := (gv_cells Q7.out.bx).2.2.2.1
          refine wpAnyE_one (i := 6) (by kernel_rfl) rfl (by kernel_rfl) (fun K hK => ?_)
          go_simp
          refine hK.out _ _ (.inr s7) ?_
          clear hK K s6 Q6 NY
          refine wpAnyE_one (i := 7) (by kernel_rfl) rfl (by kernel_rfl) (fun K hK => ?_)
          refine wp_append_rows (.tmp 38) (.tmp 43) 22 ?_ 23 Tryz.underlying22 infoKs rfl (by decide) (by decide) kyv_len kyv_one w.heap.size (.slice x.kp x.ks.length x.kc) x.ks.length (x.ks.flatMap kyv) ?_ O1.out (some ⟨w6.heap.size, 0, none⟩) 1 1 ?_ [y] rfl RO.out LL.out HBS.out ?_
          · rfl
          · go_simp
          · go_simp
          intro v1 w9 h2 h3 h5 h6
          obtain ⟨ip9, ic9, hv9, _⟩ := own_form h2.out
          subst hv9
          have r9 := Q7.out.grow NY7.out h2.out h3.out
          have fz := r9.1.frozen 3
          have ct : w9.cell? ⟨gx, 3, none⟩ = some (.slice x.kp x.ks.length x.kc) := (gv_cells r9.1).2.2.2.1
          have R9 := Lib.hid (RJ.out.next HLT.out HYX.out r9.2)
          refine hK.out _ _ (.inr ct) ?_
          clear hK K r9 h2 h3 h5 h6 s7 Q7 NY7 RO O1 HBS BA KV
          refine wpAnyE_one (i := 8) (by kernel_rfl) rfl (by kernel_rfl) (fun K hK => ?_)
          go_simp
          refine hK.out _ _ (.inr ct) ?_
          clear hK K
          refine wpAnyE_one (i := 9) (by kernel_rfl) rfl (by kernel_rfl) (fun K hK => ?_)
          go_simp
          refine hK.out _ _ (.inl rfl) ?_
          clear hK K
          refine wpAnyE_done (by kernel_rfl) ?_ _
          go_simp
          go_wp2_with fail
          go_meet
          exact ⟨rfl, _, _, _, R9.out⟩
        · skip
          go_simp
          refine (rraw9_t g zs w W3 Q3.out.rd).mono ?_
          rintro e W4 ⟨⟨A, cA, rfl, sa⟩, x5, k5⟩
          have Q4 := Lib.hid (Q3.out.read k5 x5)
          have HGE := Lib.hid (show B0 ≤ W4.heap.size from by rw [← hB0]; exact k5.size)
          have s4 : W4.cell? ⟨gx, 3, none⟩ = some (.slice x.kp x.ks.length x.kc) := (gv_cells Q4.out.bx).2.2.2.1
          refine hK.out _ _ (.inr s4) ?_
          clear hK K s3 x5 k5 Q3
          have bz := (Below.refl W4.heap.size W4).alloc (Nat.le_refl _) (.cells #[] 5)
          have Q5 := Lib.hid (Q4.out.below bz); have SA := Lib.hid (sa.below bz)
          have OE := Lib.hid (own_emptyR W4 w.heap.size Q4.out.rd.bel.size)
          have HB5 := Lib.hid (show w.heap.size ≤ (W4.alloc (.cells #[] 5)).heap.size from Q5.out.rd.bel.size)
          have s5 : (W4.alloc (.cells #[] 5)).cell? ⟨gx, 3, none⟩ = some (.slice x.kp x.ks.length x.kc) := (gv_cells Q5.out.bx).2.2.2.1
          refine wpAnyE_one (i := 2) (by kernel_rfl) rfl (by kernel_rfl) (fun K hK => ?_)
          go_simp
          refine hK.out _ _ (.inr s5) ?_
          clear hK K s4 sa bz Q4
          obtain ⟨W5, hW5⟩ : ∃ V, W4.alloc (.cells #[] 5) = V := ⟨_, rfl⟩
          rw [hW5] at Q5 SA OE HB5 s5 ⊢
          clear hW5
          refine wpAnyE_one (i := 5) (by kernel_rfl) rfl (by kernel_rfl) (fun K hK => ?_)
          refine wp_append_bytes (.tmp 39) (.tmp 41) 23 ?_ 5 Tryz.underlying23 byte_infoR w.heap.size (.slice (some ⟨W4.heap.size, 0, none⟩) 0 0) 0 [] (kRw zs).1 ?_ OE.out A (kRw zs).1.length cA ?_ rfl SA.out ?_ HB5.out ?_
          · rfl
          · go_simp
          · go_simp
          · have := (kRw_len zs).1; omega
          intro v1 w6 a1 a2 a3
          have o1 := own_zeroR a1.out
          obtain ⟨A1, c1, hv, _⟩ := own_form o1
          subst hv
          have kw : Kept (fun k => k = W4.heap.size) W5 w6 := (Kept.refl _ W5).grown a2.out (fun k e => .inl (by have := Option.some.inj e; exact this.symm))
          have Q6 := Lib.hid (Q5.out.far kw (B := B0) (fun k e => by subst e; exact HGE.out) FAR.out.1 FAR.out.2.1 FAR.out.2.2.1 FAR.out.2.2.2.1 FAR.out.2.2.2.2)
          obtain ⟨y, hy⟩ : ∃ y : Ky, (⟨A1, c1, (kRw zs).1⟩ : Ky) = y := ⟨_, rfl⟩
          have HYX := Lib.hid (show y.X = (kRw zs).1 from by rw [← hy])
          have KV := Lib.hid (show kyv y = [.slice A1 (kRw zs).1.length c1] from by rw [← hy]; rfl)
          have NY := Lib.hid (show OK9 w6 w.heap.size y from by rw [← hy]; exact o1)
          have s6 : w6.cell? ⟨gx, 3, none⟩ = some (.slice x.kp x.ks.length x.kc) := (gv_cells Q6.out.bx).2.2.2.1
          refine hK.out _ _ (.inr s6) ?_
          clear hK K a1 a2 a3 o1 kw hy Q5 OE SA HB5
          have BA := Lib.hid ((Below.refl w6.heap.size w6).alloc (Nat.le_refl _) (.cells #[.slice A1 (kRw zs).1.length c1] 23))
          have Q7 := Lib.hid (Q6.out.below BA.out)
          have NY7 := Lib.hid (own_below NY.out BA.out : OK9 (w6.alloc (.cells #[.slice A1 (kRw zs).1.length c1] 23)) w.heap.size y)
          have RO := Lib.hid (show RowL (w6.alloc (.cells #[.slice A1 (kRw zs).1.length c1] 23)) (some ⟨w6.heap.size, 0, none⟩) 1 kyv [y] from by
            have h := row_one kyv 1 y w6 23
            rw [KV.out] at h
            exact h)
          have O1 := Lib.hid Q7.out.ow
          have HBS := Lib.hid (show w.heap.size ≤ (w6.alloc (.cells #[.slice A1 (kRw zs).1.length c1] 23)).heap.size from Q7.out.rd.bel.size)
          have s7 : (w6.alloc (.cells #[.slice A1 (kRw zs).1.length c1] 23)).cell? ⟨gx, 3, none⟩ = some (.slice x.kp x.ks.length x.kc) := (gv_cells Q7.out.bx).2.2.2.1
          refine wpAnyE_one (i := 6) (by kernel_rfl) rfl (by kernel_rfl) (fun K hK => ?_)
          go_simp
          refine hK.out _ _ (.inr s7) ?_
          clear hK K s6 Q6 NY
          refine wpAnyE_one (i := 7) (by kernel_rfl) rfl (by kernel_rfl) (fun K hK => ?_)
          refine wp_append_rows (.tmp 38) (.tmp 43) 22 ?_ 23 Tryz.underlying22 infoKs rfl (by decide) (by decide) kyv_len kyv_one w.heap.size (.slice x.kp x.ks.length x.kc) x.ks.length (x.ks.flatMap kyv) ?_ O1.out (some ⟨w6.heap.size, 0, none⟩) 1 1 ?_ [y] rfl RO.out LL.out HBS.out ?_
          · rfl
          · go_simp
          · go_simp
          intro v1 w9 h2 h3 h5 h6
          obtain ⟨ip9, ic9, hv9, _⟩ := own_form h2.out
          subst hv9
          have r9 := Q7.out.grow NY7.out h2.out h3.out
          have fz := r9.1.frozen 3
          have ct : w9.cell? ⟨gx, 3, none⟩ = some (.slice x.kp x.ks.length x.kc) := (gv_cells r9.1).2.2.2.1
          have R9 := Lib.hid (RJ.out.next HLT.out HYX.out r9.2)
          refine hK.out _ _ (.inr ct) ?_
          clear hK K r9 h2 h3 h5 h6 s7 Q7 NY7 RO O1 HBS BA KV
          refine wpAnyE_one (i := 8) (by kernel_rfl) rfl (by kernel_rfl) (fun K hK => ?_)
          go_simp
          refine hK.out _ _ (.inr ct) ?_
          clear hK K
          refine wpAnyE_one (i := 9) (by kernel_rfl) rfl (by kernel_rfl) (fun K hK => ?_)
          go_simp
          refine hK.out _ _ (.inl rfl) ?_
          clear hK K
          refine wpAnyE_done (by kernel_rfl) ?_ _
          go_simp
          go_wp2_with fail
          go_meet
          exact ⟨rfl, _, _, _, R9.out⟩
      case rest =>
        obtain ⟨rfl, x', zs', b', r'⟩ := hcut
        have R' := Lib.hid r'
        clear RJ r'
        go_wp2_with fail
        go_roundw
        case rel => exact ⟨j + 1, x', zs', b', HLT.out, by go_num, R'.out⟩
        case measure => have := HLT.out; simp [intOf]; omega
    · have BOTH := Lib.hid (show ∀ st ys b2, rTxtM zs b 1048576 = (st, ys, b2) → ok = (decide (endN ys b2 = 0) && begQ ⟨(v1 : Int), (v2 : Int), (v3 : Int), x.ks.map (·.X), st⟩) ∧ (endN ys b2 = 0 → (⟨(v1 : Int), (v2 : Int), (v3 : Int), x.ks.map (·.X), st⟩ : Ge) = ge) from fun st ys b2 hT => by
        rcases RJ.out.is with ⟨hb, hk⟩ | ⟨hb, hk⟩
        · subst hb
          obtain rfl : j = n := by
            rcases Nat.lt_or_ge j n with h | h
            · exact absurd ⟨h, rfl⟩ hgo
            · omega
          obtain ⟨e1, e2⟩ := GOT.out _ _ _ _ _ hk hT RJ.out.zl
          rw [e1] at e2
          exact ⟨e2, fun _ => e1.symm⟩
        · subst hb
          have hz := RJ.out.q.rd.none_ rfl
          subst hz
          rw [rTxtM_none] at hT
          simp only [Prod.mk.injEq] at hT
          obtain ⟨rfl, rfl, rfl⟩ := hT
          exact ⟨by rw [BADK.out hk]; rfl, fun h => by cases h⟩)
      clear GOT BADK
      by_cases hlt : j < n
      · have hbt : b = true := by cases b with | true => rfl | false => exact absurd ⟨hlt, rfl⟩ hgo
        have j1 : (j : Int) < 3 * (v1 : Int) + 1 := by omega
        subst hbt
        clear hgo
        go_upto_region 9 with (fail)
        clear j1 c0
        have Q0 := Lib.hid RJ.out.q; have ZB := Lib.hid (And.intro RJ.out.zb RJ.out.zl)
        have XK := Lib.hid (show (x.f = (v1 : Int) ∧ x.rd = (v2 : Int) ∧ x.wr = (v3 : Int) ∧ x.sp = none ∧ x.sc = 0 ∧ x.st = []) ∧ x.ks.length ≤ 1000000 ∧ (∀ y ∈ x.ks, Bytes y.X) ∧ ∀ y ∈ x.ks, y.X.length ≤ 1000000 from ⟨RJ.out.ge, by rw [RJ.out.len]; omega, RJ.out.kb, fun y hy => by have := RJ.out.kl y hy; omega⟩)
        have FAR := Lib.hid (show w.heap.size < wr.heap.size ∧ g < wr.heap.size ∧ gx < wr.heap.size ∧ (∀ k, (Value.slice x.kp x.ks.length x.kc).ownBlock = some k → k < wr.heap.size) ∧ (∀ y ∈ x.ks, ∀ k, (Value.slice y.A y.X.length y.c).ownBlock = some k → k < wr.heap.size) from
          ⟨Q0.out.res.lt, Q0.out.rd.lt, Q0.out.bx.lt, fun k e => (Q0.out.ow.lt k e).2, fun y hy k e => ((Q0.out.nk y hy).lt k e).2⟩)
        clear RJ
        obtain ⟨⟨st, ys, b2⟩, hT⟩ : ∃ r, rTxtM zs true 1048576 = r := ⟨_, rfl⟩
        have BO := Lib.hid (BOTH.out st ys b2 hT)
        have STB := Lib.hid (show Bytes st ∧ st.length ≤ 1000000 from by
          have h := rTxtM_text zs true 1048576 ZB.out.1
          rw [hT] at h
          exact ⟨h.1, Nat.le_trans h.2 ZB.out.2⟩)
        have Q1 := Lib.hid (Q0.out.below (show Below wr.heap.size wr (wr.alloc (.cells #[] 5)) from (Below.refl _ _).alloc (Nat.le_refl _) _))
        have OE1 := Lib.hid (own_emptyR wr w.heap.size Q0.out.rd.bel.size)
        have TX := Lib.hid (rrtxt_t g zs true 1048576 w _ Q1.out.rd ZB.out.1 (by decide) (by have := ZB.out.2; omega))
        rw [hT] at TX
        clear Q0 ZB BOTH hT
        go_wp2_with fail
        refine TX.out.mono ?_
        rintro e w2 ⟨⟨A, cA, rfl, _, sa⟩, x2, k2⟩
        have Q2 := Lib.hid (Q1.out.read k2 x2); have SA := Lib.hid sa
        have OE := Lib.hid (show w2.ownsRow w.heap.size 5 1 (.slice (some ⟨wr.heap.size, 0, none⟩) 0 0) 0 (u8s []) from own_kept OE1.out k2 (fun k e q => by have h1 := Option.some.inj e; have h2 := FAR.out.2.1; simp at h1; omega))
        have HB2 := Lib.hid (show w.heap.size ≤ w2.heap.size from Q2.out.rd.bel.size)
        have STL := Lib.hid (show 0 + st.length ≤ 70368744177664 from by have := STB.out.2; omega)
        clear sa x2 k2 TX Q1 OE1
        go_upto_region 10 with ((with_reducible refine at_op (.call { callee := .builtin .append, args := #[.tmp 46, .tmp 48], argTypes := #[23, 23] }) rfl ?_); go_must (refine append_bytes (.tmp 46) (.tmp 48) 23 rfl rfl 5 Tryz.underlying23 byte_infoR w.heap.size (.slice (some ⟨wr.heap.size, 0, none⟩) 0 0) 0 [] st rfl OE.out A st.length cA rfl rfl SA.out STL.out HB2.out ?_); intro v1' w3 a1 a2 a3; have O3 := Lib.hid (own_zeroR a1.out); obtain ⟨A1, c1, hv1, hc1⟩ := own_form O3.out; subst hv1; have Q3 := Lib.hid (Q2.out.far (B := wr.heap.size) ((Kept.refl _ w2).grown a2.out (fun k e => .inl (by have := Option.some.inj e; exact this.symm)) : Kept (fun k => k = wr.heap.size) w2 w3) (fun k e => by omega) FAR.out.1 FAR.out.2.1 FAR.out.2.2.1 FAR.out.2.2.2.1 FAR.out.2.2.2.2); clear a1 a2 a3; have fz := Q3.out.bx.frozen 4; have ct : w3.cell? ⟨gx, 4, none⟩ = some (.slice x.sp x.st.length x.sc) := (gv_cells Q3.out.bx).2.2.2.2)
        have kz : Kept (fun k => k = gx) w3 (w3.setCell ⟨gx, 4, none⟩ (.slice A1 st.length c1)) := Kept.setCell (F := fun k => k = gx) (Kept.refl _ _) (p := ⟨gx, 4, none⟩) (.inl rfl) _
        have Q4 := Lib.hid (Q3.out.put (x' := { x with sp := A1, sc := c1, st := st }) kz (Q3.out.bx.store 4 (.slice A1 st.length c1)) rfl rfl rfl)
        have O4 := Lib.hid (own_kept O3.out kz (fun k e q => own_apart O3.out Q3.out.bx (by decide) (by rw [e, q])))
        have C1 := Lib.hid hc1
        clear fz ct kz Q2 Q3 O3 OE SA HB2 STL FAR hc1
        obtain ⟨V4, hV4⟩ : ∃ V, w3.setCell ⟨gx, 4, none⟩ (.slice A1 st.length c1) = V := ⟨_, rfl⟩
        rw [hV4] at Q4 O4 ⊢
        clear hV4
        obtain ⟨y, hy⟩ : ∃ y : Gv, { x with sp := A1, sc := c1, st := st } = y := ⟨_, rfl⟩
        have GY := Lib.hid (show y.ge = ⟨(v1 : Int), (v2 : Int), (v3 : Int), x.ks.map (·.X), st⟩ from by
          obtain ⟨h1, h2, h3, _⟩ := XK.out.1
          rw [← hy]
          unfold Gv.ge
          dsimp only
          rw [h1, h2, h3])
        have WC := Lib.hid (show GvW V4 y ∧ GvC y from by
          rw [← hy]
          exact Q4.out.w XK.out.2.1 XK.out.2.2.1 XK.out.2.2.2 (Sr.of_own O4.out) STB.out.1 STB.out.2 C1.out)
        rw [hy] at Q4
        have BO2 := Lib.hid (show ok = (decide (endN ys b2 = 0) && begB y) ∧ (endN ys b2 = 0 → y.ge = ge) from by
          rw [begB_Q, GY.out]
          exact BO.out)
        have OY := Lib.hid (show V4.ownsRow w.heap.size 5 1 (.slice y.sp y.st.length y.sc) y.st.length (u8s y.st) from by rw [← hy]; exact O4.out)
        clear hy BO STB O4 C1 XK GY
        have ET := Lib.hid (rrend_t g ys b2 w V4 Q4.out.rd)
        obtain ⟨en, hen⟩ : ∃ z, endN ys b2 = z := ⟨_, rfl⟩
        rw [hen] at ET BO2
        clear hen
        by_cases h0 : en = 0
        · subst h0
          have MT := Lib.hid (gMayR_t y V4 WC.out.1 WC.out.2)
          have OK := Lib.hid (show ok = begB y from by rw [BO2.out.1]; rfl)
          have GE := Lib.hid (BO2.out.2 rfl)
          obtain ⟨mb, hmb⟩ : ∃ b, begB y = b := ⟨_, rfl⟩
          rw [hmb] at MT OK
          have FY := Lib.hid (gv_size y); have FYO := Lib.hid (gv_one y)
          clear hmb BO2
          go_wp2_with fail
          refine ET.out.mono ?_
          rintro e w9 ⟨rfl, rfl⟩
          have GBX := Lib.hid Q4.out.bx
          go_wp2_with ((with_reducible refine load_blk_gdO 55 25 (.tmp 5) gx 25 (gv y) _ ?_ ?_ rfl ?_ Tryz.underlying25 ?_ ?_ ?_ ?_); exact rfl; kernel_rfl; exact GBX.out; exact rfl; exact FY.out; exact rfl)
          refine MT.out.mono ?_
          rintro e w10 ⟨rfl, b10⟩
          have Q6 := Lib.hid (Q4.out.below b10); have WC6 := Lib.hid (And.intro (WC.out.1.below b10) WC.out.2); have OY6 := Lib.hid (own_below OY.out b10)
          clear b10 MT ET GBX Q4 WC OY
          cases mb with
          | false =>
            clear OY6 WC6
            have RES := Lib.hid Q6.out.res
            have RZ := Lib.hid (Q6.out.res.setRow (gv zGv))
            have BF := Lib.hid (below_setRow Q6.out.rd.bel (Nat.le_refl _) (gv zGv).toArray)
            have FZ := Lib.hid (gv_size zGv); have FZO := Lib.hid (gv_one zGv)
            have BZ := built_gz
            go_wp2_with ((with_reducible refine at_op (.store 25 (.tmp 2) (.tmp 59)) rfl ?_); go_must (refine store_blk 25 (.tmp 2) (.tmp 59) w.heap.size 25 _ (gv zGv) rfl rfl RES.out rfl FZ.out FZO.out rfl rfl ?_))
            exact ret_blkS (p := 2) (u := 3) (ty := 25) rfl rfl w.heap.size 25 _ _ rfl RZ.out Tryz.underlying25 rfl FZ.out _ rfl ⟨BF.out, .inl ⟨OK.out, rfl⟩⟩
          | true =>
            have RES := Lib.hid Q6.out.res
            have GBX := Lib.hid Q6.out.bx
            have RZ := Lib.hid (Q6.out.res.setRow (gv y))
            have BF := Lib.hid (below_setRow Q6.out.rd.bel (Nat.le_refl _) (gv y).toArray)
            have GF := Lib.hid (show GvW (w10.setRow w.heap.size (gv y).toArray) y from by
              have kz : Kept (fun k => k = w.heap.size) w10 (w10.setRow w.heap.size (gv y).toArray) := Kept.setRowK (F := fun k => k = w.heap.size) (Kept.refl _ _) (.inl rfl) _
              have q := WC6.out.1
              exact ⟨RowL.of_own kyv_len rfl (own_kept Q6.out.ow kz (fun k e e2 => own_apart Q6.out.ow Q6.out.res (by decide) (by rw [e, e2]))), fun z hz => Sr.of_own (own_kept (Q6.out.nk z hz) kz (fun k e e2 => own_apart (Q6.out.nk z hz) Q6.out.res (by decide) (by rw [e, e2]))), q.kb, q.kn, q.kl, Sr.of_own (own_kept OY6.out kz (fun k e e2 => own_apart OY6.out Q6.out.res (by decide) (by rw [e, e2]))), q.sb, q.sl, q.sc⟩)
            have HCY := Lib.hid WC6.out.2
            go_wp2_with (first
              | ((with_reducible refine load_blk 25 (.tmp 5) gx 25 (gv y) _ rfl rfl ?_ Tryz.underlying25 ?_ ?_ ?_ ?_); exact GBX.out; exact rfl; exact FY.out; exact rfl)
              | ((with_reducible refine at_op (.store 25 (.tmp 2) (.tmp 60)) rfl ?_); go_must (refine store_blk 25 (.tmp 2) (.tmp 60) w.heap.size 25 _ (gv y) rfl rfl RES.out rfl FY.out FYO.out rfl rfl ?_)))
            exact ret_blkS (p := 2) (u := 3) (ty := 25) rfl rfl w.heap.size 25 _ _ rfl RZ.out Tryz.underlying25 rfl FY.out _ rfl ⟨BF.out, .inr ⟨OK.out, y, GE.out, rfl, GF.out, HCY.out⟩⟩
        · have e1 : ((en : Int) != 0) = true := by rw [bne_iff_ne]; omega
          have OK := Lib.hid (show ok = false from by rw [BO2.out.1, decide_eq_false h0]; rfl)
          clear WC BO2 OY
          go_wp2_with fail
          refine ET.out.mono ?_
          rintro e w9 ⟨rfl, rfl⟩
          clear ET
          have RES := Lib.hid Q4.out.res
          have RZ := Lib.hid (Q4.out.res.setRow (gv zGv))
          have BF := Lib.hid (below_setRow Q4.out.rd.bel (Nat.le_refl _) (gv zGv).toArray)
          have FZ := Lib.hid (gv_size zGv); have FZO := Lib.hid (gv_one zGv)
          have BZ := built_gz
          go_wp2_with ((with_reducible refine at_op (.store 25 (.tmp 2) (.tmp 59)) rfl ?_); go_must (refine store_blk 25 (.tmp 2) (.tmp 59) w.heap.size 25 _ (gv zGv) rfl rfl RES.out rfl FZ.out FZO.out rfl rfl ?_))
          exact ret_blkS (p := 2) (u := 3) (ty := 25) rfl rfl w.heap.size 25 _ _ rfl RZ.out Tryz.underlying25 rfl FZ.out _ rfl ⟨BF.out, .inl ⟨OK.out, rfl⟩⟩
      · have j1 : ¬ ((j : Int) < 3 * (v1 : Int) + 1) := by omega
        clear hgo cb
        go_upto_region 9 with (fail)
        clear j1 c0
        have Q0 := Lib.hid RJ.out.q; have ZB := Lib.hid (And.intro RJ.out.zb RJ.out.zl)
        have XK := Lib.hid (show (x.f = (v1 : Int) ∧ x.rd = (v2 : Int) ∧ x.wr = (v3 : Int) ∧ x.sp = none ∧ x.sc = 0 ∧ x.st = []) ∧ x.ks.length ≤ 1000000 ∧ (∀ y ∈ x.ks, Bytes y.X) ∧ ∀ y ∈ x.ks, y.X.length ≤ 1000000 from ⟨RJ.out.ge, by rw [RJ.out.len]; omega, RJ.out.kb, fun y hy => by have := RJ.out.kl y hy; omega⟩)
        have FAR := Lib.hid (show w.heap.size < wr.heap.size ∧ g < wr.heap.size ∧ gx < wr.heap.size ∧ (∀ k, (Value.slice x.kp x.ks.length x.kc).ownBlock = some k → k < wr.heap.size) ∧ (∀ y ∈ x.ks, ∀ k, (Value.slice y.A y.X.length y.c).ownBlock = some k → k < wr.heap.size) from
          ⟨Q0.out.res.lt, Q0.out.rd.lt, Q0.out.bx.lt, fun k e => (Q0.out.ow.lt k e).2, fun y hy k e => ((Q0.out.nk y hy).lt k e).2⟩)
        clear RJ
        obtain ⟨⟨st, ys, b2⟩, hT⟩ : ∃ r, rTxtM zs b 1048576 = r := ⟨_, rfl⟩
        have BO := Lib.hid (BOTH.out st ys b2 hT)
        have STB := Lib.hid (show Bytes st ∧ st.length ≤ 1000000 from by
          have h := rTxtM_text zs b 1048576 ZB.out.1
          rw [hT] at h
          exact ⟨h.1, Nat.le_trans h.2 ZB.out.2⟩)
        have Q1 := Lib.hid (Q0.out.below (show Below wr.heap.size wr (wr.alloc (.cells #[] 5)) from (Below.refl _ _).alloc (Nat.le_refl _) _))
        have OE1 := Lib.hid (own_emptyR wr w.heap.size Q0.out.rd.bel.size)
        have TX := Lib.hid (rrtxt_t g zs b 1048576 w _ Q1.out.rd ZB.out.1 (by decide) (by have := ZB.out.2; omega))
        rw [hT] at TX
        clear Q0 ZB BOTH hT
        go_wp2_with fail
        refine TX.out.mono ?_
        rintro e w2 ⟨⟨A, cA, rfl, _, sa⟩, x2, k2⟩
        have Q2 := Lib.hid (Q1.out.read k2 x2); have SA := Lib.hid sa
        have OE := Lib.hid (show w2.ownsRow w.heap.size 5 1 (.slice (some ⟨wr.heap.size, 0, none⟩) 0 0) 0 (u8s []) from own_kept OE1.out k2 (fun k e q => by have h1 := Option.some.inj e; have h2 := FAR.out.2.1; simp at h1; omega))
        have HB2 := Lib.hid (show w.heap.size ≤ w2.heap.size from Q2.out.rd.bel.size)
        have STL := Lib.hid (show 0 + st.length ≤ 70368744177664 from by have := STB.out.2; omega)
        clear sa x2 k2 TX Q1 OE1
        go_upto_region 10 with ((with_reducible refine at_op (.call { callee := .builtin .append, args := #[.tmp 46, .tmp 48], argTypes := #[23, 23] }) rfl ?_); go_must (refine append_bytes (.tmp 46) (.tmp 48) 23 rfl rfl 5 Tryz.underlying23 byte_infoR w.heap.size (.slice (some ⟨wr.heap.size, 0, none⟩) 0 0) 0 [] st rfl OE.out A st.length cA rfl rfl SA.out STL.out HB2.out ?_); intro v1' w3 a1 a2 a3; have O3 := Lib.hid (own_zeroR a1.out); obtain ⟨A1, c1, hv1, hc1⟩ := own_form O3.out; subst hv1; have Q3 := Lib.hid (Q2.out.far (B := wr.heap.size) ((Kept.refl _ w2).grown a2.out (fun k e => .inl (by have := Option.some.inj e; exact this.symm)) : Kept (fun k => k = wr.heap.size) w2 w3) (fun k e => by omega) FAR.out.1 FAR.out.2.1 FAR.out.2.2.1 FAR.out.2.2.2.1 FAR.out.2.2.2.2); clear a1 a2 a3; have fz := Q3.out.bx.frozen 4; have ct : w3.cell? ⟨gx, 4, none⟩ = some (.slice x.sp x.st.length x.sc) := (gv_cells Q3.out.bx).2.2.2.2)
        have kz : Kept (fun k => k = gx) w3 (w3.setCell ⟨gx, 4, none⟩ (.slice A1 st.length c1)) := Kept.setCell (F := fun k => k = gx) (Kept.refl _ _) (p := ⟨gx, 4, none⟩) (.inl rfl) _
        have Q4 := Lib.hid (Q3.out.put (x' := { x with sp := A1, sc := c1, st := st }) kz (Q3.out.bx.store 4 (.slice A1 st.length c1)) rfl rfl rfl)
        have O4 := Lib.hid (own_kept O3.out kz (fun k e q => own_apart O3.out Q3.out.bx (by decide) (by rw [e, q])))
        have C1 := Lib.hid hc1
        clear fz ct kz Q2 Q3 O3 OE SA HB2 STL FAR hc1
        obtain ⟨V4, hV4⟩ : ∃ V, w3.setCell ⟨gx, 4, none⟩ (.slice A1 st.length c1) = V := ⟨_, rfl⟩
        rw [hV4] at Q4 O4 ⊢
        clear hV4
        obtain ⟨y, hy⟩ : ∃ y : Gv, { x with sp := A1, sc := c1, st := st } = y := ⟨_, rfl⟩
        have GY := Lib.hid (show y.ge = ⟨(v1 : Int), (v2 : Int), (v3 : Int), x.ks.map (·.X), st⟩ from by
          obtain ⟨h1, h2, h3, _⟩ := XK.out.1
          rw [← hy]
          unfold Gv.ge
          dsimp only
          rw [h1, h2, h3])
        have WC := Lib.hid (show GvW V4 y ∧ GvC y from by
          rw [← hy]
          exact Q4.out.w XK.out.2.1 XK.out.2.2.1 XK.out.2.2.2 (Sr.of_own O4.out) STB.out.1 STB.out.2 C1.out)
        rw [hy] at Q4
        have BO2 := Lib.hid (show ok = (decide (endN ys b2 = 0) && begB y) ∧ (endN ys b2 = 0 → y.ge = ge) from by
          rw [begB_Q, GY.out]
          exact BO.out)
        have OY := Lib.hid (show V4.ownsRow w.heap.size 5 1 (.slice y.sp y.st.length y.sc) y.st.length (u8s y.st) from by rw [← hy]; exact O4.out)
        clear hy BO STB O4 C1 XK GY
        have ET := Lib.hid (rrend_t g ys b2 w V4 Q4.out.rd)
        obtain ⟨en, hen⟩ : ∃ z, endN ys b2 = z := ⟨_, rfl⟩
        rw [hen] at ET BO2
        clear hen
        by_cases h0 : en = 0
        · subst h0
          have MT := Lib.hid (gMayR_t y V4 WC.out.1 WC.out.2)
          have OK := Lib.hid (show ok = begB y from by rw [BO2.out.1]; rfl)
          have GE := Lib.hid (BO2.out.2 rfl)
          obtain ⟨mb, hmb⟩ : ∃ b, begB y = b := ⟨_, rfl⟩
          rw [hmb] at MT OK
          have FY := Lib.hid (gv_size y); have FYO := Lib.hid (gv_one y)
          clear hmb BO2
          go_wp2_with fail
          refine ET.out.mono ?_
          rintro e w9 ⟨rfl, rfl⟩
          have GBX := Lib.hid Q4.out.bx
          go_wp2_with ((with_reducible refine load_blk_gdO 55 25 (.tmp 5) gx 25 (gv y) _ ?_ ?_ rfl ?_ Tryz.underlying25 ?_ ?_ ?_ ?_); exact rfl; kernel_rfl; exact GBX.out; exact rfl; exact FY.out; exact rfl)
          refine MT.out.mono ?_
          rintro e w10 ⟨rfl, b10⟩
          have Q6 := Lib.hid (Q4.out.below b10); have WC6 := Lib.hid (And.intro (WC.out.1.below b10) WC.out.2); have OY6 := Lib.hid (own_below OY.out b10)
          clear b10 MT ET GBX Q4 WC OY
          cases mb with
          | false =>
            clear OY6 WC6
            have RES := Lib.hid Q6.out.res
            have RZ := Lib.hid (Q6.out.res.setRow (gv zGv))
            have BF := Lib.hid (below_setRow Q6.out.rd.bel (Nat.le_refl _) (gv zGv).toArray)
            have FZ := Lib.hid (gv_size zGv); have FZO := Lib.hid (gv_one zGv)
            have BZ := built_gz
            go_wp2_with ((with_reducible refine at_op (.store 25 (.tmp 2) (.tmp 59)) rfl ?_); go_must (refine store_blk 25 (.tmp 2) (.tmp 59) w.heap.size 25 _ (gv zGv) rfl rfl RES.out rfl FZ.out FZO.out rfl rfl ?_))
            exact ret_blkS (p := 2) (u := 3) (ty := 25) rfl rfl w.heap.size 25 _ _ rfl RZ.out Tryz.underlying25 rfl FZ.out _ rfl ⟨BF.out, .inl ⟨OK.out, rfl⟩⟩
          | true =>
            have RES := Lib.hid Q6.out.res
            have GBX := Lib.hid Q6.out.bx
            have RZ := Lib.hid (Q6.out.res.setRow (gv y))
            have BF := Lib.hid (below_setRow Q6.out.rd.bel (Nat.le_refl _) (gv y).toArray)
            have GF := Lib.hid (show GvW (w10.setRow w.heap.size (gv y).toArray) y from by
              have kz : Kept (fun k => k = w.heap.size) w10 (w10.setRow w.heap.size (gv y).toArray) := Kept.setRowK (F := fun k => k = w.heap.size) (Kept.refl _ _) (.inl rfl) _
              have q := WC6.out.1
              exact ⟨RowL.of_own kyv_len rfl (own_kept Q6.out.ow kz (fun k e e2 => own_apart Q6.out.ow Q6.out.res (by decide) (by rw [e, e2]))), fun z hz => Sr.of_own (own_kept (Q6.out.nk z hz) kz (fun k e e2 => own_apart (Q6.out.nk z hz) Q6.out.res (by decide) (by rw [e, e2]))), q.kb, q.kn, q.kl, Sr.of_own (own_kept OY6.out kz (fun k e e2 => own_apart OY6.out Q6.out.res (by decide) (by rw [e, e2]))), q.sb, q.sl, q.sc⟩)
            have HCY := Lib.hid WC6.out.2
            go_wp2_with (first
              | ((with_reducible refine load_blk 25 (.tmp 5) gx 25 (gv y) _ rfl rfl ?_ Tryz.underlying25 ?_ ?_ ?_ ?_); exact GBX.out; exact rfl; exact FY.out; exact rfl)
              | ((with_reducible refine at_op (.store 25 (.tmp 2) (.tmp 60)) rfl ?_); go_must (refine store_blk 25 (.tmp 2) (.tmp 60) w.heap.size 25 _ (gv y) rfl rfl RES.out rfl FY.out FYO.out rfl rfl ?_)))
            exact ret_blkS (p := 2) (u := 3) (ty := 25) rfl rfl w.heap.size 25 _ _ rfl RZ.out Tryz.underlying25 rfl FY.out _ rfl ⟨BF.out, .inr ⟨OK.out, y, GE.out, rfl, GF.out, HCY.out⟩⟩
        · have e1 : ((en : Int) != 0) = true := by rw [bne_iff_ne]; omega
          have OK := Lib.hid (show ok = false from by rw [BO2.out.1, decide_eq_false h0]; rfl)
          clear WC BO2 OY
          go_wp2_with fail
          refine ET.out.mono ?_
          rintro e w9 ⟨rfl, rfl⟩
          clear ET
          have RES := Lib.hid Q4.out.res
          have RZ := Lib.hid (Q4.out.res.setRow (gv zGv))
          have BF := Lib.hid (below_setRow Q4.out.rd.bel (Nat.le_refl _) (gv zGv).toArray)
          have FZ := Lib.hid (gv_size zGv); have FZO := Lib.hid (gv_one zGv)
          have BZ := built_gz
          go_wp2_with ((with_reducible refine at_op (.store 25 (.tmp 2) (.tmp 59)) rfl ?_); go_must (refine store_blk 25 (.tmp 2) (.tmp 59) w.heap.size 25 _ (gv zGv) rfl rfl RES.out rfl FZ.out FZO.out rfl rfl ?_))
          exact ret_blkS (p := 2) (u := 3) (ty := 25) rfl rfl w.heap.size 25 _ _ rfl RZ.out Tryz.underlying25 rfl FZ.out _ rfl ⟨BF.out, .inl ⟨OK.out, rfl⟩⟩
end Go.Proofs.YtlipjglehongeaaGreatDoor
