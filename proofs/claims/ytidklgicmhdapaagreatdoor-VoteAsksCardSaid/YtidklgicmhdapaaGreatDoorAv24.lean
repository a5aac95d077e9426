/-
  PACKAGE state
-/
import Derived.Test.YtidklgicmhdapaaGreatDoorAv22
import Derived.Test.YtidklgicmhdapaaGreatDoorAv18
import Derived.Test.YtidklgicmhdapaaGreatDoorAv23
namespace Go.Proofs.YtidklgicmhdapaaGreatDoor
open Go Go.RowKit Sh

def zrp : Rpv := ⟨⟨0, 0, 0, [], false⟩, none, 0⟩
def gsp (a b c : Int) : Spv := ⟨a, [], none, 0, [], none, 0, b, c, [zrp, zrp, zrp, zrp]⟩
theorem built_gsp (a b c : Int) : Tryz.prog.built 82 [(0, .int .i64 a), (3, .int .i64 b), (4, .int .i64 c)] = some (sv (gsp a b c)).toArray := by kernel_rfl
theorem built_zsp : Tryz.prog.built 82 [] = some (sv (gsp 0 0 0)).toArray := by kernel_rfl
theorem NF.apart {W : World} {b g : Nat} {p : Option Addr} {t : TypeId} {cs : List Value} (h : NF W b p) (hb : Blk W g t cs) (ht : 158 ≠ t) : ∀ a : Addr, p = some a → ¬ a.block = g := fun a ha e => by
  obtain ⟨ds, hd⟩ := h.ty a ha
  exact hd.apart hb ht e
theorem SR.reader {B : Nat} {W : World} {gs g : Nat} {s : Src} (h : SR B W gs g s) : ∃ cs, Blk W g 73 cs := by
  obtain ⟨A, c, hb, _⟩ := h.rd.is
  exact ⟨_, hb⟩
structure S2 (B : Nat) (w0 W : World) (gb gs g : Nat) (s : Src) : Prop where
  sr : SR B W gs g s
  cb : CB W gb gs g
  res : Blk W w0.heap.size 82 (sv (gsp 0 0 0))
  lg : w0.heap.size < g
  ls : w0.heap.size < gs
  lb : w0.heap.size < gb
  bel : Below w0.heap.size w0 W
structure SG (B : Nat) (w0 W : World) (gb gs g gx : Nat) (s : Src) (x : Spv) : Prop where
  s2 : S2 B w0 W gb gs g s
  bx : Blk W gx 82 (sv x)
  nr : w0.heap.size < gx
  bg : B ≤ gx
  nb : gb ≠ gx
  its : W.ownsRow w0.heap.size 108 3 (.slice x.ip x.its.length x.ic) x.its.length (x.its.flatMap iv)
  it : ∀ y ∈ x.its, TR W y.p y.i.t ∧ NF W w0.heap.size y.p
  wts : W.ownsRow w0.heap.size 113 4 (.slice x.wp x.wts.length x.wc) x.wts.length (x.wts.flatMap wv)
  wt : ∀ y ∈ x.wts, TR W y.p y.x.p ∧ NF W w0.heap.size y.p
  l4 : x.last.length = 4
  la : ∀ y ∈ x.last, TR W y.p y.r.t ∧ NF W w0.heap.size y.p
theorem below_two {w W W' : World} {g h : Nat} (b : Below w.heap.size w W) (hg : w.heap.size ≤ g) (hh : w.heap.size ≤ h) (k : Kept (fun k => k = g ∨ k = h) W W') : Below w.heap.size w W' :=
  b.trans ((k.mono fun i e => by rcases e with e | e <;> omega).to_below b.size)
structure YS (B : Nat) (W : World) (x : Spv) : Prop where
  its : W.ownsRow B 108 3 (.slice x.ip x.its.length x.ic) x.its.length (x.its.flatMap iv)
  it : ∀ y ∈ x.its, TR W y.p y.i.t ∧ NF W B y.p
  wts : W.ownsRow B 113 4 (.slice x.wp x.wts.length x.wc) x.wts.length (x.wts.flatMap wv)
  wt : ∀ y ∈ x.wts, TR W y.p y.x.p ∧ NF W B y.p
  l4 : x.last.length = 4
  la : ∀ y ∈ x.last, TR W y.p y.r.t ∧ NF W B y.p
  n : x.its.length ≤ 1000000
  m : x.wts.length ≤ 1000000
theorem YS.w {B : Nat} {W : World} {x : Spv} (h : YS B W x) : SpW W x := by
  have hn := h.n; have hm := h.m
  exact ⟨RowL.of_own iv_len rfl h.its, fun y hy => (h.it y hy).1, RowL.of_own wv_len rfl h.wts, fun y hy => (h.wt y hy).1, h.l4, fun y hy => (h.la y hy).1, by omega, by omega⟩
theorem YS.below {B : Nat} {W W' : World} {x : Spv} (h : YS B W x) (hb : Below W.heap.size W W') : YS B W' x :=
  ⟨own_below h.its hb, fun y hy => ⟨(h.it y hy).1.below hb, (h.it y hy).2.below hb⟩, own_below h.wts hb, fun y hy => ⟨(h.wt y hy).1.below hb, (h.wt y hy).2.below hb⟩, h.l4, fun y hy => ⟨(h.la y hy).1.below hb, (h.la y hy).2.below hb⟩, h.n, h.m⟩
theorem YS.kept {B g : Nat} {W W' : World} {x : Spv} {cs : List Value} (h : YS B W x) (hk : Kept (fun k => k = g) W W') (hg : Blk W g 82 cs) : YS B W' x := by
  have nf : ∀ {p : Option Addr}, NF W B p → ∀ a : Addr, p = some a → ¬ a.block = g := fun n a ha e => n.apart hg (by decide) a ha e
  exact ⟨own_kept h.its hk (fun k hk' e => own_apart h.its hg (by decide) (by rw [hk', e])), fun y hy => ⟨(h.it y hy).1.keptS hk (nf (h.it y hy).2), (h.it y hy).2.kept hk (nf (h.it y hy).2)⟩, own_kept h.wts hk (fun k hk' e => own_apart h.wts hg (by decide) (by rw [hk', e])), fun y hy => ⟨(h.wt y hy).1.keptS hk (nf (h.wt y hy).2), (h.wt y hy).2.kept hk (nf (h.wt y hy).2)⟩, h.l4, fun y hy => ⟨(h.la y hy).1.keptS hk (nf (h.la y hy).2), (h.la y hy).2.kept hk (nf (h.la y hy).2)⟩, h.n, h.m⟩
theorem YS.low {B B' : Nat} {W : World} {x : Spv} (h : YS B W x) (hb : B' ≤ B) : YS B' W x :=
  ⟨own_base h.its fun k hk => Nat.le_trans hb (h.its.lt k hk).1, fun y hy => ⟨(h.it y hy).1, (h.it y hy).2.low hb⟩, own_base h.wts fun k hk => Nat.le_trans hb (h.wts.lt k hk).1, fun y hy => ⟨(h.wt y hy).1, (h.wt y hy).2.low hb⟩, h.l4, fun y hy => ⟨(h.la y hy).1, (h.la y hy).2.low hb⟩, h.n, h.m⟩
section
variable {B : Nat} {w0 W W' : World} {gb gs g gx : Nat} {s s' : Src} {x x' : Spv}
theorem S2.step (h : S2 B w0 W gb gs g s) (hs : SR B W' gs g s') (hk : Kept (fun k => k = g ∨ k = gs) W W') : S2 B w0 W' gb gs g s' :=
  ⟨hs, h.cb.kept hk, h.res.kept hk (fun e => by have := h.lg; have := h.ls; omega), h.lg, h.ls, h.lb, below_two h.bel (Nat.le_of_lt h.lg) (Nat.le_of_lt h.ls) hk⟩
theorem S2.below (h : S2 B w0 W gb gs g s) (hb : Below W.heap.size W W') : S2 B w0 W' gb gs g s :=
  ⟨h.sr.below hb, h.cb.below hb, h.res.below hb h.res.lt, h.lg, h.ls, h.lb, h.bel.trans (hb.mono h.bel.size)⟩
theorem S2.alloc (h : S2 B w0 W gb gs g s) : SG B w0 (W.alloc (.cells (sv (gsp 0 0 0)).toArray 82)) gb gs g W.heap.size s (gsp 0 0 0) := by
  have bz : Below W.heap.size W (W.alloc (.cells (sv (gsp 0 0 0)).toArray 82)) := (Below.refl _ _).alloc (Nat.le_refl _) _
  have h1 := h.res.lt; have h2 := h.sr.bx.lt; have h3 := h.sr.lb; have h4 := h.cb.lt
  refine ⟨h.below bz, Blk.new W _ _, h1, by omega, by omega, World.ownsRow_nil _ _ _ _, (fun y hy => by cases hy), World.ownsRow_nil _ _ _ _, (fun y hy => by cases hy), rfl, fun y hy => ?_⟩
  simp only [gsp, List.mem_cons, List.not_mem_nil, or_false] at hy
  rcases hy with rfl | rfl | rfl | rfl <;> exact ⟨⟨fun j hj => absurd hj (Nat.not_lt_zero j), Nat.zero_le _⟩, NF.no _ _⟩
theorem SG.cb (h : SG B w0 W gb gs g gx s x) : CB W gb gs g := h.s2.cb
theorem SG.sr (h : SG B w0 W gb gs g gx s x) : SR B W gs g s := h.s2.sr
theorem SG.step (h : SG B w0 W gb gs g gx s x) (hs : SR B W' gs g s') (hk : Kept (fun k => k = g ∨ k = gs) W W') : SG B w0 W' gb gs g gx s' x := by
  obtain ⟨cs, hg⟩ := h.sr.reader
  have hsb := h.sr.bx
  have nf : ∀ {p : Option Addr}, NF W w0.heap.size p → ∀ a : Addr, p = some a → ¬ (a.block = g ∨ a.block = gs) := fun n a ha e => e.elim (n.apart hg (by decide) a ha) (n.apart hsb (by decide) a ha)
  refine ⟨h.s2.step hs hk, h.bx.kept hk (fun e => e.elim (h.bx.apart hg (by decide)) (h.bx.apart hsb (by decide))), h.nr, h.bg, h.nb, own_kept h.its hk (fun k hk' e => ?_), fun y hy => ⟨(h.it y hy).1.keptS hk (nf (h.it y hy).2), (h.it y hy).2.kept hk (nf (h.it y hy).2)⟩, own_kept h.wts hk (fun k hk' e => ?_), fun y hy => ⟨(h.wt y hy).1.keptS hk (nf (h.wt y hy).2), (h.wt y hy).2.kept hk (nf (h.wt y hy).2)⟩, h.l4, fun y hy => ⟨(h.la y hy).1.keptS hk (nf (h.la y hy).2), (h.la y hy).2.kept hk (nf (h.la y hy).2)⟩⟩
  · rcases e with e | e
    · exact own_apart h.its hg (by decide) (by rw [hk', e])
    · exact own_apart h.its hsb (by decide) (by rw [hk', e])
  · rcases e with e | e
    · exact own_apart h.wts hg (by decide) (by rw [hk', e])
    · exact own_apart h.wts hsb (by decide) (by rw [hk', e])
theorem SG.below (h : SG B w0 W gb gs g gx s x) (hb : Below W.heap.size W W') : SG B w0 W' gb gs g gx s x :=
  ⟨h.s2.below hb, h.bx.below hb h.bx.lt, h.nr, h.bg, h.nb, own_below h.its hb, fun y hy => ⟨(h.it y hy).1.below hb, (h.it y hy).2.below hb⟩, own_below h.wts hb, fun y hy => ⟨(h.wt y hy).1.below hb, (h.wt y hy).2.below hb⟩, h.l4, fun y hy => ⟨(h.la y hy).1.below hb, (h.la y hy).2.below hb⟩⟩
theorem SG.put (h : SG B w0 W gb gs g gx s x) (hk : Kept (fun k => k = gx) W W') (hb : Blk W' gx 82 (sv x'))
    (i1 : W.ownsRow w0.heap.size 108 3 (.slice x'.ip x'.its.length x'.ic) x'.its.length (x'.its.flatMap iv)) (i2 : ∀ y ∈ x'.its, TR W y.p y.i.t ∧ NF W w0.heap.size y.p)
    (u1 : W.ownsRow w0.heap.size 113 4 (.slice x'.wp x'.wts.length x'.wc) x'.wts.length (x'.wts.flatMap wv)) (u2 : ∀ y ∈ x'.wts, TR W y.p y.x.p ∧ NF W w0.heap.size y.p)
    (l4 : x'.last.length = 4) (la : ∀ y ∈ x'.last, TR W y.p y.r.t ∧ NF W w0.heap.size y.p) : SG B w0 W' gb gs g gx s x' := by
  obtain ⟨cs, hg⟩ := h.sr.reader
  have hsb := h.sr.bx
  have nf : ∀ {p : Option Addr}, NF W w0.heap.size p → ∀ a : Addr, p = some a → ¬ a.block = gx := fun n a ha e => n.apart h.bx (by decide) a ha e
  have c := h.s2.cb; have nr := h.nr
  refine ⟨⟨⟨hsb.kept hk (fun e => h.bx.apart hsb (by decide) e.symm), h.sr.rd.stays hk (fun e => h.bx.apart hg (by decide) e.symm) (fun i hi e => by have := h.bg; omega), h.sr.ne, h.sr.by_, h.sr.lb⟩, ⟨(hk.cell (p := ⟨gb, 0, none⟩) c.lt h.nb).trans c.c, Nat.lt_of_lt_of_le c.lt hk.size, c.ns, c.ng⟩, h.s2.res.kept hk (by omega), h.s2.lg, h.s2.ls, h.s2.lb, h.s2.bel.trans ((hk.mono fun i e => by omega).to_below h.s2.bel.size)⟩, hb, h.nr, h.bg, h.nb,
    own_kept i1 hk (fun k hk' e => own_apart i1 h.bx (by decide) (by rw [hk', e])), fun y hy => ⟨(i2 y hy).1.keptS hk (nf (i2 y hy).2), (i2 y hy).2.kept hk (nf (i2 y hy).2)⟩, own_kept u1 hk (fun k hk' e => own_apart u1 h.bx (by decide) (by rw [hk', e])), fun y hy => ⟨(u2 y hy).1.keptS hk (nf (u2 y hy).2), (u2 y hy).2.kept hk (nf (u2 y hy).2)⟩, l4, fun y hy => ⟨(la y hy).1.keptS hk (nf (la y hy).2), (la y hy).2.kept hk (nf (la y hy).2)⟩⟩
theorem SG.outY (h : SG B w0 W gb gs g gx s x) (hk : Kept (fun k => k = w0.heap.size) W W') (hi : x.its.length ≤ 1000000) (hw : x.wts.length ≤ 1000000) : YS w0.heap.size W' x :=
  YS.kept (W := W) ⟨h.its, h.it, h.wts, h.wt, h.l4, h.la, hi, hw⟩ hk h.s2.res
theorem SG.w (h : SG B w0 W gb gs g gx s x) (hi : x.its.length ≤ 1000000) (hw : x.wts.length ≤ 1000000) : SpW W x :=
  ⟨RowL.of_own iv_len rfl h.its, fun y hy => (h.it y hy).1, RowL.of_own wv_len rfl h.wts, fun y hy => (h.wt y hy).1, h.l4, fun y hy => (h.la y hy).1, by omega, by omega⟩
end
theorem take_set_snoc {α : Type} {l : List α} {j : Nat} {y : α} (h : j < l.length) : (l.set j y).take (j + 1) = l.take j ++ [y] := by
  rw [List.take_add_one, List.getElem?_set_self h, List.take_set_of_le (Nat.le_refl _)]
  rfl
theorem gLas_lenx (s : Src) : ∀ j, (gLas s j).2.xs.length ≤ s.xs.length
  | 0 => Nat.le_refl _
  | j + 1 => Nat.le_trans (gLa_len (j : Int) (gLas s j).2) (gLas_lenx s j)
structure Stp (xs : List Nat) (v1 v2 v3 v4 v6 : Nat) (l5 : List It) (l7 : List Wt) (l8 : List Rp) (s1 s2 s3 s4 s5 s6 s7 s8 : Src) : Prop where
  e1 : gNum (sSrc xs) 8 = (v1, s1)
  e2 : gNum s1 1 = (v2, s2)
  e3 : gNum s2 1 = (v3, s3)
  e4 : gNum s3 1 = (v4, s4)
  e5 : gRow gIt s4 v4 = (l5, s5)
  e6 : gNum s5 1 = (v6, s6)
  e7 : gRow gWt s6 v6 = (l7, s7)
  e8 : gLas s7 4 = (l8, s8)
  b2 : v2 < 256
  b3 : v3 < 256
  n3 : s3.xs.length ≤ xs.length
  n5 : s5.xs.length ≤ xs.length
  n7 : s7.xs.length ≤ xs.length
  by7 : Bytes s7.xs
  got : gotS xs = ⟨i64N v1, l5, l7, v2, v3, l8⟩
  ok : okS xs = (decide (endS s8 = 0) && spMay (gotS xs))
  c5 : l5.length < 256
  c7 : l7.length < 256
theorem stp_of (xs : List Nat) (hb : Bytes xs) : ∃ v1 v2 v3 v4 v6 l5 l7 l8 s1 s2 s3 s4 s5 s6 s7 s8, Stp xs v1 v2 v3 v4 v6 l5 l7 l8 s1 s2 s3 s4 s5 s6 s7 s8 := by
  obtain ⟨⟨v1, u1⟩, E1⟩ : ∃ r, gNum (sSrc xs) 8 = r := ⟨_, rfl⟩
  obtain ⟨⟨v2, u2⟩, E2⟩ : ∃ r, gNum u1 1 = r := ⟨_, rfl⟩
  obtain ⟨⟨v3, u3⟩, E3⟩ : ∃ r, gNum u2 1 = r := ⟨_, rfl⟩
  obtain ⟨⟨v4, u4⟩, E4⟩ : ∃ r, gNum u3 1 = r := ⟨_, rfl⟩
  obtain ⟨⟨l5, u5⟩, E5⟩ : ∃ r, gRow gIt u4 v4 = r := ⟨_, rfl⟩
  obtain ⟨⟨v6, u6⟩, E6⟩ : ∃ r, gNum u5 1 = r := ⟨_, rfl⟩
  obtain ⟨⟨l7, u7⟩, E7⟩ : ∃ r, gRow gWt u6 v6 = r := ⟨_, rfl⟩
  obtain ⟨⟨l8, u8⟩, E8⟩ : ∃ r, gLas u7 4 = r := ⟨_, rfl⟩
  have F1 : tS1 xs = (v1, u1) := E1
  have F2 : tS2 xs = (v2, u2) := by unfold tS2; rw [F1]; exact E2
  have F3 : tS3 xs = (v3, u3) := by unfold tS3; rw [F2]; exact E3
  have F4 : tS4 xs = (v4, u4) := by unfold tS4; rw [F3]; exact E4
  have F5 : tS5 xs = (l5, u5) := by unfold tS5; rw [F4]; exact E5
  have F6 : tS6 xs = (v6, u6) := by unfold tS6; rw [F5]; exact E6
  have F7 : tS7 xs = (l7, u7) := by unfold tS7; rw [F6]; exact E7
  have F8 : tS8 xs = (l8, u8) := by unfold tS8; rw [F7]; exact E8
  have b1 : Bytes u1.xs := by have := gNum_bytes (s := sSrc xs) 8 hb; rwa [E1] at this
  have b2 : Bytes u2.xs := by have := gNum_bytes 1 b1; rwa [E2] at this
  have b3 : Bytes u3.xs := by have := gNum_bytes 1 b2; rwa [E3] at this
  have b4 : Bytes u4.xs := by have := gNum_bytes 1 b3; rwa [E4] at this
  have b5 : Bytes u5.xs := by have := gRow_bytes (g := gIt) (fun _ h => gIt_bytes h) b4 v4; rwa [E5] at this
  have b6 : Bytes u6.xs := by have := gNum_bytes 1 b5; rwa [E6] at this
  have b7 : Bytes u7.xs := by have := gRow_bytes (g := gWt) (fun _ h => gWt_bytes h) b6 v6; rwa [E7] at this
  have n1 : u1.xs.length ≤ xs.length := by have := gNum_len (sSrc xs) 8; rwa [E1] at this
  have n2 : u2.xs.length ≤ u1.xs.length := by have := gNum_len u1 1; rwa [E2] at this
  have n3 : u3.xs.length ≤ u2.xs.length := by have := gNum_len u2 1; rwa [E3] at this
  have n4 : u4.xs.length ≤ u3.xs.length := by have := gNum_len u3 1; rwa [E4] at this
  have n5 : u5.xs.length ≤ u4.xs.length := by have := gRow_lenx gIt_len u4 v4; rwa [E5] at this
  have n6 : u6.xs.length ≤ u5.xs.length := by have := gNum_len u5 1; rwa [E6] at this
  have n7 : u7.xs.length ≤ u6.xs.length := by have := gRow_lenx gWt_len u6 v6; rwa [E7] at this
  have k2 : v2 < 256 := by have := gNum_lt (n := 1) b1; rwa [E2] at this
  have k3 : v3 < 256 := by have := gNum_lt (n := 1) b2; rwa [E3] at this
  have k4 : v4 < 256 := by have := gNum_lt (n := 1) b3; rwa [E4] at this
  have k6 : v6 < 256 := by have := gNum_lt (n := 1) b5; rwa [E6] at this
  have c5 : l5.length = v4 := by have := gRow_len gIt u4 v4; rwa [E5] at this
  have c7 : l7.length = v6 := by have := gRow_len gWt u6 v6; rwa [E7] at this
  exact ⟨v1, v2, v3, v4, v6, l5, l7, l8, u1, u2, u3, u4, u5, u6, u7, u8, E1, E2, E3, E4, E5, E6, E7, E8, k2, k3, by omega, by omega, by omega, b7, by unfold gotS; rw [F1, F2, F3, F5, F7, F8], by unfold okS; rw [F8], by omega, by omega⟩
set_option maxRecDepth 100000 in
set_option maxHeartbeats 2000000 in
theorem SGetY_t (xs : List Nat) (p : Option Addr) (m c : Nat) (w : World) (hx : xs.length = m) (hp : Sr w p xs) (hb : Bytes xs) (hl : m ≤ 1000000) :
    Calls Tryz.prog 55 #[.slice p m c] w fun e W' => Below w.heap.size w W' ∧ ((okS xs = false ∧ e = .returned (.tuple #[.agg (sv (gsp 0 0 0)).toArray, .int .i64 2])) ∨ (okS xs = true ∧ ∃ y : Spv, y.sp = gotS xs ∧ e = .returned (.tuple #[.agg (sv y).toArray, .int .i64 0]) ∧ SpW W' y ∧ YS w.heap.size W' y)) := by
  obtain ⟨v1, v2, v3, v4, v6, l5, l7, l8, s1, s2, s3, s4, s5, s6, s7, s8, st⟩ := stp_of xs hb
  have ST := Lib.hid st
  have hxl : xs.length ≤ 1000000 := by omega
  have HXL := Lib.hid hxl
  have B0 := Lib.hid ((Below.refl w.heap.size w).alloc (Nat.le_refl _) (.cells (sv (gsp 0 0 0)).toArray 82))
  have R0 := Lib.hid (Blk.new w 82 (sv (gsp 0 0 0)))
  have NW := Lib.hid (rnew_t xs p m c _ hx (hp.below B0.out) (by omega))
  have HB := Lib.hid hb
  have i2 : i64N v2 = (v2 : Int) := i64N_small (by have := st.b2; omega)
  have i3 : i64N v3 = (v3 : Int) := i64N_small (by have := st.b3; omega)
  have I2 := Lib.hid i2; have I3 := Lib.hid i3
  obtain ⟨nw, hnw⟩ : ∃ z, i64N v1 = z := ⟨_, rfl⟩
  have I1 := Lib.hid hnw
  obtain ⟨ok, hok⟩ : ∃ z, okS xs = z := ⟨_, rfl⟩
  obtain ⟨sp0, hsp⟩ : ∃ z, gotS xs = z := ⟨_, rfl⟩
  have OKD := Lib.hid (show ok = (decide (endS s8 = 0) && spMay sp0) from by rw [← hok, ← hsp]; exact st.ok)
  have GOT := Lib.hid (show sp0 = ⟨nw, l5, l7, v2, v3, l8⟩ from by rw [← hsp, ← hnw]; exact st.got)
  rw [hok, hsp]
  have FG := Lib.hid (sv_size (gsp nw v2 v3) rfl); have FGO := Lib.hid (sv_one (gsp nw v2 v3))
  have BG := built_gsp nw v2 v3
  clear hx hp hb hl st i2 i3 hnw hok hsp
  go_enter Tryz.func55, Tryz.ntmps55
  go_wp2_with fail
  refine NW.out.mono ?_
  rintro e w1 ⟨g, rfl, hg, x1, b1⟩
  have hg1 : w.heap.size < g := by have := hg; simp at this; omega
  obtain ⟨V, hV⟩ : ∃ V, (w1.alloc (.cells #[.pointer (some ⟨g, 0, none⟩), .bool false] 105)).alloc (.cells #[.pointer (some ⟨w1.heap.size, 0, none⟩)] 103) = V := ⟨_, rfl⟩
  have P2 := Lib.hid (show S2 w1.heap.size w V (w1.heap.size + 1) w1.heap.size g (sSrc xs) from by
    have bz : Below w1.heap.size w1 V := by rw [← hV]; exact ((Below.refl _ _).alloc (Nat.le_refl _) _).alloc (by simp) _
    have lg := x1.lt
    have bw : Below w.heap.size w w1 := B0.out.trans (b1.mono B0.out.size)
    have hs := bw.size
    refine ⟨⟨by rw [← hV]; exact (Blk.new w1 105 [.pointer (some ⟨g, 0, none⟩), .bool false]).alloc _, (x1.there.mono fun k e => e.1).below bz, by omega, HB.out, Nat.le_refl _⟩, ⟨?_, by rw [← hV]; simp, by omega, by omega⟩, (R0.out.below b1 R0.out.lt).below bz (R0.out.below b1 R0.out.lt).lt, hg1, by have := (R0.out.below b1 R0.out.lt).lt; omega, by omega, bw.trans (bz.mono hs)⟩
    rw [← hV]
    exact (Blk.new2 w1 (.cells #[.pointer (some ⟨g, 0, none⟩), .bool false] 105) 103 [.pointer (some ⟨w1.heap.size, 0, none⟩)]).cell 0)
  go_upto_region 2 with (fail)
  clear hV b1 x1 hg NW R0 B0
  obtain ⟨gb, hgb⟩ : ∃ g, w1.heap.size + 1 = g := ⟨_, rfl⟩
  rw [hgb] at P2 ⊢
  obtain ⟨gs, hgs⟩ : ∃ g, w1.heap.size = g := ⟨_, rfl⟩
  rw [hgs] at P2 ⊢
  obtain ⟨B, hB⟩ : ∃ b, gs = b := ⟨_, rfl⟩
  have P2 := Lib.hid (show S2 B w V gb gs g (sSrc xs) from by rw [← hB]; exact P2.out)
  clear hgb hgs hB hg1
  go_cut [5] (fun s5_ wx => ∃ gx, s5_ = .pointer (some ⟨gx, 0, none⟩) ∧ SG B w wx gb gs g gx s3 (gsp nw v2 v3))
  case first =>
    obtain ⟨U, hU⟩ : ∃ U, V.drew = U := ⟨_, rfl⟩
    have Q0 := Lib.hid (show S2 B w U gb gs g (sSrc xs) from P2.out.below (by rw [← hU]; exact (Below.refl _ _).drew))
    refine wp_region_held (S := fun Y => Y.cell? ⟨gb, 0, none⟩ = some (.pointer (some ⟨gs, 0, none⟩))) (by kernel_rfl) ?_
    change wpAnyH _ _ _ _ _ _ _ _ V.drew
    rw [hU]
    clear hU
    refine wpAnyH_take (i := 0) (v := ?_) rfl (by kernel_rfl) (by kernel_rfl) (by kernel_rfl) (fun _ _ _ h => h) (Or.inl ⟨by kernel_rfl, ?_⟩) Q0.out.cb.c ?_
    rotate_left 1
    · (intro w hS; have hs := hS; clear hS; go_simp; try (with_reducible rfl))
    refine wpAnyH_take (i := 2) (v := ?_) rfl (by kernel_rfl) (by kernel_rfl) (by kernel_rfl) (fun _ _ _ h => h) (Or.inl ⟨by kernel_rfl, ?_⟩) Q0.out.cb.c ?_
    rotate_left 1
    · (intro w hS; have hs := hS; clear hS; go_simp; try (with_reducible rfl))
    refine wpAnyH_take (i := 4) (v := ?_) rfl (by kernel_rfl) (by kernel_rfl) (by kernel_rfl) (fun _ _ _ h => h) (Or.inl ⟨by kernel_rfl, ?_⟩) Q0.out.cb.c ?_
    rotate_left 1
    · (intro w hS; have hs := hS; clear hS; go_simp; try (with_reducible rfl))
    refine wpAnyH_ready (rs := [1, 7]) (by kernel_rfl) (by simp) ?_
    refine AllReadyH.cons rfl (fun K hK => ?_) ?_
    · skip
      go_simp
      refine (snum_t B gs g 8 (sSrc xs) _ Q0.out.sr (by decide) (by decide)).mono ?_
      rw [ST.out.e1]
      rintro e wa ⟨rfl, x2, k2⟩
      have Qa := Lib.hid (Q0.out.step x2 (k2.mono fun k e => .inl e))
      refine hK.out _ _ Qa.out.cb.c (fun _ => ?_)
      clear hK K x2 k2
      rw [I1.out]
      refine wpAnyH_ready (rs := [3, 7]) (by kernel_rfl) (by simp) ?_
      refine AllReadyH.cons rfl (fun K hK => ?_) ?_
      · skip
        go_simp
        refine (snum_t B gs g 1 s1 _ Qa.out.sr (by decide) (by decide)).mono ?_
        rw [ST.out.e2]
        rintro e wb ⟨rfl, x2, k2⟩
        have Qb := Lib.hid (Qa.out.step x2 (k2.mono fun k e => .inl e))
        refine hK.out _ _ Qb.out.cb.c (fun _ => ?_)
        clear hK K x2 k2
        rw [I2.out]
        refine wpAnyH_ready (rs := [5, 7]) (by kernel_rfl) (by simp) ?_
        refine AllReadyH.cons rfl (fun K hK => ?_) ?_
        · skip
          go_simp
          refine (snum_t B gs g 1 s2 _ Qb.out.sr (by decide) (by decide)).mono ?_
          rw [ST.out.e3]
          rintro e wc_ ⟨rfl, x2, k2⟩
          have Qc := Lib.hid (Qb.out.step x2 (k2.mono fun k e => .inl e))
          refine hK.out _ _ Qc.out.cb.c (fun _ => ?_)
          clear hK K x2 k2
          rw [I3.out]
          refine wpAnyH_take (i := 6) (v := ?_) rfl (by kernel_rfl) (by kernel_rfl) (by kernel_rfl) (fun _ _ _ h => h) (Or.inl ⟨by kernel_rfl, ?_⟩) Qc.out.cb.c ?_
          rotate_left 1
          · (intro w hS; clear hS; go_simp; try (with_reducible rfl))
          refine wpAnyH_ready (rs := [7]) (by kernel_rfl) (by simp) ?_
          refine AllReadyH.cons rfl (fun K hK => ?_) AllReadyH.nil
          rw [if_pos (by kernel_rfl)]
          go_simp
          have Z0 := Lib.hid (Qc.out.alloc)
          refine hK.out _ _ Z0.out.cb.c (fun _ => ?_)
          clear hK K
          obtain ⟨gx, hgx⟩ : ∃ g, (wc_).heap.size = g := ⟨_, rfl⟩
          have Z1 := Lib.hid (show SG B w ((wc_).alloc (.cells (sv (gsp 0 0 0)).toArray 82)) gb gs g gx s3 (gsp 0 0 0) from by rw [← hgx]; exact Z0.out)
          change wpAnyH _ _ _ _ _ _ _ _ ((wc_).alloc (.cells (sv (gsp 0 0 0)).toArray 82))
          rw [hgx]
          clear hgx Z0
          obtain ⟨WA, hWA⟩ : ∃ V, (wc_).alloc (.cells (sv (gsp 0 0 0)).toArray 82) = V := ⟨_, rfl⟩
          rw [hWA] at Z1 ⊢
          clear hWA
          refine wpAnyH_ready (rs := [8]) (by kernel_rfl) (by simp) ?_
          refine AllReadyH.cons rfl (fun K hK => ?_) AllReadyH.nil
          rw [if_pos (by kernel_rfl)]
          refine wstore_part 82 (.tmp 5) (.tmp 17) gx 0 82 [] (sv (gsp 0 0 0)) [] (sv (gsp nw v2 v3)) rfl (by rw [List.nil_append, List.append_nil]; exact Z1.out.bx) rfl rfl FG.out FGO.out rfl rfl ?_
          intro wz a1 a2 a3
          have RZ := Lib.hid (show Blk wz gx 82 (sv (gsp nw v2 v3)) by have := a1.out; rwa [List.nil_append, List.append_nil] at this)
          have KZ := a2.out.keptOneS rfl
          have GZ := Lib.hid (Z1.out.put (x' := gsp nw v2 v3) KZ RZ.out Z1.out.its Z1.out.it Z1.out.wts Z1.out.wt rfl Z1.out.la)
          refine hK.out _ _ GZ.out.cb.c (fun _ => ?_)
          clear hK K a1 a2 a3
          refine wpAnyH_done (by kernel_rfl) ?_ _
          go_simp
          go_wp2_with fail
          go_meet
          exact ⟨gx, rfl, GZ.out⟩
        · refine AllReadyH.cons rfl (fun K hK => ?_) AllReadyH.nil
          go_simp
          have Z0 := Lib.hid (Qb.out.alloc)
          refine hK.out _ _ Z0.out.cb.c (fun _ => ?_)
          clear hK K
          obtain ⟨gx, hgx⟩ : ∃ g, (wb).heap.size = g := ⟨_, rfl⟩
          have Z1 := Lib.hid (show SG B w ((wb).alloc (.cells (sv (gsp 0 0 0)).toArray 82)) gb gs g gx s2 (gsp 0 0 0) from by rw [← hgx]; exact Z0.out)
          change wpAnyH _ _ _ _ _ _ _ _ ((wb).alloc (.cells (sv (gsp 0 0 0)).toArray 82))
          rw [hgx]
          clear hgx Z0
          obtain ⟨WA, hWA⟩ : ∃ V, (wb).alloc (.cells (sv (gsp 0 0 0)).toArray 82) = V := ⟨_, rfl⟩
          rw [hWA] at Z1 ⊢
          clear hWA
          refine wpAnyH_ready (rs := [5]) (by kernel_rfl) (by simp) ?_
          refine AllReadyH.cons rfl (fun K hK => ?_) AllReadyH.nil
          rw [if_pos (by kernel_rfl)]
          go_simp
          refine (snum_t B gs g 1 s2 _ Z1.out.sr (by decide) (by decide)).mono ?_
          rw [ST.out.e3]
          rintro e wc_ ⟨rfl, x2, k2⟩
          have Z2 := Lib.hid (Z1.out.step x2 (k2.mono fun k e => .inl e))
          refine hK.out _ _ Z2.out.cb.c (fun _ => ?_)
          clear hK K x2 k2
          rw [I3.out]
          refine wpAnyH_take (i := 6) (v := ?_) rfl (by kernel_rfl) (by kernel_rfl) (by kernel_rfl) (fun _ _ _ h => h) (Or.inl ⟨by kernel_rfl, ?_⟩) Z2.out.cb.c ?_
          rotate_left 1
          · (intro w hS; clear hS; go_simp; try (with_reducible rfl))
          refine wpAnyH_ready (rs := [8]) (by kernel_rfl) (by simp) ?_
          refine AllReadyH.cons rfl (fun K hK => ?_) AllReadyH.nil
          rw [if_pos (by kernel_rfl)]
          refine wstore_part 82 (.tmp 5) (.tmp 17) gx 0 82 [] (sv (gsp 0 0 0)) [] (sv (gsp nw v2 v3)) rfl (by rw [List.nil_append, List.append_nil]; exact Z2.out.bx) rfl rfl FG.out FGO.out rfl rfl ?_
          intro wz a1 a2 a3
          have RZ := Lib.hid (show Blk wz gx 82 (sv (gsp nw v2 v3)) by have := a1.out; rwa [List.nil_append, List.append_nil] at this)
          have KZ := a2.out.keptOneS rfl
          have GZ := Lib.hid (Z2.out.put (x' := gsp nw v2 v3) KZ RZ.out Z2.out.its Z2.out.it Z2.out.wts Z2.out.wt rfl Z2.out.la)
          refine hK.out _ _ GZ.out.cb.c (fun _ => ?_)
          clear hK K a1 a2 a3
          refine wpAnyH_done (by kernel_rfl) ?_ _
          go_simp
          go_wp2_with fail
          go_meet
          exact ⟨gx, rfl, GZ.out⟩
      · refine AllReadyH.cons rfl (fun K hK => ?_) AllReadyH.nil
        go_simp
        have Z0 := Lib.hid (Qa.out.alloc)
        refine hK.out _ _ Z0.out.cb.c (fun _ => ?_)
        clear hK K
        obtain ⟨gx, hgx⟩ : ∃ g, (wa).heap.size = g := ⟨_, rfl⟩
        have Z1 := Lib.hid (show SG B w ((wa).alloc (.cells (sv (gsp 0 0 0)).toArray 82)) gb gs g gx s1 (gsp 0 0 0) from by rw [← hgx]; exact Z0.out)
        change wpAnyH _ _ _ _ _ _ _ _ ((wa).alloc (.cells (sv (gsp 0 0 0)).toArray 82))
        rw [hgx]
        clear hgx Z0
        obtain ⟨WA, hWA⟩ : ∃ V, (wa).alloc (.cells (sv (gsp 0 0 0)).toArray 82) = V := ⟨_, rfl⟩
        rw [hWA] at Z1 ⊢
        clear hWA
        refine wpAnyH_ready (rs := [3]) (by kernel_rfl) (by simp) ?_
        refine AllReadyH.cons rfl (fun K hK => ?_) AllReadyH.nil
        rw [if_pos (by kernel_rfl)]
        go_simp
        refine (snum_t B gs g 1 s1 _ Z1.out.sr (by decide) (by decide)).mono ?_
        rw [ST.out.e2]
        rintro e wb ⟨rfl, x2, k2⟩
        have Z2 := Lib.hid (Z1.out.step x2 (k2.mono fun k e => .inl e))
        refine hK.out _ _ Z2.out.cb.c (fun _ => ?_)
        clear hK K x2 k2
        rw [I2.out]
        refine wpAnyH_ready (rs := [5]) (by kernel_rfl) (by simp) ?_
        refine AllReadyH.cons rfl (fun K hK => ?_) AllReadyH.nil
        rw [if_pos (by kernel_rfl)]
        go_simp
        refine (snum_t B gs g 1 s2 _ Z2.out.sr (by decide) (by decide)).mono ?_
        rw [ST.out.e3]
        rintro e wc_ ⟨rfl, x2, k2⟩
        have Z3 := Lib.hid (Z2.out.step x2 (k2.mono fun k e => .inl e))
        refine hK.out _ _ Z3.out.cb.c (fun _ => ?_)
        clear hK K x2 k2
        rw [I3.out]
        refine wpAnyH_take (i := 6) (v := ?_) rfl (by kernel_rfl) (by kernel_rfl) (by kernel_rfl) (fun _ _ _ h => h) (Or.inl ⟨by kernel_rfl, ?_⟩) Z3.out.cb.c ?_
        rotate_left 1
        · (intro w hS; clear hS; go_simp; try (with_reducible rfl))
        refine wpAnyH_ready (rs := [8]) (by kernel_rfl) (by simp) ?_
        refine AllReadyH.cons rfl (fun K hK => ?_) AllReadyH.nil
        rw [if_pos (by kernel_rfl)]
        refine wstore_part 82 (.tmp 5) (.tmp 17) gx 0 82 [] (sv (gsp 0 0 0)) [] (sv (gsp nw v2 v3)) rfl (by rw [List.nil_append, List.append_nil]; exact Z3.out.bx) rfl rfl FG.out FGO.out rfl rfl ?_
        intro wz a1 a2 a3
        have RZ := Lib.hid (show Blk wz gx 82 (sv (gsp nw v2 v3)) by have := a1.out; rwa [List.nil_append, List.append_nil] at this)
        have KZ := a2.out.keptOneS rfl
        have GZ := Lib.hid (Z3.out.put (x' := gsp nw v2 v3) KZ RZ.out Z3.out.its Z3.out.it Z3.out.wts Z3.out.wt rfl Z3.out.la)
        refine hK.out _ _ GZ.out.cb.c (fun _ => ?_)
        clear hK K a1 a2 a3
        refine wpAnyH_done (by kernel_rfl) ?_ _
        go_simp
        go_wp2_with fail
        go_meet
        exact ⟨gx, rfl, GZ.out⟩
    · refine AllReadyH.cons rfl (fun K hK => ?_) AllReadyH.nil
      go_simp
      have Z0 := Lib.hid (Q0.out.alloc)
      refine hK.out _ _ Z0.out.cb.c (fun _ => ?_)
      clear hK K
      obtain ⟨gx, hgx⟩ : ∃ g, (U).heap.size = g := ⟨_, rfl⟩
      have Z1 := Lib.hid (show SG B w ((U).alloc (.cells (sv (gsp 0 0 0)).toArray 82)) gb gs g gx (sSrc xs) (gsp 0 0 0) from by rw [← hgx]; exact Z0.out)
      change wpAnyH _ _ _ _ _ _ _ _ ((U).alloc (.cells (sv (gsp 0 0 0)).toArray 82))
      rw [hgx]
      clear hgx Z0
      obtain ⟨WA, hWA⟩ : ∃ V, (U).alloc (.cells (sv (gsp 0 0 0)).toArray 82) = V := ⟨_, rfl⟩
      rw [hWA] at Z1 ⊢
      clear hWA
      refine wpAnyH_ready (rs := [1]) (by kernel_rfl) (by simp) ?_
      refine AllReadyH.cons rfl (fun K hK => ?_) AllReadyH.nil
      rw [if_pos (by kernel_rfl)]
      go_simp
      refine (snum_t B gs g 8 (sSrc xs) _ Z1.out.sr (by decide) (by decide)).mono ?_
      rw [ST.out.e1]
      rintro e wa ⟨rfl, x2, k2⟩
      have Z2 := Lib.hid (Z1.out.step x2 (k2.mono fun k e => .inl e))
      refine hK.out _ _ Z2.out.cb.c (fun _ => ?_)
      clear hK K x2 k2
      rw [I1.out]
      refine wpAnyH_ready (rs := [3]) (by kernel_rfl) (by simp) ?_
      refine AllReadyH.cons rfl (fun K hK => ?_) AllReadyH.nil
      rw [if_pos (by kernel_rfl)]
      go_simp
      refine (snum_t B gs g 1 s1 _ Z2.out.sr (by decide) (by decide)).mono ?_
      rw [ST.out.e2]
      rintro e wb ⟨rfl, x2, k2⟩
      have Z3 := Lib.hid (Z2.out.step x2 (k2.mono fun k e => .inl e))
      refine hK.out _ _ Z3.out.cb.c (fun _ => ?_)
      clear hK K x2 k2
      rw [I2.out]
      refine wpAnyH_ready (rs := [5]) (by kernel_rfl) (by simp) ?_
      refine AllReadyH.cons rfl (fun K hK => ?_) AllReadyH.nil
      rw [if_pos (by kernel_rfl)]
      go_simp
      refine (snum_t B gs g 1 s2 _ Z3.out.sr (by decide) (by decide)).mono ?_
      rw [ST.out.e3]
      rintro e wc_ ⟨rfl, x2, k2⟩
      have Z4 := Lib.hid (Z3.out.step x2 (k2.mono fun k e => .inl e))
      refine hK.out _ _ Z4.out.cb.c (fun _ => ?_)
      clear hK K x2 k2
      rw [I3.out]
      refine wpAnyH_take (i := 6) (v := ?_) rfl (by kernel_rfl) (by kernel_rfl) (by kernel_rfl) (fun _ _ _ h => h) (Or.inl ⟨by kernel_rfl, ?_⟩) Z4.out.cb.c ?_
      rotate_left 1
      · (intro w hS; clear hS; go_simp; try (with_reducible rfl))
      refine wpAnyH_ready (rs := [8]) (by kernel_rfl) (by simp) ?_
      refine AllReadyH.cons rfl (fun K hK => ?_) AllReadyH.nil
      rw [if_pos (by kernel_rfl)]
      refine wstore_part 82 (.tmp 5) (.tmp 17) gx 0 82 [] (sv (gsp 0 0 0)) [] (sv (gsp nw v2 v3)) rfl (by rw [List.nil_append, List.append_nil]; exact Z4.out.bx) rfl rfl FG.out FGO.out rfl rfl ?_
      intro wz a1 a2 a3
      have RZ := Lib.hid (show Blk wz gx 82 (sv (gsp nw v2 v3)) by have := a1.out; rwa [List.nil_append, List.append_nil] at this)
      have KZ := a2.out.keptOneS rfl
      have GZ := Lib.hid (Z4.out.put (x' := gsp nw v2 v3) KZ RZ.out Z4.out.its Z4.out.it Z4.out.wts Z4.out.wt rfl Z4.out.la)
      refine hK.out _ _ GZ.out.cb.c (fun _ => ?_)
      clear hK K a1 a2 a3
      refine wpAnyH_done (by kernel_rfl) ?_ _
      go_simp
      go_wp2_with fail
      go_meet
      exact ⟨gx, rfl, GZ.out⟩
  case rest =>
    obtain ⟨gx, rfl, pg⟩ := hcut
    have P3 := Lib.hid pg
    clear pg BG FG FGO P2
    go_upto_region 3 with (fail)
    have cb0 := P3.out.cb.c
    have RI := Lib.hid (rowsI_t B gb gs g s3 wc P3.out.sr P3.out.cb (by have := ST.out.n3; have := HXL.out; omega))
    rw [ST.out.e4] at RI
    dsimp only at RI
    rw [ST.out.e5] at RI
    go_wp2_with fail
    refine RI.out.mono ?_
    rintro e w4 ⟨li, Ai, ci, rfl, hli, oi, ti, ni, x4, k4⟩
    have P4 := Lib.hid (P3.out.step x4 k4)
    have LI := Lib.hid hli
    have hsz := P3.out.s2.bel.size
    have c1 : w4.cell? ⟨gx, 1, none⟩ = some (.slice none 0 0) := (sv_cells P4.out.bx).2.1
    have fz := P4.out.bx.frozen 1
    have P5 := Lib.hid (P4.out.put (x' := ⟨nw, li, Ai, ci, [], none, 0, v2, v3, [zrp, zrp, zrp, zrp]⟩) (W' := w4.setCell ⟨gx, 1, none⟩ (.slice Ai li.length ci)) ((Kept.refl (fun k => k = gx) w4).setCell (p := ⟨gx, 1, none⟩) (.inl rfl) _) (P4.out.bx.store 1 (.slice Ai li.length ci)) (own_base oi (fun k hk => Nat.le_trans hsz (oi.lt k hk).1)) (fun y hy => ⟨ti y hy, (ni y hy).low hsz⟩) P4.out.wts P4.out.wt rfl P4.out.la)
    clear hli oi ti ni x4 k4 RI P3 hsz cb0
    go_upto_region 4 with (fail)
    clear c1 fz
    obtain ⟨w5, hw5⟩ : ∃ V, w4.setCell ⟨gx, 1, none⟩ (.slice Ai li.length ci) = V := ⟨_, rfl⟩
    rw [hw5] at P5 ⊢
    clear hw5 P4
    have cb0 := P5.out.cb.c
    have RW_ := Lib.hid (rowsW_t B gb gs g s5 w5 P5.out.sr P5.out.cb (by have := ST.out.n5; have := HXL.out; omega))
    rw [ST.out.e6] at RW_
    dsimp only at RW_
    rw [ST.out.e7] at RW_
    go_wp2_with fail
    refine RW_.out.mono ?_
    rintro e w6 ⟨lw, Aw, cw, rfl, hlw, ow, tw, nww, x6, k6⟩
    have P6 := Lib.hid (P5.out.step x6 k6)
    have LW := Lib.hid hlw
    have hsz := P5.out.s2.bel.size
    have c1 : w6.cell? ⟨gx, 2, none⟩ = some (.slice none 0 0) := (sv_cells P6.out.bx).2.2.1
    have fz := P6.out.bx.frozen 2
    have P7 := Lib.hid (P6.out.put (x' := ⟨nw, li, Ai, ci, lw, Aw, cw, v2, v3, [zrp, zrp, zrp, zrp]⟩) (W' := w6.setCell ⟨gx, 2, none⟩ (.slice Aw lw.length cw)) ((Kept.refl (fun k => k = gx) w6).setCell (p := ⟨gx, 2, none⟩) (.inl rfl) _) (P6.out.bx.store 2 (.slice Aw lw.length cw)) P6.out.its P6.out.it (own_base ow (fun k hk => Nat.le_trans hsz (ow.lt k hk).1)) (fun y hy => ⟨tw y hy, (nww y hy).low hsz⟩) rfl P6.out.la)
    clear hlw ow tw nww x6 k6 RW_ P5 hsz cb0
    go_upto_region 5 with (fail)
    clear c1 fz
    obtain ⟨w7, hw7⟩ : ∃ V, w6.setCell ⟨gx, 2, none⟩ (.slice Aw lw.length cw) = V := ⟨_, rfl⟩
    rw [hw7] at P7 ⊢
    clear hw7 P6
    go_upto_region 6 with (fail)
    go_loopw [26] (fun t wr => ∃ (j : Nat) (las : List Rpv), j ≤ 4 ∧ t = .int .i64 (j : Int) ∧ las.length = 4 ∧ (las.take j).map (·.r) = (gLas s7 j).1 ∧ SG B w wr gb gs g gx (gLas s7 j).2 ⟨nw, li, Ai, ci, lw, Aw, cw, v2, v3, las⟩) (fun t _ => 4 - (intOf t).toNat)
    case atStart => exact ⟨0, [zrp, zrp, zrp, zrp], by omega, rfl, rfl, rfl, P7.out⟩
    case round =>
      clear P7
      obtain ⟨j, las, hj, rfl, hl4, hlr, sg⟩ := hrel
      have G1 := Lib.hid sg; have L4 := Lib.hid hl4; have LR := Lib.hid hlr
      clear sg hl4 hlr
      by_cases hlt : j < 4
      · have j1 : (j : Int) < 4 := by omega
        have j0 : (0 : Int) ≤ (j : Int) := by omega
        have HLT := Lib.hid hlt
        have HUL := Lib.hid (show (gLas s7 j).2.xs.length ≤ 1000000 from by have h1 := gLas_lenx s7 j; have h2 := ST.out.n7; have h3 := HXL.out; omega)
        have HNX := Lib.hid (show gLas s7 (j + 1) = ((gLas s7 j).1 ++ [(gLa (j : Int) (gLas s7 j).2).1], (gLa (j : Int) (gLas s7 j).2).2) from rfl)
        obtain ⟨u, hu⟩ : ∃ z, (gLas s7 j).2 = z := ⟨_, rfl⟩
        rw [hu] at G1 HUL HNX
        clear hu
        obtain ⟨⟨q1, u1⟩, E1⟩ : ∃ r, gNum u 4 = r := ⟨_, rfl⟩
        obtain ⟨⟨q2, u2⟩, E2⟩ : ∃ r, gNum u1 1 = r := ⟨_, rfl⟩
        obtain ⟨⟨fg, u3⟩, E3⟩ : ∃ r, gFlag u2 = r := ⟨_, rfl⟩
        obtain ⟨⟨t, u4⟩, E4⟩ : ∃ r, gFl u3 = r := ⟨_, rfl⟩
        have m1 : u1.xs.length ≤ u.xs.length := by have := gNum_len u 4; rwa [E1] at this
        have m2 : u2.xs.length ≤ u1.xs.length := by have := gNum_len u1 1; rwa [E2] at this
        have m3 : u3.xs.length ≤ u2.xs.length := by have := gFlag_len u2; rwa [E3] at this
        have hb1 : Bytes u1.xs := by have := gNum_bytes 4 G1.out.sr.by_; rwa [E1] at this
        have hq1 : q1 < 4294967296 := by have := gNum_lt (n := 4) G1.out.sr.by_; rwa [E1] at this
        have hq2 : q2 < 256 := by have := gNum_lt (n := 1) hb1; rwa [E2] at this
        have M3 := Lib.hid (show u3.xs.length ≤ 1000000 from by have := HUL.out; omega)
        have I1 := Lib.hid (show i64N q1 = (q1 : Int) from i64N_small (by omega)); have I2 := Lib.hid (show i64N q2 = (q2 : Int) from i64N_small (by omega))
        have EG := Lib.hid (show gLa (j : Int) u = (⟨(j : Int), (q1 : Int), (q2 : Int), t, fg⟩, u4) from by unfold gLa; simp only [E1, E2, E3, E4])
        have H1 := Lib.hid E1; have H2 := Lib.hid E2; have H3 := Lib.hid E3; have H4 := Lib.hid E4
        clear m1 m2 m3 hb1 hq1 hq2 E1 E2 E3 E4 hlt
        go_upto_region 8 with (fail)
        obtain ⟨U, hU⟩ : ∃ U, wr.drew = U := ⟨_, rfl⟩
        have G2 := Lib.hid (G1.out.below (show Below wr.heap.size wr U from by rw [← hU]; exact (Below.refl _ _).drew))
        refine wp_region_held (S := fun Y => Y.cell? ⟨gb, 0, none⟩ = some (.pointer (some ⟨gs, 0, none⟩))) (by kernel_rfl) ?_
        change wpAnyH _ _ _ _ _ _ _ _ wr.drew
        rw [hU]
        clear hU
        refine wpAnyH_take (i := 0) (v := ?_) rfl (by kernel_rfl) (by kernel_rfl) (by kernel_rfl) (fun _ _ _ h => h) (Or.inl ⟨by kernel_rfl, ?_⟩) G2.out.cb.c ?_
        rotate_left 1
        · (intro w hS; clear hS; go_simp; try (with_reducible rfl))
        refine wpAnyH_take (i := 1) (v := ?_) rfl (by kernel_rfl) (by kernel_rfl) (by kernel_rfl) (fun _ _ _ h => h) (Or.inl ⟨by kernel_rfl, ?_⟩) G2.out.cb.c ?_
        rotate_left 1
        · (intro w hS; clear hS; go_simp; try (with_reducible rfl))
        refine wpAnyH_take (i := 2) (v := ?_) rfl (by kernel_rfl) (by kernel_rfl) (by kernel_rfl) (fun _ _ _ h => h) (Or.inl ⟨by kernel_rfl, ?_⟩) G2.out.cb.c ?_
        rotate_left 1
        · (intro w hS; have hs := hS; clear hS; go_simp; try (with_reducible rfl))
        refine wpAnyH_take (i := 4) (v := ?_) rfl (by kernel_rfl) (by kernel_rfl) (by kernel_rfl) (fun _ _ _ h => h) (Or.inl ⟨by kernel_rfl, ?_⟩) G2.out.cb.c ?_
        rotate_left 1
        · (intro w hS; have hs := hS; clear hS; go_simp; try (with_reducible rfl))
        refine wpAnyH_take (i := 6) (v := ?_) rfl (by kernel_rfl) (by kernel_rfl) (by kernel_rfl) (fun _ _ _ h => h) (Or.inl ⟨by kernel_rfl, ?_⟩) G2.out.cb.c ?_
        rotate_left 1
        · (intro w hS; have hs := hS; clear hS; go_simp; try (with_reducible rfl))
        refine wpAnyH_take (i := 8) (v := ?_) rfl (by kernel_rfl) (by kernel_rfl) (by kernel_rfl) (fun _ _ _ h => h) (Or.inl ⟨by kernel_rfl, ?_⟩) G2.out.cb.c ?_
        rotate_left 1
        · (intro w hS; have hs := hS; clear hS; go_simp; try (with_reducible rfl))
        refine wpAnyH_take (i := 11) (v := ?_) rfl (by kernel_rfl) (by kernel_rfl) (by kernel_rfl) (fun _ _ _ h => h) (Or.inl ⟨by kernel_rfl, ?_⟩) G2.out.cb.c ?_
        rotate_left 1
        · (intro w hS; clear hS; go_simp; try (with_reducible rfl))
        refine wpAnyH_ready (rs := [3]) (by kernel_rfl) (by simp) ?_
        refine AllReadyH.cons rfl (fun K hK => ?_) AllReadyH.nil
        rw [if_pos (by kernel_rfl)]
        go_simp
        refine (snum_t B gs g 4 u _ G2.out.sr (by decide) (by decide)).mono ?_
        rw [H1.out]
        rintro e wa ⟨rfl, x2, k2⟩
        have G3 := Lib.hid (G2.out.step x2 (k2.mono fun k e => .inl e))
        refine hK.out _ _ G3.out.cb.c (fun _ => ?_)
        clear hK K x2 k2
        rw [I1.out]
        refine wpAnyH_ready (rs := [5]) (by kernel_rfl) (by simp) ?_
        refine AllReadyH.cons rfl (fun K hK => ?_) AllReadyH.nil
        rw [if_pos (by kernel_rfl)]
        go_simp
        refine (snum_t B gs g 1 u1 _ G3.out.sr (by decide) (by decide)).mono ?_
        rw [H2.out]
        rintro e wb ⟨rfl, x2, k2⟩
        have G4 := Lib.hid (G3.out.step x2 (k2.mono fun k e => .inl e))
        refine hK.out _ _ G4.out.cb.c (fun _ => ?_)
        clear hK K x2 k2
        rw [I2.out]
        refine wpAnyH_ready (rs := [7]) (by kernel_rfl) (by simp) ?_
        refine AllReadyH.cons rfl (fun K hK => ?_) AllReadyH.nil
        rw [if_pos (by kernel_rfl)]
        go_simp
        refine (sflag_t B gs g u2 _ G4.out.sr).mono ?_
        rw [H3.out]
        rintro e wc1 ⟨rfl, x2, k2⟩
        have G5 := Lib.hid (G4.out.step x2 k2)
        refine hK.out _ _ G5.out.cb.c (fun _ => ?_)
        clear hK K x2 k2
        refine wpAnyH_ready (rs := [9]) (by kernel_rfl) (by simp) ?_
        refine AllReadyH.cons rfl (fun K hK => ?_) AllReadyH.nil
        rw [if_pos (by kernel_rfl)]
        go_simp
        refine (sflds_t B gs g u3 _ G5.out.sr M3.out).mono ?_
        rw [H4.out]
        rintro e wc2 ⟨⟨A, c9, rfl, t4, n4⟩, x2, k2⟩
        have hsz := G5.out.s2.bel.size
        have G6 := Lib.hid (G5.out.step x2 k2); have T4 := Lib.hid t4
        have N4 := Lib.hid (n4.low hsz)
        refine hK.out _ _ G6.out.cb.c (fun _ => ?_)
        clear hK K x2 k2 t4 n4 hsz
        refine wpAnyH_take (i := 10) (v := ?_) rfl (by kernel_rfl) (by kernel_rfl) (by kernel_rfl) (fun _ _ _ h => h) (Or.inl ⟨by kernel_rfl, ?_⟩) G6.out.cb.c ?_
        rotate_left 1
        · (intro w hS; clear hS; go_simp; try (with_reducible rfl))
        refine wpAnyH_take (i := 12) (v := ?_) rfl (by kernel_rfl) (by kernel_rfl) (by kernel_rfl) (fun _ _ _ h => h) (Or.inl ⟨by kernel_rfl, ?_⟩) G6.out.cb.c ?_
        rotate_left 1
        · (intro w hS; clear hS; go_simp; try (with_reducible rfl))
        obtain ⟨z, hz⟩ : ∃ z, las[j]? = some z := ⟨_, List.getElem?_eq_getElem (by rw [L4.out]; exact HLT.out)⟩
        obtain ⟨x, hx⟩ : ∃ x : Spv, (⟨nw, li, Ai, ci, lw, Aw, cw, v2, v3, las⟩ : Spv) = x := ⟨_, rfl⟩
        rw [hx] at G6
        have HX := Lib.hid hx
        have HXZ := Lib.hid (show x.last[j]? = some z from by rw [← hx]; exact hz)
        have BB := Lib.hid (show Blk wc2 gx 82 (svL x j ++ (pv z ++ svR x j)) from by rw [← sv_at x j z HXZ.out]; exact G6.out.bx)
        have LL := Lib.hid (svL_len x j (by rw [← hx]; have h1 := L4.out; have h2 := HLT.out; show j ≤ las.length; omega))
        obtain ⟨y, hy⟩ : ∃ y : Rpv, (⟨⟨(j : Int), (q1 : Int), (q2 : Int), t, fg⟩, A, c9⟩ : Rpv) = y := ⟨_, rfl⟩
        have FY := Lib.hid (pv_size y); have FO := Lib.hid (pv_oneA y)
        have HIV := Lib.hid (show pv y = [.int .i64 (j : Int), .int .i64 (q1 : Int), .int .i64 (q2 : Int), .slice A t.length c9, .bool fg] from by rw [← hy]; rfl)
        have HY := Lib.hid hy
        clear hx hz hy
        refine wpAnyH_ready (rs := [13]) (by kernel_rfl) (by simp) ?_
        refine AllReadyH.cons rfl (fun K hK => ?_) AllReadyH.nil
        rw [if_pos (by kernel_rfl)]
        refine wstore_part 79 (.tmp 41) (.tmp 39) gx (5 + j * 5) 82 (svL x j) (pv z) (svR x j) (pv y) rfl BB.out LL.out.symm rfl FY.out FO.out (by go_simp) (by go_simp; rw [HIV.out]) ?_
        intro wz a1 a2 a3
        have KZ := a2.out.keptOneS rfl
        have RZ := Lib.hid (show Blk wz gx 82 (sv { x with last := x.last.set j y }) by rw [sv_put x j z y HXZ.out]; exact a1.out)
        have GZ := Lib.hid (G6.out.put (x' := { x with last := x.last.set j y }) KZ RZ.out G6.out.its G6.out.it G6.out.wts G6.out.wt (by rw [← HX.out]; show (las.set j y).length = 4; rw [List.length_set]; exact L4.out) (fun y' hy' => by
          rcases List.mem_or_eq_of_mem_set hy' with h | rfl
          · exact G6.out.la y' h
          · rw [← HY.out]; exact ⟨T4.out, N4.out⟩))
        refine hK.out _ _ GZ.out.cb.c (fun _ => ?_)
        clear hK K a1 a2 a3 KZ
        refine wpAnyH_done (by kernel_rfl) ?_ _
        go_simp
        go_wp2_with fail
        go_roundw
        case rel => exact ⟨j + 1, las.set j y, HLT.out, by go_num, by rw [List.length_set]; exact L4.out, by rw [take_set_snoc (by rw [L4.out]; exact HLT.out), List.map_append, LR.out, HNX.out, EG.out, ← HY.out]; rfl, by have h := GZ.out; rw [← HX.out] at h; rw [HNX.out, EG.out]; exact h⟩
        case measure => have := HLT.out; simp [intOf]; omega
      · obtain rfl : j = 4 := by omega
        clear hlt
        rw [ST.out.e8] at G1 LR
        dsimp only at G1 LR
        obtain ⟨x, hx⟩ : ∃ x : Spv, (⟨nw, li, Ai, ci, lw, Aw, cw, v2, v3, las⟩ : Spv) = x := ⟨_, rfl⟩
        rw [hx] at G1
        have HSP := Lib.hid (show x.sp = sp0 from by
          rw [GOT.out, ← hx]
          unfold Spv.sp
          dsimp only
          rw [LI.out, LW.out, ← LR.out, List.take_of_length_le (by rw [L4.out]; exact Nat.le_refl _)])
        have HLI := Lib.hid (show x.its.length ≤ 1000000 ∧ x.wts.length ≤ 1000000 from by
          have h1 := congrArg List.length LI.out; have h2 := congrArg List.length LW.out
          rw [List.length_map] at h1 h2
          have h3 := ST.out.c5; have h4 := ST.out.c7
          rw [← hx]
          show li.length ≤ 1000000 ∧ lw.length ≤ 1000000
          omega)
        clear hx LI LW LR L4 GOT
        have cb0 := G1.out.cb.c
        have ET := Lib.hid (send_t B gs g s8 wr G1.out.sr)
        obtain ⟨en, hen⟩ : ∃ z, endS s8 = z := ⟨_, rfl⟩
        rw [hen] at ET OKD
        have FZ := Lib.hid (sv_size (gsp 0 0 0) rfl); have FZO := Lib.hid (sv_one (gsp 0 0 0))
        clear hen
        by_cases h0 : en = 0
        · subst h0
          have MR := Lib.hid (SpMay_t x wr (G1.out.w HLI.out.1 HLI.out.2))
          rw [HSP.out] at MR
          obtain ⟨mb, hmb⟩ : ∃ b, spMay sp0 = b := ⟨_, rfl⟩
          rw [hmb] at MR OKD
          have FX := Lib.hid (sv_size x G1.out.l4); have FXO := Lib.hid (sv_one x)
          clear hmb
          go_wp2_with fail
          refine ET.out.mono ?_
          rintro e w8 ⟨rfl, rfl⟩
          have GBX := Lib.hid G1.out.bx
          go_wp2_with ((with_reducible refine load_blk_gdO 47 82 (.tmp 5) gx 82 (sv x) _ ?_ ?_ rfl ?_ Tryz.underlying82 ?_ ?_ ?_ ?_); exact rfl; kernel_rfl; exact GBX.out; exact rfl; exact FX.out; exact rfl)
          refine MR.out.mono ?_
          rintro e w9 ⟨rfl, b9⟩
          have G9 := Lib.hid (G1.out.below b9)
          clear b9 MR ET GBX G1 cb0
          cases mb with
          | false =>
            have OK := Lib.hid (show ok = false from OKD.out)
            have RES := Lib.hid G9.out.s2.res
            have RZ := Lib.hid (G9.out.s2.res.setRow (sv (gsp 0 0 0)))
            have BF := Lib.hid (below_setRow G9.out.s2.bel (Nat.le_refl _) (sv (gsp 0 0 0)).toArray)
            have BZ := built_zsp
            go_wp2_with ((with_reducible refine at_op (.store 82 (.tmp 2) (.tmp 51)) rfl ?_); go_must (refine store_blk 82 (.tmp 2) (.tmp 51) w.heap.size 82 _ (sv (gsp 0 0 0)) rfl rfl RES.out rfl FZ.out FZO.out rfl rfl ?_))
            exact ret_blkS (p := 2) (u := 3) (ty := 82) rfl rfl w.heap.size 82 _ _ rfl RZ.out Tryz.underlying82 rfl FZ.out _ rfl ⟨BF.out, .inl ⟨OK.out, rfl⟩⟩
          | true =>
            have OK := Lib.hid (show ok = true from OKD.out)
            have RES := Lib.hid G9.out.s2.res
            have GBX := Lib.hid G9.out.bx
            have RZ := Lib.hid (G9.out.s2.res.setRow (sv x))
            have BF := Lib.hid (below_setRow G9.out.s2.bel (Nat.le_refl _) (sv x).toArray)
            have KW := Lib.hid (G9.out.outY ((Kept.refl (fun k => k = w.heap.size) w9).setRowK (.inl rfl) (sv x).toArray) HLI.out.1 HLI.out.2)
            have SLX := Lib.hid (show (sv (gsp 0 0 0)).length = (sv x).length from (sv_len _ rfl).trans (sv_len x G9.out.l4).symm)
            go_wp2_with (first
              | ((with_reducible refine load_blk 82 (.tmp 5) gx 82 (sv x) _ rfl rfl ?_ Tryz.underlying82 ?_ ?_ ?_ ?_); exact GBX.out; exact rfl; exact FX.out; exact rfl)
              | ((with_reducible refine at_op (.store 82 (.tmp 2) (.tmp 52)) rfl ?_); go_must (refine store_blk 82 (.tmp 2) (.tmp 52) w.heap.size 82 _ (sv x) rfl rfl RES.out SLX.out FX.out FXO.out rfl rfl ?_)))
            exact ret_blkS (p := 2) (u := 3) (ty := 82) rfl rfl w.heap.size 82 _ _ rfl RZ.out Tryz.underlying82 rfl FX.out _ rfl ⟨BF.out, .inr ⟨OK.out, x, HSP.out, rfl, KW.out.w, KW.out⟩⟩
        · have e1 : ((en : Int) != 0) = true := by rw [bne_iff_ne]; omega
          have OK := Lib.hid (show ok = false from by have := OKD.out; rw [decide_eq_false h0] at this; exact this)
          go_wp2_with fail
          refine ET.out.mono ?_
          rintro e w8 ⟨rfl, rfl⟩
          clear ET
          have RES := Lib.hid G1.out.s2.res
          have RZ := Lib.hid (G1.out.s2.res.setRow (sv (gsp 0 0 0)))
          have BF := Lib.hid (below_setRow G1.out.s2.bel (Nat.le_refl _) (sv (gsp 0 0 0)).toArray)
          have BZ := built_zsp
          go_wp2_with ((with_reducible refine at_op (.store 82 (.tmp 2) (.tmp 51)) rfl ?_); go_must (refine store_blk 82 (.tmp 2) (.tmp 51) w.heap.size 82 _ (sv (gsp 0 0 0)) rfl rfl RES.out rfl FZ.out FZO.out rfl rfl ?_))
          exact ret_blkS (p := 2) (u := 3) (ty := 82) rfl rfl w.heap.size 82 _ _ rfl RZ.out Tryz.underlying82 rfl FZ.out _ rfl ⟨BF.out, .inl ⟨OK.out, rfl⟩⟩
end Go.Proofs.YtidklgicmhdapaaGreatDoor
