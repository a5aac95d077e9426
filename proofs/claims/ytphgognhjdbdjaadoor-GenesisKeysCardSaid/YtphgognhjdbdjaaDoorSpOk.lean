/-
  PACKAGE space: bring, replace, look.
-/
import Derived.Test.YtphgognhjdbdjaaDoorSpLk
import Derived.BigQuiet
namespace Go.Proofs.YtphgognhjdbdjaaDoor
open Go Go.RowKit Sh

theorem ret_blkS {P : Program} {fn : Func} {R : Ending → World → Prop} {a : Act} {w : World} {p u : Tmp} {ty : TypeId} (hr : fn.results = #[.cell p ty, .tmp u]) (hd : a.defers = []) (g : Nat) (t : TypeId) (cs : List Value) (d : TypeDesc)
    (hp : a.tmps.getD p undef = .pointer (some ⟨g, 0, none⟩)) (hg : Blk w g t cs) (hu : P.underlying ty = some d)
    (hdd : (match d with | .struct _ | .array _ _ => true | _ => false) = true) (hi : (P.info? ty).map (·.size) = some cs.length) (v : Value) (hv : a.tmps.getD u undef = v)
    (hR : R (.returned (.tuple #[.agg cs.toArray, v])) w) : bodyPost P fn R .ret a w := by
  have hp' : a.tmps[p]?.getD undef = .pointer (some ⟨g, 0, none⟩) := by simpa using hp
  have hv' : a.tmps[u]?.getD undef = v := by simpa using hv
  refine bodyPost_ret (v := .tuple #[.agg cs.toArray, v]) ?_ hd hR
  simp [results, hr, hp', hv', asAddr, run_loadVar_row w g t ty cs.toArray (0, 0) d hg hu hdd (by simpa using hi)]

/-- A block of replies is written: a space stays. -/
theorem SM.far {wB W W' : World} {g b : Nat} {x : Spv} {cs : List Value} (h : SM wB W g x) (hb : Blk W b 43 cs) (hne : g ≠ b) (hge : wB.heap.size ≤ b) (hk : Kept (fun k => k = b) W W') : SM wB W' g x := by
  have f : ∀ {B sz n : Nat} {e : TypeId} {v : Value} {xs : List Value}, W.ownsRow B e sz v n xs → e ≠ 43 → W'.ownsRow B e sz v n xs := fun ho he => own_kept ho hk (fun k hk' e' => own_apart ho hb he (by rw [hk', e']))
  exact ⟨h.box.kept hk hne, h.ge, h.bel.trans ⟨hk.os, hk.tape, hk.output, hk.size, fun k hlt => hk.block k (Nat.lt_of_lt_of_le hlt h.bel.size) (by omega)⟩,
    ⟨f h.sf.its (by decide), fun y hy => f (h.sf.it y hy) (by decide), f h.sf.wts (by decide), fun y hy => f (h.sf.wt y hy) (by decide), h.sf.l4, fun y hy => f (h.sf.la y hy) (by decide)⟩⟩
theorem FT.far {W W' : World} {B b c : Nat} {p : Option Addr} {l : List Fld} {cs : List Value} (h : FT W B p c l) (hb : Blk W b 43 cs) (hk : Kept (fun k => k = b) W W') : FT W' B p c l := own_kept h hk (fun k hk' e' => own_apart h hb (by decide) (by rw [hk', e']))
theorem Mv.far {g b : Nat} {x x' : Spv} {W0 W W' : World} (m : Mv g x x' W0 W) (hk : Kept (fun k => k = b) W W') (hb : W0.heap.size ≤ b) : Mv g x x' W0 W' :=
  ⟨⟨hk.os.trans m.kept.os, hk.tape.trans m.kept.tape, hk.output.trans m.kept.output, Nat.le_trans m.kept.size hk.size, fun i hi hf => (hk.block i (Nat.lt_of_lt_of_le hi m.kept.size) (by omega)).trans (m.kept.block i hi hf)⟩, m.grow⟩
end Go.Proofs.YtphgognhjdbdjaaDoor
