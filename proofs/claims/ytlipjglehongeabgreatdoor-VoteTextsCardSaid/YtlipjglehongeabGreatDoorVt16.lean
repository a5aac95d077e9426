/-
  PACKAGE space
-/
import Derived.Test.YtlipjglehongeabGreatDoorVt7
namespace Go.Proofs.YtlipjglehongeabGreatDoor
open Go Go.RowKit Sh

theorem sv_cells {w : World} {g : Nat} {x : Spv} (h : Blk w g 75 (sv x)) :
    w.cell? ⟨g, 0, none⟩ = some (.int .i64 x.now) ∧ w.cell? ⟨g, 1, none⟩ = some (.slice x.ip x.its.length x.ic) ∧ w.cell? ⟨g, 2, none⟩ = some (.slice x.wp x.wts.length x.wc) ∧ w.cell? ⟨g, 3, none⟩ = some (.int .i64 x.rd) ∧ w.cell? ⟨g, 4, none⟩ = some (.int .i64 x.wr) := ⟨h.cell 0, h.cell 1, h.cell 2, h.cell 3, h.cell 4⟩
theorem iv_oneA (x : Itv) : (iv x).toArray.all (·.oneCell') = true := by simp [iv, Value.oneCell']
theorem wv_oneA (x : Wtv) : (wv x).toArray.all (·.oneCell') = true := by simp [wv, Value.oneCell']
theorem iv_cells {w : World} {g : Nat} {x : Itv} (h : Blk w g 101 (iv x)) :
    w.cell? ⟨g, 0, none⟩ = some (.int .i64 x.i.own) ∧ w.cell? ⟨g, 1, none⟩ = some (.int .i64 x.i.un) ∧ w.cell? ⟨g, 2, none⟩ = some (.slice x.p x.i.t.length x.c) := ⟨h.cell 0, h.cell 1, h.cell 2⟩
theorem wv_cells {w : World} {g : Nat} {x : Wtv} (h : Blk w g 106 (wv x)) :
    w.cell? ⟨g, 0, none⟩ = some (.int .i64 x.x.cl) ∧ w.cell? ⟨g, 1, none⟩ = some (.int .i64 x.x.sq) ∧ w.cell? ⟨g, 2, none⟩ = some (.bool x.x.tk) ∧ w.cell? ⟨g, 3, none⟩ = some (.slice x.p x.x.p.length x.c) := ⟨h.cell 0, h.cell 1, h.cell 2, h.cell 3⟩
end Go.Proofs.YtlipjglehongeabGreatDoor
