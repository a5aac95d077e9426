import Derived.Test.YthcebaegijlbdaaDoorWrite
import Derived.Deep.WholeRow
namespace Go.Proofs.YthcebaegijlbdaaDoor
open Go.RowKit Sh

def z0 : S8 := ⟨0, 0, 0, 0, 0, 0, 0, 0⟩
theorem z0_ok : z0.ok := by unfold S8.ok; decide
/-- The cells of a Digest that New makes. -/
def DZ : List Value := D z0 (List.replicate 64 0) 0
theorem zero46 : (Tryd.prog.info? 128).map (fun i => (i.zero, i.size)) = some (some (.agg DZ.toArray), 73) := by kernel_rfl
theorem Dig.zero {w : World} {g : Nat} (h : Blk w g 128 DZ) : Dig w g [] z0 (List.replicate 64 0) := ⟨h, z0_ok, List.length_replicate, zeros_bytes 64, fun e => absurd rfl e⟩
theorem Dig.below {w w' : World} {B g : Nat} {l : List Nat} {s : S8} {r : List Nat} (h : Dig w g l s r) (hb : Below B w w') (hg : g < B) : Dig w' g l s r := ⟨h.blk.below hb hg, h.ok, h.len, h.bytes, h.rep⟩
theorem Dig.of_rep {w : World} {g : Nat} {l : List Nat} {s : S8} {r : List Nat} (h : Rep s r l) (hb : Blk w g 128 (D s r l.length)) : Dig w g l s r := ⟨hb, h.ok, h.len, h.bytes, fun _ => h⟩
theorem Dig.sum {w : World} {g : Nat} {l : List Nat} {s : S8} {r : List Nat} (h : Dig w g l s r) : out (fin s r l.length) = sum l := by
  have e : fin s r l.length = fin (if l.length = 0 then h0 else s) r l.length := by
    unfold fin finD
    by_cases hl : l.length = 0
    · simp [hl]
    · simp [hl]
  rw [e]
  exact fin_sum h.begun _ rfl
theorem D_all (s : S8) (r : List Nat) (n : Nat) (hr : r.length = 64) : (Tryd.prog.info? 128).map (·.size) = some (D s r n).length := by rw [D_length s r n hr]; exact s46
theorem sum_len (l : List Nat) : (u8s (sum l)).length = 32 := out_len _
theorem zs25 (l : List Nat) : (Tryd.prog.info? 24).map (·.size) = some (u8s (sum l)).length := z25 _

set_option maxRecDepth 100000 in
set_option maxHeartbeats 600000 in
theorem sum_t (xs : List Nat) (p : Option Addr) (c : Nat) (w : World) (hxs : Bytes xs) (hp : ∀ g, w.heap.size ≤ g → Sl w w.heap.size g p xs) (hc : xs.length ≤ c) (hsz : xs.length < 2305843009213693952) (hk : KAt w) :
    Calls Tryd.prog 51 #[.slice p xs.length c] w fun e w' => e = .returned (.agg (u8s (sum xs)).toArray) ∧ Below w.heap.size w w' := by
  have HXS := Lib.hid hxs; have HP := Lib.hid hp; have HC := Lib.hid hc; have HSZ := Lib.hid hsz; have HK := Lib.hid hk
  clear hxs hp hc hsz hk
  have hz := (zero_of_info zero46).1
  go_enter Tryd.func51, Tryd.ntmps51
  go_wp2_with fail
  clear hz
  have hb0 : Below w.heap.size w ((w.alloc (.cells (u8s (List.replicate 32 0)).toArray 24)).alloc (.cells DZ.toArray 128)) := ((Below.refl _ _).alloc (Nat.le_refl _) _).alloc (by simp) _
  have hd0 := Dig.zero (Blk.new2 w (.cells (u8s (List.replicate 32 0)).toArray 24) 128 DZ)
  have hr0 : Blk ((w.alloc (.cells (u8s (List.replicate 32 0)).toArray 24)).alloc (.cells DZ.toArray 128)) w.heap.size 24 (u8s (List.replicate 32 0)) := (Blk.new w 24 _).alloc _
  have hsl : Sl ((w.alloc (.cells (u8s (List.replicate 32 0)).toArray 24)).alloc (.cells DZ.toArray 128)) ((w.alloc (.cells (u8s (List.replicate 32 0)).toArray 24)).alloc (.cells DZ.toArray 128)).heap.size (w.heap.size + 1) p xs := fun hx => by
    obtain ⟨b, o, e, h1, h2, h3⟩ := HP.out (w.heap.size + 1) (by omega) hx
    exact ⟨b, o, e, Nat.lt_of_lt_of_le h1 hb0.size, h2, h3.below hb0 h1⟩
  refine (write_t (w.heap.size + 1) z0 (List.replicate 64 0) [] xs p c _ hd0 HXS.out hsl HC.out (by simpa using HSZ.out) (HK.out.below hb0 HK.out.lt) (by have := HK.out.lt; omega)).mono ?_
  rintro e w1 ⟨rfl, ⟨s, r, hrep, hblk⟩, hbut⟩
  rw [List.nil_append] at hrep hblk
  have hdig := Dig.of_rep hrep hblk
  have hb1 : Below w.heap.size w w1 := hb0.trans (hbut.below (by omega) (by simp; omega))
  have hr1 := hr0.but hbut (by simp; omega) (by omega)
  have hsum := hdig.sum
  have z46 := D_all s r xs.length hdig.len
  have h2 : w.heap.size + 2 ≤ w1.heap.size := by have := hbut.size; simp at this; exact this
  have hk1 := HK.out.below hb1 HK.out.lt
  have hol : (u8s (List.replicate 32 0)).length = (u8s (sum xs)).length := (sum_len xs).symm
  have hz25 := zs25 xs
  have HREP := Lib.hid hrep; have HBLK := Lib.hid hblk; have HB1 := Lib.hid hb1; have HR1 := Lib.hid hr1; have HSUM := Lib.hid hsum; have Z46 := Lib.hid z46; have H2 := Lib.hid h2; have HK1 := Lib.hid hk1; have HOL := Lib.hid hol; have HZ := Lib.hid hz25
  clear hrep hblk hb1 hr1 hsum z46 h2 hk1 hol hz25 hb0 hd0 hr0 hsl hdig hbut
  go_wp2_with (first
    | ((with_reducible refine load_blk 128 (.tmp 3) (w.heap.size + 1) 128 (D s r xs.length) _ rfl rfl HBLK.out Tryd.underlying128 ?_ ?_ ?_ ?_); exact rfl; exact Z46.out; exact rfl)
    | (go_at_call 71; refine (finish_t s r xs.length w1 HREP.out.ok HREP.out.len HREP.out.bytes HSZ.out HK1.out).mono ?_; rintro e w2 ⟨rfl, hb2⟩; rw [HSUM.out]; have B2 := Lib.hid hb2; have R2 := Lib.hid (HR1.out.below hb2 HR1.out.lt); clear hb2)
    | ((with_reducible refine store_blk 24 (.tmp 2) (.tmp 7) w.heap.size 24 (u8s (List.replicate 32 0)) (u8s (sum xs)) rfl rfl ?_ ?_ ?_ ?_ ?_ ?_ ?_); exact R2.out; exact HOL.out; exact HZ.out; exact u8s_one _; exact rfl; exact rfl))
  exact ret_blk (p := 2) (ty := 24) rfl rfl w.heap.size 24 _ _ rfl (R2.out.setRow _) Tryd.underlying24 rfl HZ.out ⟨rfl, below_setRow (HB1.out.trans (B2.out.mono HB1.out.size)) (Nat.le_refl _) _⟩
end Go.Proofs.YthcebaegijlbdaaDoor
