import Derived.Test.YtahmfbhiaoacgaaDoorEq
import Derived.Lib.SlBytesConst
namespace Go.Proofs.YtahmfbhiaoacgaaDoor
open Go.RowKit Sh

theorem Sl.made {w : World} {B g : Nat} (xs : List Nat) (e : TypeId) (fr : Nat × Nat) (hb : w.heap.size < B) (hg : w.heap.size ≠ g) : Sl (w.alloc (.cells (u8s xs).toArray e fr)) B g (some ⟨w.heap.size, 0, Option.none⟩) xs := fun _ =>
  ⟨w.heap.size, 0, rfl, hb, hg, fun j hj => by rw [Nat.zero_add, cell_of_row _ _ j _ e fr (heap_alloc_new w _)]; simpa using u8s_get _ _ hj⟩
/-- The second part of a call's story: one more Write, behind a literal's block. -/
theorem after_write {w0 w1 w2 : World} {g : Nat} {l : List Nat} {o : Obj} (hg : g = w0.heap.size) (h1 : Below w0.heap.size w0 w1) (hs : g < w1.heap.size) (h : Wrote (w1.alloc o) w2 g l) :
    ∃ s r, Dig w2 g l s r ∧ Below w0.heap.size w0 w2 ∧ g < w2.heap.size := by
  obtain ⟨⟨s, r, hr, hb⟩, hbut⟩ := h
  exact ⟨s, r, Dig.of_rep hr hb, (h1.alloc h1.size o).trans (hbut.below (by omega) (by simp; have := h1.size; omega)), hb.lt⟩
theorem bytes_of {l : List Nat} (h : ∀ x ∈ l, x < 256) : Bytes l := bytes_mem.2 h
theorem cABC_list : (cABC.toList == [98, 97, 55, 56, 49, 54, 98, 102, 56, 102, 48, 49, 99, 102, 101, 97, 52, 49, 52, 49, 52, 48, 100, 101, 53, 100, 97, 101, 50, 50, 50, 51, 98, 48, 48, 51, 54, 49, 97, 51, 57, 54, 49, 55, 55, 97, 57, 99, 98, 52, 49, 48, 102, 102, 54, 49, 102, 50, 48, 48, 49, 53, 97, 100]) = true := by decide +kernel
theorem cNIL_list : (cNIL.toList == [101, 51, 98, 48, 99, 52, 52, 50, 57, 56, 102, 99, 49, 99, 49, 52, 57, 97, 102, 98, 102, 52, 99, 56, 57, 57, 54, 102, 98, 57, 50, 52, 50, 55, 97, 101, 52, 49, 101, 52, 54, 52, 57, 98, 57, 51, 52, 99, 97, 52, 57, 53, 57, 57, 49, 98, 55, 56, 53, 50, 98, 56, 53, 53]) = true := by decide +kernel
set_option maxRecDepth 100000 in
set_option maxHeartbeats 2000000 in
theorem told_t (w : World) (hk : KAt w) : Calls Tryd.prog 9 #[] w fun e w' => e = .returned (.bool true) ∧ Below w.heap.size w w' := by
  have hb0 : Below w.heap.size w (w.alloc (.cells DZ.toArray 46)) := (Below.refl _ _).alloc (Nat.le_refl _) _
  have HB0 := Lib.hid hb0; have HKW := Lib.hid hk; have HLT := Lib.hid hk.lt
  have HD := Lib.hid (Dig.zero (Blk.new w 46 DZ))
  clear hb0 hk
  have kc := fun (w : World) (C : Array Value) (n c : Nat) => Lib.run_convert_bytes_const (P := Tryd.prog) w 22 5 C n c Tryd.underlying22 Tryd.underlying5
  go_enter Tryd.func9, Tryd.ntmps9
  go_wp2_with fail
  refine (new_t w).mono ?_
  rintro e w1 ⟨rfl, hw⟩
  rw [← hw] at HB0 HD
  have hsz : w1.heap.size = w.heap.size + 1 := by rw [hw]; simp
  have HSZ := Lib.hid hsz
  clear hw hsz
  go_wp2_with fail
  refine (write_t w.heap.size z0 (List.replicate 64 0) [] [97, 98] (some ⟨w1.heap.size, 0, none⟩) 2 _ (HD.out.below ((Below.refl _ _).alloc (Nat.le_refl _) _) HD.out.blk.lt) (bytes_of (by decide)) (Sl.made [97, 98] 5 (2, 3) (by simp) (by have := HSZ.out; omega)) (by decide) (by decide) ((HKW.out.below HB0.out HLT.out).below ((Below.refl _ _).alloc (Nat.le_refl _) _) (by have := HSZ.out; have := HLT.out; omega)) (by have := HLT.out; omega)).mono ?_
  rintro e w2 ⟨rfl, hwr⟩
  obtain ⟨s2, r2, hd, hb, hs⟩ := after_write rfl HB0.out (by have := HSZ.out; omega) hwr
  have D2 := Lib.hid hd; have B2 := Lib.hid hb; have S2 := Lib.hid hs
  clear hwr hd hb hs HD HB0 HSZ
  go_wp2_with fail
  refine (write_t w.heap.size s2 r2 [97, 98] [99] (some ⟨w2.heap.size, 0, none⟩) 1 _ (D2.out.below ((Below.refl _ _).alloc (Nat.le_refl _) _) S2.out) (bytes_of (by decide)) (Sl.made [99] 5 (1, 2) (by simp) (by have := S2.out; omega)) (by decide) (by decide) ((HKW.out.below B2.out HLT.out).below ((Below.refl _ _).alloc (Nat.le_refl _) _) (by have := S2.out; have := HLT.out; omega)) (by have := HLT.out; omega)).mono ?_
  rintro e w3 ⟨rfl, hwr⟩
  obtain ⟨s3, r3, hd, hb, hs⟩ := after_write rfl B2.out S2.out hwr
  have D3 := Lib.hid (show Dig w3 w.heap.size abc s3 r3 from hd); have B3 := Lib.hid hb; have S3 := Lib.hid hs
  clear hwr hd hb hs D2 B2 S2
  have K3 := Lib.hid (HKW.out.below B3.out HLT.out)
  go_wp2_with fail
  refine (sum_t abc (some ⟨w3.heap.size, 0, none⟩) 3 _ (bytes_of (by decide)) (fun g hg => Sl.made abc 5 (3, 4) (by simp) (by simp at hg; omega)) (by decide) (by decide) (K3.out.below ((Below.refl _ _).alloc (Nat.le_refl _) _) K3.out.lt)).mono ?_
  rintro e w4 ⟨rfl, hb⟩
  have hb3 : Below w3.heap.size w3 w4 := ((Below.refl _ _).alloc (Nat.le_refl _) _).trans (hb.mono (by simp))
  have B4 := Lib.hid (B3.out.trans (hb3.mono B3.out.size)); have D4 := Lib.hid (D3.out.below hb3 S3.out)
  clear hb hb3 D3 B3 S3 K3
  go_wp2_with fail
  refine (hex_t (sum abc) w4 (sum_length _) (sum_bytes _ (bytes_of (by decide)))).mono ?_
  rintro e w5 ⟨rfl, hb⟩
  rw [hABC]
  have hc1 := cABC_list
  have B5 := Lib.hid (B4.out.trans (hb.mono B4.out.size)); have D5 := Lib.hid (D4.out.below hb D4.out.blk.lt)
  clear hb D4 B4
  go_wp2_with fail
  have K5 := Lib.hid (HKW.out.below B5.out HLT.out)
  refine (sum_t [] none 0 w5 (bytes_of (by decide)) (fun _ _ => Sl.none) (Nat.le_refl _) (by decide) K5.out).mono ?_
  rintro e w6 ⟨rfl, hb⟩
  have B6 := Lib.hid (B5.out.trans (hb.mono B5.out.size)); have D6 := Lib.hid (D5.out.below hb D5.out.blk.lt)
  clear hb D5 B5 K5 hc1
  go_wp2_with fail
  refine (hex_t (sum []) w6 (sum_length _) (sum_bytes _ (bytes_of (by decide)))).mono ?_
  rintro e w7 ⟨rfl, hb⟩
  rw [hNIL]
  have hc2 := cNIL_list
  have B7 := Lib.hid (B6.out.trans (hb.mono B6.out.size)); have D7 := Lib.hid (D6.out.below hb D6.out.blk.lt)
  clear hb D6 B6
  go_wp2_with fail
  have K7 := Lib.hid (HKW.out.below B7.out HLT.out)
  refine (dsum_t w.heap.size s3 r3 abc w7 D7.out (by decide) K7.out).mono ?_
  rintro e w8 ⟨rfl, hb⟩
  have B8 := Lib.hid (B7.out.trans (hb.mono B7.out.size))
  clear hb D7 B7 K7 hc2
  go_wp2_with fail
  have K8 := Lib.hid (HKW.out.below B8.out HLT.out)
  refine (sum_t abc (some ⟨w8.heap.size, 0, none⟩) 3 _ (bytes_of (by decide)) (fun g hg => Sl.made abc 5 (3, 4) (by simp) (by simp at hg; omega)) (by decide) (by decide) (K8.out.below ((Below.refl _ _).alloc (Nat.le_refl _) _) K8.out.lt)).mono ?_
  rintro e w9 ⟨rfl, hb⟩
  have hb3 : Below w8.heap.size w8 w9 := ((Below.refl _ _).alloc (Nat.le_refl _) _).trans (hb.mono (by simp))
  have B9 := Lib.hid (B8.out.trans (hb3.mono B8.out.size))
  clear hb hb3 B8 K8
  have he := eql_same (sum abc) (sum_length _)
  generalize sum abc = X at *
  go_wp2_with fail
  have K9 := Lib.hid (HKW.out.below B9.out HLT.out)
  refine (dsum_nil w9 K9.out).mono ?_
  rintro e wa ⟨rfl, hb⟩
  have BA := Lib.hid (B9.out.trans (hb.mono B9.out.size))
  clear hb B9 K9 he
  go_wp2_with fail
  have KA := Lib.hid (HKW.out.below BA.out HLT.out)
  refine (sum_t [] none 0 wa (bytes_of (by decide)) (fun _ _ => Sl.none) (Nat.le_refl _) (by decide) KA.out).mono ?_
  rintro e wb ⟨rfl, hb⟩
  have BB := Lib.hid (BA.out.trans (hb.mono BA.out.size))
  clear hb BA KA
  have he := eql_same (sum []) (sum_length _)
  generalize sum [] = Y at *
  go_wp2_with fail
  refine (copy_nil wb).mono ?_
  rintro e wc ⟨rfl, rfl⟩
  clear he
  go_wp2_with fail
  go_ret
  exact ⟨rfl, BB.out⟩
end Go.Proofs.YtahmfbhiaoacgaaDoor
