/-
  PACKAGE ots: Public, of what may be.
-/
import Derived.Test.YtigbnjgmdgkgjaaGreatDoorOtQ
import Derived.Laws.EntriesVeiled
namespace Go.Proofs.YtigbnjgmdgkgjaaGreatDoor
open Go Go.RowKit Sh

/-- An aggregate that is built of two parts, by a name of one's own. -/
theorem build_two {P : Program} {ops : Array Oper} {rest : List Oper} {o : Oper} {a : Act} {w : World} {Q : Exit → Act → World → Prop} (hg : o.guard = none) (t : TypeId) (x y : Operand) (ho : o.op = .build t #[(0, x), (1, y)]) (cs : List Value) (u v : Value) (hx : a.eval x = u) (hy : a.eval y = v)
    (hb : P.built t [(0, u), (1, v)] = some cs.toArray) (h : wpList P ops Q rest (a.put o.dst (.agg cs.toArray)) w) : wpList P ops Q (o :: rest) a w := by
  have e : ((#[(0, x), (1, y)] : Array (Nat × Operand)).map fun (i, x) => (i, a.eval x)).toList = [(0, u), (1, v)] := by simp [hx, hy]
  exact wpList_build hg t _ ho (by rw [e, hb]; rfl) (by rw [e, hb]; exact h)
set_option maxRecDepth 100000 in
theorem built_16 (a0 a1 a2 a3 a4 a5 a6 a7 a8 a9 a10 a11 a12 a13 a14 a15 q : Nat) : Tryz.prog.built 128 [(0, .agg (u8s [a0, a1, a2, a3, a4, a5, a6, a7, a8, a9, a10, a11, a12, a13, a14, a15]).toArray), (1, .int .i64 (q : Int))] = some (lf [a0, a1, a2, a3, a4, a5, a6, a7, a8, a9, a10, a11, a12, a13, a14, a15] q).toArray := by kernel_rfl
theorem built_leaf (I : List Nat) (q : Nat) (hI : I.length = 16) : Tryz.prog.built 128 [(0, .agg (u8s I).toArray), (1, .int .i64 (q : Int))] = some (lf I q).toArray := by
  match I, hI with
  | [a0, a1, a2, a3, a4, a5, a6, a7, a8, a9, a10, a11, a12, a13, a14, a15], _ => exact built_16 _ _ _ _ _ _ _ _ _ _ _ _ _ _ _ _ _
def pubN (I seed : List Nat) (q i : Nat) : List Nat := pubOf I q (catN (tipN I seed q i) (kd i).p)
set_option maxRecDepth 100000 in
set_option maxHeartbeats 2000000 in
theorem public_t (I seed : List Nat) (q i : Nat) (n : Int) (w : World) (hn : n = ((kd i).w : Int)) (hI : I.length = 16) (hIb : Bytes I) (hs : seed.length = 32) (hsb : Bytes seed) (hq : q < 32) (hi : i < 4) (hk : KAt w) (hki : KI w) :
    Calls Tryz.prog 117 #[.agg (u8s (I ++ seed)).toArray, .int .i64 (q : Int), .int .i64 n] w fun e w' => e = .returned (.tuple #[.agg (u8s (pubN I seed q i)).toArray, .int .i64 0]) ∧ Below w.heap.size w w' := by
  have HI := Lib.hid hI; have HIB := Lib.hid hIb; have HS := Lib.hid hs; have HSB := Lib.hid hsb; have HK := Lib.hid hk; have HG := Lib.hid hk.lt; have HN := Lib.hid hn
  have B0 := Lib.hid (((Below.refl w.heap.size w).alloc (Nat.le_refl _) (.cells (u8s (I ++ seed)).toArray 26)).alloc (by simp) (.cells (u8s z32).toArray 24))
  have K0 := Lib.hid (hki.kept B0.out)
  have Z0 := Lib.hid (Blk.new2 w (.cells (u8s (I ++ seed)).toArray 26) 24 (u8s z32))
  have S0 := Lib.hid ((Blk.new w 26 (u8s (I ++ seed))).alloc (.cells (u8s z32).toArray 24))
  clear hI hIb hs hsb hk hki hn
  go_enter Tryz.func117, Tryz.ntmps117
  go_wp2_with fail
  refine find_t n _ K0.out _ (fun i' w1 hi' hn b1 => ?_) (fun _ hn _ => absurd HN.out (hn i hi))
  obtain rfl := kd_inj hi' hi (by have := HN.out; omega)
  have B1 := Lib.hid (B0.out.trans (b1.mono B0.out.size)); have Z1 := Lib.hid (Z0.out.below b1 Z0.out.lt); have S1 := Lib.hid (S0.out.below b1 S0.out.lt); have R1 := Lib.hid (Blk.new w1 124 kz)
  have g1l := Z1.out.lt
  clear hn b1 hi' B0 K0 Z0 S0
  go_upto_region 4 with (first
    | ((with_reducible refine store_blk 124 (.tmp 8) (.tmp 15) w1.heap.size 124 kz (kv (kd i')) rfl rfl ?_ ?_ ?_ ?_ ?_ ?_ ?_); exact R1.out; exact rfl; exact kv_size _; exact kv_one _; exact rfl; exact rfl)
    | (go_at_call 70; refine (isLeaf_yes q _ hq).mono ?_; rintro e w2 ⟨rfl, rfl⟩))
  refine world_is (fun W => Blk W w.heap.size 26 (u8s (I ++ seed)) ∧ Blk W (w.heap.size + 1) 24 (u8s z32) ∧ Blk W w1.heap.size 124 (kv (kd i')) ∧ Below w.heap.size w W ∧ W.heap.size = w1.heap.size + 1)
    ⟨(S1.out.alloc _).setRow_far (by omega) _, (Z1.out.alloc _).setRow_far (by omega) _, R1.out.setRow _, below_setRow (B1.out.alloc B1.out.size _) B1.out.size _, by simp⟩ ?_
  rintro W ⟨s0, z0', k0, bw, hz⟩
  have S0 := Lib.hid s0; have Z0 := Lib.hid z0'; have K0 := Lib.hid k0; have BW := Lib.hid bw; have HZ := Lib.hid hz
  obtain ⟨g2, hg2⟩ : ∃ g, w1.heap.size = g := ⟨_, rfl⟩
  rw [hg2] at K0 g1l HZ ⊢
  have gW : g2 < W.heap.size := K0.out.lt
  clear s0 z0' k0 bw hz R1 S1 Z1 B1 hg2
  go_upto_region 5 with (first
    | ((with_reducible refine load_part 22 (.tmp 25) w.heap.size 0 26 [] (u8s I) (u8s seed) _ rfl rfl ?_ rfl Tryz.underlying22 ?_ ?_ ?_ ?_); (rw [List.nil_append, ← u8s_app]; exact S0.out); exact rfl; exact size16 _ HI.out; exact rfl)
    | ((with_reducible refine build_two rfl 128 (.tmp 26) (.tmp 27) rfl (lf I q) (.agg (u8s I).toArray) (.int .i64 (q : Int)) ?_ ?_ ?_ ?_); exact rfl; exact rfl; exact built_leaf I q HI.out)
    | ((with_reducible refine store_blk 128 (.tmp 10) (.tmp 28) W.heap.size 128 (lf (List.replicate 16 0) 0) (lf I q) rfl rfl ?_ ?_ ?_ ?_ ?_ ?_ ?_); exact Blk.new W _ _; exact (by rw [lf_length _ _ HI.out]; rfl); exact lf_size _ _ HI.out; exact lf_one _ _; exact rfl; exact rfl))
  refine world_is (fun V => Blk V w.heap.size 26 (u8s (I ++ seed)) ∧ Blk V (w.heap.size + 1) 24 (u8s z32) ∧ Blk V g2 124 (kv (kd i')) ∧ Blk V W.heap.size 128 (lf I q) ∧ Below w.heap.size w V)
    ⟨(S0.out.alloc _).setRow_far (by omega) _, (Z0.out.alloc _).setRow_far (by omega) _, (K0.out.alloc _).setRow_far (by omega) _, (Blk.new W 128 (lf (List.replicate 16 0) 0)).setRow _, below_setRow (BW.out.alloc BW.out.size _) BW.out.size _⟩ ?_
  rintro V ⟨s0, z0', k0, l0, bw⟩
  have S1 := Lib.hid s0; have Z1 := Lib.hid z0'; have K1 := Lib.hid k0; have L1 := Lib.hid l0; have BV := Lib.hid bw
  obtain ⟨g3, hg3⟩ : ∃ g, W.heap.size = g := ⟨_, rfl⟩
  rw [hg3] at L1 gW ⊢
  have gV : g3 < V.heap.size := L1.out.lt
  clear s0 z0' k0 l0 bw S0 Z0 K0 BW HZ hg3
  go_wp2_with ((with_reducible refine load_blk 128 (.tmp 10) g3 128 (lf I q) _ rfl rfl ?_ Tryz.underlying128 ?_ ?_ ?_ ?_); exact L1.out; exact rfl; exact lf_size _ _ HI.out; exact rfl)
  refine (walker_t I q V HI.out hq).mono ?_
  rintro e w3 ⟨gB, rfl, bg, hgB, b3⟩
  have S2 := Lib.hid (S1.out.below b3 S1.out.lt); have Z2 := Lib.hid (Z1.out.below b3 Z1.out.lt); have K2 := Lib.hid (K1.out.below b3 K1.out.lt); have L2 := Lib.hid (L1.out.below b3 L1.out.lt); have G2 := Lib.hid bg; have B3 := Lib.hid (BV.out.trans (b3.mono BV.out.size))
  have gBl : gB < w3.heap.size := bg.lt
  have g3l : g3 < w3.heap.size := L2.out.lt
  clear bg b3 S1 Z1 K1 L1 BV
  have hmf : ∀ (fn : Fn) (first cap : Array Value) (w : World), (Instr.makeFunc fn first cap).run Tryz.prog w = .ok (.func fn first cap) w := fun _ _ _ _ => rfl
  go_upto_region 6 with (fail)
  refine world_is (fun V => PCap V w3.heap.size g2 g3 w.heap.size gB I seed q i' ∧ Blk V (w.heap.size + 1) 24 (u8s z32) ∧ Below w.heap.size w V)
    ⟨⟨(Blk.new w3 _ [.func (.func 99) #[] #[.pointer (some ⟨gB, 0, none⟩)]]).cell 0, K2.out.alloc _, L2.out.alloc _, by rw [List.append_nil, ← u8s_app]; exact S2.out.alloc _, G2.out.alloc _, by simp⟩, Z2.out.alloc _, B3.out.alloc B3.out.size _⟩ ?_
  rintro V4 ⟨pc, z0', bw⟩
  have PC := Lib.hid pc; have Z4 := Lib.hid z0'; have B4 := Lib.hid bw
  obtain ⟨g4, hg4⟩ : ∃ g, w3.heap.size = g := ⟨_, rfl⟩
  rw [hg4] at PC ⊢
  clear pc z0' bw S2 Z2 K2 L2 G2 B3 hg4
  go_wp2_with (first
    | ((with_reducible refine load_blk 128 (.tmp 10) g3 128 (lf I q) _ rfl rfl ?_ Tryz.underlying128 ?_ ?_ ?_ ?_); exact PC.out.leaf; exact rfl; exact lf_size _ _ HI.out; exact rfl)
    | ((with_reducible refine load_blk 124 (.tmp 8) g2 124 (kv (kd i')) _ rfl rfl ?_ Tryz.underlying124 ?_ ?_ ?_ ?_); exact PC.out.kind; exact rfl; exact kv_size _; exact rfl))
  refine (public_of 127 g4 g2 g3 w.heap.size (tipN I seed q i') I q i' V4 HI.out HIB.out hq hi (fun j _ => tipN_ok I seed q i' j hi HIB.out HSB.out) (HK.out.below B4.out HG.out) (enters_of Tryz.func127 (by kernel_rfl) rfl) (fun X j hX hj => pubEnd_t g4 g2 g3 w.heap.size gB I seed q i' j X (PC.out.below hX) HI.out HIB.out HS.out HSB.out hq hi (Nat.lt_of_lt_of_le hj (kd_p i' hi)) ((HK.out.below B4.out HG.out).below hX (by have := B4.out.size; have := HG.out; omega)))).mono ?_
  rintro e w5 ⟨rfl, b5⟩
  have Z5 := Lib.hid (Z4.out.below b5 Z4.out.lt); have B5 := Lib.hid (B4.out.trans (b5.mono B4.out.size))
  clear b5 PC Z4 B4
  obtain ⟨E, hE⟩ : ∃ E, pubOf I q (catN (tipN I seed q i') (kd i').p) = E := ⟨_, rfl⟩
  have E1 := Lib.hid (show E.length = 32 by rw [← hE]; rfl)
  rw [hE]
  have HE := Lib.hid (show pubN I seed q i' = E from hE)
  clear hE
  have HZE := Lib.hid (show (u8s z32).length = (u8s E).length by rw [u8s_length, u8s_length, E1.out]; rfl)
  go_wp2_with ((with_reducible refine store_blk 24 (.tmp 6) (.tmp 34) (w.heap.size + 1) 24 (u8s z32) (u8s E) rfl rfl ?_ ?_ ?_ ?_ ?_ ?_ ?_); exact Z5.out; exact HZE.out; exact size32 _ E1.out; exact u8s_one _; exact rfl; exact rfl)
  refine ret_blk2 (p := 6) (u := 7) (ty := 24) rfl rfl (w.heap.size + 1) 24 (u8s E) _ rfl (Z5.out.setRow _) Tryz.underlying24 rfl (size32 _ E1.out) (.int .i64 0) rfl ?_
  exact ⟨by rw [HE.out], below_setRow B5.out (by omega) _⟩
end Go.Proofs.YtigbnjgmdgkgjaaGreatDoor
