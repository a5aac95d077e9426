/-
  OtsHolds walked.
-/
import Derived.Test.YtigbnjgmdgkgjaaGreatDoorRfM
namespace Go.Proofs.YtigbnjgmdgkgjaaGreatDoor
open Go Go.RowKit Sh

theorem neq_hash (xs ys : List Nat) (hx : xs.length = 32) (hy : ys.length = 32) (w : World) : (binOp .neq 24 (.agg (u8s xs).toArray) (.agg (u8s ys).toArray)).run Tryz.prog w = .ok (.bool (!decide (xs = ys))) w := by
  rw [run_neq_struct, eqIn_u8s 9998 24 32 Tryz.underlying24 xs ys hx hy w]
  rfl
theorem neq_self (xs : List Nat) (hx : xs.length = 32) (w : World) : (binOp .neq 24 (.agg (u8s xs).toArray) (.agg (u8s xs).toArray)).run Tryz.prog w = .ok (.bool false) w := by
  rw [neq_hash xs xs hx hx w]; simp
theorem eql_self (xs : List Nat) (hx : xs.length = 32) (w : World) : (binOp .eql 24 (.agg (u8s xs).toArray) (.agg (u8s xs).toArray)).run Tryz.prog w = .ok (.bool true) w := by
  rw [eql_hash xs xs hx hx w]; simp
theorem xor_u8n (a x : Nat) (ha : a < 256) (hx : x < 256) : bits .xor .u8 (a : Int) (x : Int) = ((a ^^^ x : Nat) : Int) := by
  show IntKind.u8.wrap ((BitVec.ofInt 8 (a : Int) ^^^ BitVec.ofInt 8 (x : Int)).toNat : Int) = _
  have e1 : ∀ y : Nat, y < 256 → (BitVec.ofInt 8 (y : Int)).toNat = y := fun y hy => by simp; omega
  have h : a ^^^ x < 256 := Nat.xor_lt_two_pow (n := 8) ha hx
  rw [BitVec.toNat_xor, e1 a ha, e1 x hx]
  exact IntWalk.u8_in _ (by omega)
/-- A row of bytes of the call's own, as a block. -/
theorem own_blk {w : World} {base : Nat} {v : Value} {l : List Nat} {n : Nat} (h : w.ownsRow base 5 1 v n (u8s l)) (hn : 0 < n) : ∃ g c rest, v = .slice (some ⟨g, 0, none⟩) n c ∧ n ≤ c ∧ base ≤ g ∧ Blk w g 5 (u8s l ++ rest) := by
  rcases h.2 with ⟨_, h0⟩ | ⟨g, cap, cur, rfl, hb, hh, hc, _, hs, ht⟩
  · omega
  · refine ⟨g, cap, cur.toList.drop n, rfl, hc, hb, ?_⟩
    have e : u8s l ++ cur.toList.drop n = cur.toList := by
      rw [← ht, Nat.mul_one, List.take_append_drop]
    unfold Blk
    rw [e]
    simpa using hh
theorem mod_big (m : Nat) (hm : 0 < m) (hm2 : m ≤ 1000000) (n : Int) : ∃ k : Nat, k < m ∧ wrap64 ((IntKind.u64.wrap n).tmod (m : Int)) = (k : Int) := by
  have h0 : 0 ≤ IntKind.u64.wrap n := by simp [IntKind.wrap, IntKind.bits, IntKind.signed]; omega
  rw [Int.tmod_eq_emod_of_nonneg h0]
  generalize IntKind.u64.wrap n = x at *
  have h3 : 0 ≤ x % (m : Int) := Int.emod_nonneg _ (by omega)
  have h4 : x % (m : Int) < (m : Int) := Int.emod_lt_of_pos _ (by omega)
  refine ⟨(x % (m : Int)).toNat, by omega, ?_⟩
  generalize x % (m : Int) = y at *
  unfold wrap64
  omega
/-- What Candidate tells of a signature of the right length: the key, and the error. -/
def candR (I : List Nat) (q i : Nat) (ys xs : List Nat) : List Nat × Nat := if val (xs.take 4) = (kd i).code then (candN I q i ys xs, 0) else (z32, 3)
theorem candR_length (I : List Nat) (q i : Nat) (ys xs : List Nat) : (candR I q i ys xs).1.length = 32 := by
  unfold candR; split <;> rfl
theorem candR_yes (I : List Nat) (q i : Nat) (ys xs : List Nat) (h : val (xs.take 4) = (kd i).code) : candR I q i ys xs = (candN I q i ys xs, 0) := if_pos h
theorem candR_no (I : List Nat) (q i : Nat) (ys xs : List Nat) (h : val (xs.take 4) ≠ (kd i).code) : candR I q i ys xs = (z32, 3) := if_neg h
theorem prog_cand (I xs ys : List Nat) (q i : Nat) (n : Int) (A P : Option Addr) (ma ca m c : Nat) (w : World) (hn : n = ((kd i).w : Int)) (hI : I.length = 16) (hIb : Bytes I) (hq : q < 32) (hi : i < 4) (hy : ys.length = ma) (ha : Sr w A ys) (hyb : Bytes ys) (hca : ma ≤ ca) (hma : ma ≤ 100000) (hx : xs.length = m) (hp : Sr w P xs) (hxb : Bytes xs) (hc : m ≤ c) (hm : m = 36 + 32 * (kd i).p) (hk : KAt w) (hki : KI w) :
    Calls Tryz.prog 86 #[.agg (u8s I).toArray, .int .i64 (q : Int), .int .i64 n, .slice A ma ca, .slice P m c] w fun e w' => e = .returned (.tuple #[.agg (u8s (candR I q i ys xs).1).toArray, .int .i64 ((candR I q i ys xs).2 : Int)]) ∧ Below w.heap.size w w' := by
  have hp9 := kd_p i hi
  by_cases hcode : val (xs.take 4) = (kd i).code
  · rw [candR_yes _ _ _ _ _ hcode]
    exact cand_t I xs ys q i n A P ma ca m c w hn hI hIb hq hi hy ha hyb hca (by omega) hx hp hxb hc hm hcode hk hki
  · rw [candR_no _ _ _ _ _ hcode]
    exact cand_sig I xs q i n A P ma ca m c w hn hI hq hi hx hp hxb hc (by omega) (.inr hcode) hki
theorem ref_cand (I xs ys : List Nat) (q i : Nat) (A P : Option Addr) (ma ca m c : Nat) (w : World) (hI : I.length = 16) (hIb : Bytes I) (hq : q < 1000) (hi : i < 4) (hy : ys.length = ma) (ha : Sr w A ys) (hyb : Bytes ys) (hma : ma ≤ 100000) (hx : xs.length = m) (hp : Sr w P xs) (hxb : Bytes xs) (hc : m ≤ c) (hm : m = 36 + 32 * (kd i).p) :
    Calls Tryz.prog 83 #[.agg (u8s I).toArray, .int .i64 (q : Int), .int .i64 ((kd i).w : Int), .slice A ma ca, .slice P m c] w fun e w' => e = .returned (.tuple #[.agg (u8s (candR I q i ys xs).1).toArray, .int .i64 ((candR I q i ys xs).2 : Int)]) ∧ Below w.heap.size w w' := by
  by_cases hcode : val (xs.take 4) = (kd i).code
  · rw [candR_yes _ _ _ _ _ hcode]
    exact refcand_t I xs ys q i A P ma ca m c w hI hIb hq hi hy ha hyb hma hx hp hxb hc hm hcode
  · rw [candR_no _ _ _ _ _ hcode]
    exact refcand_code I xs (q : Int) i A P ma ca m c w hI hIb hi hx hp hxb hc hm hcode
/-- A byte turned in the typecode is a fault, elsewhere it is none. -/
theorem turned (I ys xs : List Nat) (q i n x : Nat) (hi : i < 4) (hb : Bytes xs) (hl : 4 ≤ xs.length) (hn : n < xs.length) (hx : x ≠ 0) (hx2 : x < 256) (hcode : val (xs.take 4) = (kd i).code) :
    Bytes (xs.set n (gt xs n ^^^ x)) ∧ (n < 4 ∧ (candR I q i ys (xs.set n (gt xs n ^^^ x))).2 = 3 ∨ ¬ n < 4 ∧ (candR I q i ys (xs.set n (gt xs n ^^^ x))).2 = 0) := by
  have hc4 : (kd i).code ≤ 4 := by rcases i with _ | _ | _ | i <;> simp [kd]
  have hz : gt xs n ^^^ x < 256 := Nat.xor_lt_two_pow (n := 8) (hb n) hx2
  have hb2 : Bytes (xs.set n (gt xs n ^^^ x)) := sl_bytes (fun y hy => by
    rcases List.mem_or_eq_of_mem_set hy with h | rfl
    · obtain ⟨q, hq, rfl⟩ := List.getElem_of_mem h
      have := hb q
      rwa [gt_of_lt hq] at this
    · exact hz)
  refine ⟨hb2, ?_⟩
  by_cases h4 : n < 4
  · refine .inl ⟨h4, ?_⟩
    have hne : val ((xs.set n (gt xs n ^^^ x)).take 4) ≠ (kd i).code := fun h => by
      have e1 := (code_eq _ _ (by rw [List.length_set]; exact hl) hb2 (by omega)).2 h
      have e2 := (code_eq xs _ hl hb (by omega)).2 hcode
      have e3 : (xs.set n (gt xs n ^^^ x)).take 4 = xs.take 4 := e1.trans e2.symm
      have e4 : ((xs.set n (gt xs n ^^^ x)).take 4)[n]? = (xs.take 4)[n]? := by rw [e3]
      rw [List.getElem?_take, List.getElem?_take, if_pos h4, if_pos h4, List.getElem?_set_self hn, List.getElem?_eq_getElem hn] at e4
      have e5 := Option.some.inj e4
      rw [gt_of_lt hn] at e5
      have e6 : xs[n] ^^^ (xs[n] ^^^ x) = xs[n] ^^^ xs[n] := by rw [e5]
      rw [← Nat.xor_assoc, Nat.xor_self, Nat.zero_xor] at e6
      exact hx e6
    rw [candR_no _ _ _ _ _ hne]
  · refine .inr ⟨h4, ?_⟩
    have e : (xs.set n (gt xs n ^^^ x)).take 4 = xs.take 4 := by
      apply List.ext_getElem?
      intro j
      rw [List.getElem?_take, List.getElem?_take]
      split
      · rw [List.getElem?_set_ne (by omega)]
      · rfl
    rw [candR_yes _ _ _ _ _ (by rw [e]; exact hcode)]
/-- The load of ONE operation, named by the slot that it writes. -/
theorem load_at {P : Program} {ops : Array Oper} {rest : List Oper} {o : Oper} {a : Act} {w : World} {Q : Exit → Act → World → Prop} (D : Nat) (ty : TypeId) (x : Operand) (g : Nat) (t : TypeId) (cs : List Value) (d : TypeDesc)
    (_hD : o.dst = some D) (hw : Region.wanted o (yielded ops a.tmps) = true) (ho : o.op = .load ty x) (hg : Blk w g t cs) (hu : P.underlying ty = some d) (hd : d.isRow = true) (hi : (P.info? ty).map (·.size) = some cs.length)
    (hx : a.eval x = .pointer (some ⟨g, 0, none⟩)) (h : wpList P ops Q rest (a.put o.dst (.agg cs.toArray)) w) : wpList P ops Q (o :: rest) a w :=
  load_blk_g ty x g t cs d hw ho hg hu hd hi hx h
/-- What the law has laid down so far: the secret, the signature, the hashes. -/
structure HCap (w0 w : World) (gs : Nat) (I seed : List Nat) (A : Option Addr) (sg : List Nat) (L : List (Nat × List Nat)) : Prop where
  cap : LCap w0 w gs I seed
  sr : Sr w A sg
  blk : ∀ x, x ∈ L → Blk w x.1 24 (u8s x.2)
theorem HCap.below {w0 w w' : World} {gs : Nat} {I seed : List Nat} {A : Option Addr} {sg : List Nat} {L : List (Nat × List Nat)} (h : HCap w0 w gs I seed A sg L) (hb : Below w.heap.size w w') : HCap w0 w' gs I seed A sg L :=
  ⟨h.cap.below hb, h.sr.below hb, fun x hx => (h.blk x hx).below hb (h.blk x hx).lt⟩
theorem HCap.push {w0 w : World} {gs : Nat} {I seed : List Nat} {A : Option Addr} {sg : List Nat} {L : List (Nat × List Nat)} (h : HCap w0 w gs I seed A sg L) (X : List Nat) :
    HCap w0 ((w.alloc (.cells (u8s z32).toArray 24)).setRow w.heap.size (u8s X).toArray) gs I seed A sg ((w.heap.size, X) :: L) := by
  have hb := below_store w (u8s z32) 24 (u8s X).toArray
  refine ⟨h.cap.below hb, h.sr.below hb, fun x hx => ?_⟩
  rcases List.mem_cons.1 hx with rfl | hx
  · exact (Blk.new w _ (u8s z32)).setRow (u8s X)
  · exact (h.blk x hx).below hb (h.blk x hx).lt
end Go.Proofs.YtigbnjgmdgkgjaaGreatDoor
