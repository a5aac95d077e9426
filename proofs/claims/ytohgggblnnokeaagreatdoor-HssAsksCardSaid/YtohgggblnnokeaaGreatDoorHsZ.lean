/-
  PACKAGE hss: keys of one level and of two, told as one.
  HssAsks walked: public keys and signatures are what the document says, and hold.
-/
import Derived.Test.YtohgggblnnokeaaGreatDoorRkM
import Derived.Test.YtohgggblnnokeaaGreatDoorLmD
import Derived.Test.YtohgggblnnokeaaGreatDoorOtHolds
namespace Go.Proofs.YtohgggblnnokeaaGreatDoor
open Go Go.RowKit Sh

def hsgN (l : Nat) (I seed : List Nat) (i k : Nat) (xs : List Nat) : List Nat := if l = 1 then hsig1N I seed i k xs else hsig2N I seed i (k / 32) (k % 32) xs
def hszN (l N : Nat) : Nat := if l = 1 then 4 + N else 60 + 2 * N
def hholdN (l N : Nat) (ys xs zs : List Nat) : Bool := if l = 1 then hold1 N ys xs zs else hold2 N ys xs zs
def hanN (l N : Nat) (ys xs zs : List Nat) : Nat := if hholdN l N ys xs zs = true then 0 else 3
theorem hsg_length (l : Nat) (I seed : List Nat) (i k : Nat) (xs : List Nat) (hl : l = 1 ∨ l = 2) (hk : k < manyN l) : (hsgN l I seed i k xs).length = hszN l (lszN i) := by
  unfold hsgN hszN
  rcases hl with rfl | rfl
  · exact hsig1_length I seed i k xs hk
  · exact hsig2_length I seed i (k / 32) (k % 32) xs (by have : k < 1024 := hk; omega) (by omega)
theorem hsg_bytes (l : Nat) (I seed : List Nat) (i k : Nat) (xs : List Nat) (hl : l = 1 ∨ l = 2) (hi : i < 4) (hI : Bytes I) (hs : Bytes seed) : Bytes (hsgN l I seed i k xs) := by
  unfold hsgN
  rcases hl with rfl | rfl
  · exact hsig1_bytes I seed i k xs hi hI hs
  · exact hsig2_bytes I seed i (k / 32) (k % 32) xs hi hI hs
theorem hsg_holds (l : Nat) (I seed : List Nat) (i k : Nat) (xs : List Nat) (hl : l = 1 ∨ l = 2) (hk : k < manyN l) (hi : i < 4) (hI : I.length = 16) : hanN l (lszN i) (lpubN I seed i) xs (hsgN l I seed i k xs) = 0 := by
  have h : hholdN l (lszN i) (lpubN I seed i) xs (hsgN l I seed i k xs) = true := by
    unfold hholdN hsgN
    rcases hl with rfl | rfl
    · exact hsig1_holds I seed i k xs hi hk hI
    · exact hsig2_holds I seed i (k / 32) (k % 32) xs hi (by have : k < 1024 := hk; omega) (by omega) hI
  unfold hanN
  rw [h]
  rfl
theorem hpub_code (I seed : List Nat) (i l : Nat) (hi : i < 4) : val ((((hpubN I seed i l).drop 4).drop 4).take 4) = i + 1 := by
  rw [hpub_drop]
  unfold lpubN
  rw [List.append_assoc, List.append_assoc, List.drop_left' (beN_length _ _), List.take_left' (beN_length _ _), val_beN]
  have h : i = 0 ∨ i = 1 ∨ i = 2 ∨ i = 3 := by omega
  rcases h with rfl | rfl | rfl | rfl <;> rfl
theorem hpub_bytes (I seed : List Nat) (i l : Nat) (hi : i < 4) (hI : Bytes I) (hs : Bytes seed) : Bytes (hpubN I seed i l) := app_bytes (beN_bytes _ _) (lpubN_bytes I seed i hi hI hs)
/-- The program's Verify of a signature of the right length. -/
theorem hverify_n (I seed ms zs : List Nat) (l i : Nat) (A B C : Option Addr) (c m1 c1 m2 c2 : Nat) (w : World) (hl : l = 1 ∨ l = 2) (hI : I.length = 16) (hIb : Bytes I) (hsb : Bytes seed) (hi : i < 4) (hp : Sr w A (hpubN I seed i l)) (hms : ms.length = m1) (hpm : Sr w B ms) (hbm : Bytes ms) (hc1 : m1 ≤ c1) (hm1 : m1 ≤ 100000) (hz : zs.length = m2) (hpz : Sr w C zs) (hbz : Bytes zs) (hk : KAt w) (hki : KI w) (he : m2 = hszN l (lszN i)) :
    Calls Tryz.prog 13 #[.slice A 60 c, .slice B m1 c1, .slice C m2 c2] w fun e w' => e = .returned (.int .i64 ((hanN l (lszN i) (lpubN I seed i) ms zs : Nat) : Int)) ∧ Below w.heap.size w w' := by
  rcases hl with rfl | rfl
  · have h := hverify_1 (hpubN I seed i 1) ms zs i A B C c m1 c1 m2 c2 w (hpub_length I seed i 1 hI) hp (hpub_bytes I seed i 1 hi hIb hsb) (hform_hpub I seed i 1 hi (.inl rfl) hI) (hpub_take I seed i 1 (by decide)) hi (hpub_code I seed i 1 hi) hms hpm hbm hc1 hm1 hz hpz hbz hk hki he
    rw [hpub_drop] at h
    exact h
  · have h := hverify_2 (hpubN I seed i 2) ms zs i A B C c m1 c1 m2 c2 w (hpub_length I seed i 2 hI) hp (hpub_bytes I seed i 2 hi hIb hsb) (hform_hpub I seed i 2 hi (.inr rfl) hI) (hpub_take I seed i 2 (by decide)) hi (hpub_code I seed i 2 hi) hms hpm hbm hc1 hm1 hz hpz hbz hk hki he
    rw [hpub_drop] at h
    exact h
/-- The reference's VerifyKey of a signature of the right length. -/
theorem refkey_n (I seed ms zs : List Nat) (l i : Nat) (A B C : Option Addr) (c m1 c1 m2 c2 : Nat) (w : World) (hl : l = 1 ∨ l = 2) (hI : I.length = 16) (hIb : Bytes I) (hsb : Bytes seed) (hi : i < 4) (hp : Sr w A (hpubN I seed i l)) (hc : 60 ≤ c) (hms : ms.length = m1) (hpm : Sr w B ms) (hbm : Bytes ms) (hm1 : m1 ≤ 100000) (hz : zs.length = m2) (hpz : Sr w C zs) (hbz : Bytes zs) (hz2 : m2 ≤ c2) (he : m2 = hszN l (lszN i)) :
    Calls Tryz.prog 14 #[.slice A 60 c, .slice B m1 c1, .slice C m2 c2] w fun e w' => e = .returned (.int .i64 ((hanN l (lszN i) (lpubN I seed i) ms zs : Nat) : Int)) ∧ Below w.heap.size w w' := by
  have hf : ∀ l, formN ((hpubN I seed i l).drop 4) = true := fun l => by rw [hpub_drop]; exact formN_lpub I seed i hi hI
  have h9 : lszN i ≤ 9000 := by unfold lszN; have := kd_p i hi; omega
  rcases hl with rfl | rfl
  · have h := refkey_full1 (hpubN I seed i 1) ms zs (lszN i) A B C c m1 c1 m2 c2 w (hpub_length I seed i 1 hI) hp (hpub_bytes I seed i 1 hi hIb hsb) hc (hpub_take I seed i 1 (by decide)) (hf 1) hms hpm hbm hm1 hz hpz hbz hz2 (by have : m2 = 4 + lszN i := he; omega) he
    rw [hpub_drop] at h
    exact h
  · have h := refkey_full2 (hpubN I seed i 2) ms zs i A B C c m1 c1 m2 c2 w (hpub_length I seed i 2 hI) hp (hpub_bytes I seed i 2 hi hIb hsb) hc (hpub_take I seed i 2 (by decide)) (hf 2) hi (hpub_code I seed i 2 hi) hms hpm hbm hm1 hz hpz hbz hz2 he
    rw [hpub_drop] at h
    exact h
/-- Verify of a signature of another length. -/
theorem hverify_no (I seed : List Nat) (l i : Nat) (A B C : Option Addr) (c m1 c1 m2 c2 : Nat) (w : World) (hl : l = 1 ∨ l = 2) (hI : I.length = 16) (hIb : Bytes I) (hsb : Bytes seed) (hi : i < 4) (hp : Sr w A (hpubN I seed i l)) (hki : KI w) (hne : m2 ≠ hszN l (lszN i)) :
    Calls Tryz.prog 13 #[.slice A 60 c, .slice B m1 c1, .slice C m2 c2] w fun e w' => e = .returned (.int .i64 3) ∧ Below w.heap.size w w' := by
  rcases hl with rfl | rfl
  · exact hverify_len1 (hpubN I seed i 1) i A B C c m1 c1 m2 c2 w (hpub_length I seed i 1 hI) hp (hpub_bytes I seed i 1 hi hIb hsb) (hform_hpub I seed i 1 hi (.inl rfl) hI) (hpub_take I seed i 1 (by decide)) hi (hpub_code I seed i 1 hi) hki hne
  · exact hverify_len2 (hpubN I seed i 2) i A B C c m1 c1 m2 c2 w (hpub_length I seed i 2 hI) hp (hpub_bytes I seed i 2 hi hIb hsb) (hform_hpub I seed i 2 hi (.inr rfl) hI) (hpub_take I seed i 2 (by decide)) hi (hpub_code I seed i 2 hi) hki hne
/-- Sign of a new key. -/
theorem hsgn_t (I seed xs : List Nat) (v i l gu g k b0 : Nat) (P : Option Addr) (m cc : Nat) (w : World) (hl : l = 1 ∨ l = 2) (hk : k < manyN l) (hI : I.length = 16) (hIb : Bytes I) (hs : seed.length = 32) (hsb : Bytes seed) (hi : i < 4) (hv : v = (kd i).w) (hx : xs.length = m) (hxb : Bytes xs) (hcc : m ≤ cc) (hml : m ≤ 100000)
    (hB : Blk w g 62 (keyC I seed v l gu (lowN 32))) (hU : Stands w gu I seed v i) (hne : g ≠ gu) (hb0 : b0 ≤ g ∧ b0 ≤ gu)
    (EV : ∀ W, Below b0 w W → Sr W P xs ∧ KAt W ∧ KI W) (hg1 : 1 ≠ g) (hg2 : 0 ≠ g) :
    Calls Tryz.prog 8 #[.pointer (some ⟨g, 0, none⟩), .int .i64 (k : Int), .slice P m cc] w fun e w' => ∃ u lows, e = .returned (.tuple #[u, .int .i64 0]) ∧ w'.ownsRow w.heap.size 5 1 u (hsgN l I seed i k xs).length (u8s (hsgN l I seed i k xs)) ∧ Blk w' g 62 (keyC I seed v l gu lows) ∧ Stands w' gu I seed v i ∧ Kept (fun k => k = g ∨ k = gu) w w' := by
  have hgl := hB.lt
  have hgul := hU.lt
  rcases hl with rfl | rfl
  · refine (hsign1_t I seed xs v i gu k g (lowN 32) P m cc w hI hIb hs hsb hi hv hk hx hxb hcc hml hB hU (fun W h => EV W (h.mono (by omega)))).mono ?_
    rintro e w' ⟨u, rfl, o, st, kp⟩
    exact ⟨u, lowN 32, rfl, o, hB.kept kp hne, st, kp.mono (fun k e => .inr e)⟩
  · have h10 : k < 1024 := hk
    refine (hsign2_t I seed xs v i gu (k / 32) (k % 32) 0 g k b0 none P m cc w hI hIb hs hsb hi hv (by omega) (by omega) (by omega) hx hxb hcc hml ⟨_, hB, lowN_is (k / 32) (by omega)⟩ (.inl ⟨rfl, rfl⟩) hU hne (fun _ e => by cases e) hb0 EV hg1 hg2).mono ?_
    rintro e w' ⟨u, gl, rfl, o, kb, st, _, hgl2, _, kp⟩
    obtain ⟨lows, kb2, _⟩ := kb.is
    refine ⟨u, lows, rfl, o, kb2, st, ⟨kp.os, kp.tape, kp.output, kp.size, fun j hj hn => kp.block j hj (fun e => ?_)⟩⟩
    rcases e with e | e | e
    · exact hn (.inl e)
    · exact hn (.inr e)
    · rcases hgl2.2.2.2 with h | h
      · omega
      · cases h
/-- The reference's Sign. -/
theorem hrsgn_t (I seed xs : List Nat) (v i l k g gx : Nat) (P : Option Addr) (m cc : Nat) (w : World) (hl : l = 1 ∨ l = 2) (hk : k < manyN l) (hI : I.length = 16) (hIb : Bytes I) (hs : seed.length = 32) (hsb : Bytes seed) (hi : i < 4) (hv : v = (kd i).w) (hx : xs.length = m) (hp : Sr w P xs) (hxb : Bytes xs) (hml : m ≤ 100000) (hK : Blk w g 66 (rkC l gx)) (hT : Blk w gx 79 (rtC I seed v (nod I seed i 63))) :
    Calls Tryz.prog 12 #[.pointer (some ⟨g, 0, none⟩), .int .i64 (k : Int), .slice P m cc] w fun e w' => ∃ u, e = .returned u ∧ Fresh 5 w w' u (hsgN l I seed i k xs) := by
  rcases hl with rfl | rfl
  · exact refksign1_t I seed xs v i k g gx P m cc w hI hIb hs hsb hi hv hk hx hp hxb hml hK hT
  · have h10 : k < 1024 := hk
    exact refksign2_t I seed xs v i k (k / 32) (k % 32) g gx P m cc w hI hIb hs hsb hi hv (by omega) (by omega) (by omega) hx hp hxb hml hK hT
end Go.Proofs.YtohgggblnnokeaaGreatDoor
namespace Go.Proofs.YtohgggblnnokeaaGreatDoor
open Go Go.RowKit Sh

/-- What the law has laid down: its key, the reference's. -/
structure HAs (w0 W : World) (g gu y yx l : Nat) (I seed : List Nat) (lows : List Value) : Prop where
  key : Blk W g 62 (keyC I seed 2 l gu lows)
  st : Stands W gu I seed 2 1
  rk : Blk W y 66 (rkC l yx)
  rt : Blk W yx 79 (rtC I seed 2 (nod I seed 1 63))
  ne : g ≠ gu ∧ y ≠ g ∧ y ≠ gu ∧ yx ≠ g ∧ yx ≠ gu
  ge : w0.heap.size ≤ g ∧ w0.heap.size ≤ gu
  bel : Below w0.heap.size w0 W
theorem HAs.below {w0 W W' : World} {g gu y yx l : Nat} {I seed : List Nat} {lows : List Value} (h : HAs w0 W g gu y yx l I seed lows) (hb : Below W.heap.size W W') : HAs w0 W' g gu y yx l I seed lows :=
  ⟨h.key.below hb h.key.lt, h.st.below hb, h.rk.below hb h.rk.lt, h.rt.below hb h.rt.lt, h.ne, h.ge, h.bel.trans (hb.mono h.bel.size)⟩
theorem HAs.keptY {w0 W W' : World} {g gu y yx l : Nat} {I seed : List Nat} {lows lows' : List Value} (h : HAs w0 W g gu y yx l I seed lows) (hk : Kept (fun k => k = g ∨ k = gu) W W') (kb : Blk W' g 62 (keyC I seed 2 l gu lows')) (st : Stands W' gu I seed 2 1) : HAs w0 W' g gu y yx l I seed lows' :=
  ⟨kb, st, h.rk.kept hk (fun e => by have := h.ne; omega), h.rt.kept hk (fun e => by have := h.ne; omega), h.ne, h.ge, h.bel.trans (kept_b hk (fun k e => by have := h.ge; omega) h.bel.size)⟩
theorem HAs.butY {w0 W W' : World} {g gu y yx l : Nat} {I seed : List Nat} {lows : List Value} (h : HAs w0 W g gu y yx l I seed lows) (hb : But W.heap.size gu W W') (st : Stands W' gu I seed 2 1) : HAs w0 W' g gu y yx l I seed lows :=
  ⟨h.key.but hb h.key.lt h.ne.1, st, h.rk.but hb h.rk.lt h.ne.2.2.1, h.rt.but hb h.rt.lt h.ne.2.2.2.2, h.ne, h.ge, h.bel.trans (but_belowH hb h.ge.2 h.bel.size)⟩
theorem append_bytes_g {P : Program} {ops : Array Oper} {rest : List Oper} {o : Oper} {a : Act} {Q : Exit → Act → World → Prop} {w : World} (s x : Operand) (t : TypeId) (hw : Region.wanted o (yielded ops a.tmps) = true) (ho : o.op = .call { callee := .builtin .append, args := #[s, x], argTypes := #[t, t] })
    (e : TypeId) (ht : P.underlying t = some (.slice e)) (hi : (P.info? e).map (fun i => (i.zero, i.size, i.bytes)) = some (some (.int .u8 0), 1, 1)) (base : Nat) (v : Value) (n : Nat) (xs ys : List Nat) (hs : a.eval s = v)
    (hown : w.ownsRow base e 1 v n (u8s xs)) (p : Option Addr) (m c : Nat) (hx : a.eval x = .slice p m c) (hm : ys.length = m) (hp : Sr w p ys) (h63 : n + m ≤ 70368744177664) (hbase : base ≤ w.heap.size)
    (h : ∀ v' w', Hid (w'.ownsRow base e 1 v' (n + m) (u8s (xs ++ ys))) → Hid (w.grownBy w' v.ownBlock) → Hid (v'.ownBlock = v.ownBlock ∨ v'.ownBlock = some w.heap.size) → wpList P ops Q rest (a.put o.dst v') w') : wpList P ops Q (o :: rest) a w :=
  BigFrame.wpList_want hw fun _ hK => wp_append_bytes s x t ho e ht hi base v n xs ys hs hown p m c hx hm hp h63 hbase fun v' w' h2 h3 h5 => hK _ _ (h v' w' h2 h3 h5)
set_option maxRecDepth 100000 in
set_option maxHeartbeats 20000000 in
theorem hasks_t (I seed xs : List Nat) (lv n0 at_ : Int) (x : Nat) (P0 : Option Addr) (m cc : Nat) (w : World) (hI : I.length = 16) (hIb : Bytes I) (hs : seed.length = 32) (hsb : Bytes seed) (hx : xs.length = m) (hp : Sr w P0 xs) (hxb : Bytes xs) (hcc : m ≤ cc) (hml : m ≤ 9223372036854775807) (hx8 : x < 256) (hk : KAt w) (hki : KI w) :
    Calls Tryz.prog 3 #[.agg (u8s (I ++ seed)).toArray, .int .i64 lv, .int .i64 n0, .slice P0 m cc, .int .i64 at_, .int .u8 (x : Int)] w fun e w' => e = .returned (.bool true) ∧ Below w.heap.size w w' := by
  have HIS := Lib.hid (show (I ++ seed).length = 48 by rw [List.length_append, hI, hs])
  have S0 := Lib.hid (Blk.new w 26 (u8s (I ++ seed)))
  have B0 := Lib.hid ((Below.refl w.heap.size w).alloc (Nat.le_refl _) (.cells (u8s (I ++ seed)).toArray 26))
  have TO := Lib.hid (fun W (h : Below w.heap.size w W) => htold_t W (hki.kept h))
  by_cases hbig : 60 < m
  · have m1 : (60 : Int) < (m : Int) := by omega
    clear hI hIb hs hsb hx hp hxb hcc hk hki hbig
    go_enter Tryz.func3, Tryz.ntmps3
    go_wp2_with fail
    refine (TO.out _ B0.out).mono ?_
    rintro e w2 ⟨rfl, b2⟩
    go_wp2_with fail
    go_ret
    exact ⟨rfl, B0.out.trans (b2.mono B0.out.size)⟩
  · have m1 : (m : Int) ≤ 60 := by omega
    have m2 : m ≤ 60 := by omega
    obtain ⟨i2, hi2, hie⟩ := mod_of 2 (by decide) (by decide) lv
    rw [show ((2 : Nat) : Int) = 2 from rfl] at hie
    obtain ⟨l, hle⟩ : ∃ l, 1 + i2 = l := ⟨_, rfl⟩
    have hl : l = 1 ∨ l = 2 := by omega
    have hvl : (1 : Int) + (i2 : Int) = (l : Int) := by omega
    have hM := manyN_pos l
    have hor : bits .or .i64 ((manyN l : Nat) : Int) 1 = ((manyN l + 1 : Nat) : Int) := by rcases hl with rfl | rfl <;> decide +kernel
    obtain ⟨k, hk1, hke⟩ := mod_big (manyN l + 1) (by omega) (by omega) n0
    have hkl := hk.lt; have hkil := hki.lt
    have NW := Lib.hid (fun W (h : Below w.heap.size w W) => hnew_ok I seed 2 1 l W hI hs (by decide) rfl hl (hk.below h hk.lt) (hki.kept h))
    have RN := Lib.hid (fun W => refnewkey_t I seed 2 1 l W hI hIb hs hsb (by decide) rfl)
    have MN := Lib.hid (fun W => many_t l hl W)
    have SG := Lib.hid (fun W g gu y yx k (hk2 : k < manyN l) (h : HAs w W g gu y yx l I seed (lowN 32)) => hsgn_t I seed xs 2 1 l gu g k w.heap.size P0 m cc W hl hk2 hI hIb hs hsb (by decide) rfl hx hxb hcc (by omega) h.key h.st h.ne.1 h.ge (fun V hV => ⟨hp.below (h.bel.trans hV), hk.below (h.bel.trans hV) hk.lt, hki.kept (h.bel.trans hV)⟩) (by have := h.ge; omega) (by have := h.ge; omega))
    have RS := Lib.hid (fun W g gu y yx k lows (hk2 : k < manyN l) (h : HAs w W g gu y yx l I seed lows) => hrsgn_t I seed xs 2 1 l k y yx P0 m cc W hl hk2 hI hIb hs hsb (by decide) rfl hx (hp.below h.bel) hxb (by omega) h.rk h.rt)
    have PB := Lib.hid (fun W g gu y yx lows (h : HAs w W g gu y yx l I seed lows) => hpub_t I seed 2 1 l gu g lows W hI hIb hs hsb (by decide) rfl hl h.key h.st (hk.below h.bel hk.lt) (hki.kept h.bel))
    have RP := Lib.hid (fun W g gu y yx lows (h : HAs w W g gu y yx l I seed lows) => show Calls Tryz.prog 11 #[.pointer (some ⟨y, 0, none⟩)] W fun e w' => ∃ u, e = .returned u ∧ Fresh 5 W w' u (hpubN I seed 1 l) from refkpub_t I seed 2 1 l y yx W hI hs (by decide) rfl hl h.rk h.rt)
    have SN := Lib.hid (fun W g gu y yx lows (h : HAs w W g gu y yx l I seed lows) => hsign_neg I seed 2 l gu g lows (-1) P0 m cc W hI hs h.key (by decide))
    have SM := Lib.hid (fun W g gu y yx lows (h : HAs w W g gu y yx l I seed lows) => hsign_many I seed 2 l gu g lows P0 m cc W hI hs hl h.key)
    have LL := Lib.hid (fun k (hk2 : k < manyN l) => hsg_length l I seed 1 k xs hl hk2)
    have LB := Lib.hid (fun k => hsg_bytes l I seed 1 k xs hl (by decide) hIb hsb)
    have LH := Lib.hid (fun k (hk2 : k < manyN l) => hsg_holds l I seed 1 k xs hl hk2 (by decide) hI)
    have UL := Lib.hid (hpub_length I seed 1 l hI)
    have UB := Lib.hid (hpub_bytes I seed 1 l (by decide) hIb hsb)
    have VF := Lib.hid (fun W (A C : Option Addr) (c1 N c2 : Nat) (S : List Nat) (hN : N = hszN l (lszN 1)) (ha : Sr W A (hpubN I seed 1 l)) (hc : Sr W C S) (hS : S.length = N) (hSb : Bytes S) (h : Below w.heap.size w W) =>
      hverify_n I seed xs S l 1 A P0 C c1 m cc N c2 W hl hI hIb hsb (by decide) ha hx (hp.below h) hxb hcc (by omega) hS hc hSb (hk.below h hk.lt) (hki.kept h) hN)
    have RV := Lib.hid (fun W (A C : Option Addr) (c1 N c2 : Nat) (S : List Nat) (hN : N = hszN l (lszN 1)) (ha : Sr W A (hpubN I seed 1 l)) (hc1 : 60 ≤ c1) (hc : Sr W C S) (hS : S.length = N) (hSb : Bytes S) (hc2 : N ≤ c2) (h : Below w.heap.size w W) =>
      refkey_n I seed xs S l 1 A P0 C c1 m cc N c2 W hl hI hIb hsb (by decide) ha hc1 hx (hp.below h) hxb (by omega) hS hc hSb hc2 hN)
    have VL := Lib.hid (fun W (A C : Option Addr) (c1 N n c2 : Nat) (hN : N = hszN l (lszN 1)) (ha : Sr W A (hpubN I seed 1 l)) (hn : n ≠ N) (h : Below w.heap.size w W) =>
      hverify_no I seed l 1 A P0 C c1 m cc n c2 W hl hI hIb hsb (by decide) ha (hki.kept h) (fun e => hn (e.trans hN.symm)))
    obtain ⟨N, hN⟩ : ∃ N, N = hszN l (lszN 1) := ⟨_, rfl⟩
    have hN1 : 4000 ≤ N ∧ N ≤ 9000 := by rw [hN]; rcases hl with rfl | rfl <;> decide
    obtain ⟨j, hj, hje⟩ := mod_big N (by omega) (by omega) at_
    have VF := Lib.hid (fun W A C c1 c2 S => VF.out W A C c1 N c2 S hN)
    have RV := Lib.hid (fun W A C c1 c2 S => RV.out W A C c1 N c2 S hN)
    have VL := Lib.hid (fun W A C c1 n c2 => VL.out W A C c1 N n c2 hN)
    rw [← hN] at LL
    obtain ⟨M, hMM⟩ : ∃ x, manyN l = x := ⟨_, rfl⟩
    obtain ⟨zf, hzf⟩ : ∃ f, hanN l (lszN 1) (lpubN I seed 1) xs = f := ⟨_, rfl⟩
    obtain ⟨pub, hpub⟩ : ∃ x, hpubN I seed 1 l = x := ⟨_, rfl⟩
    simp only [hMM] at SG RS MN SM LL LH hor hk1 hke hM
    simp only [hzf] at VF RV LH
    simp only [hpub] at PB RP UL UB VF RV VL
    obtain ⟨M1, hM1⟩ : ∃ x, M + 1 = x := ⟨_, rfl⟩
    rw [hM1] at hor hk1 hke
    have wm1 : IntKind.u64.wrap (M1 : Int) = (M1 : Int) := by simp [IntKind.wrap, IntKind.bits, IntKind.signed]; omega
    have wn1 : IntKind.u64.wrap (N : Int) = (N : Int) := by simp [IntKind.wrap, IntKind.bits, IntKind.signed]; omega
    have m10 : ¬ ((M1 : Int) = 0) := by omega
    have n10 : ¬ ((N : Int) = 0) := by omega
    have n11 : ((N : Int) == 0) = false := by rw [beq_eq_false_iff_ne]; exact n10
    have hX8 := Lib.hid hx8
    clear hI hIb hs hsb hx hp hxb hcc hk hki hbig hl hle hMM hzf hpub hN hkl hkil
    go_enter Tryz.func3, Tryz.ntmps3
    go_upto_region 4 with (fail)
    clear hie hvl hi2
    go_wp2_with ((with_reducible refine load_blk 26 (.tmp 6) w.heap.size 26 (u8s (I ++ seed)) _ rfl rfl ?_ Tryz.underlying26 ?_ ?_ ?_ ?_); exact S0.out; exact rfl; exact size48 _ HIS.out; exact rfl)
    refine (NW.out _ B0.out).mono ?_
    rintro e w1 ⟨g, gu, rfl, kb1, st1, hg, hgg, b1⟩
    have K1 := Lib.hid kb1; have ST1 := Lib.hid st1; have S1 := Lib.hid (S0.out.below b1 S0.out.lt); have B1 := Lib.hid (B0.out.trans (b1.mono B0.out.size))
    have hgs : w.heap.size < gu := by have := S0.out.lt; omega
    clear kb1 st1 hg b1 S0 B0 NW
    go_wp2_with ((with_reducible refine load_blk 26 (.tmp 6) w.heap.size 26 (u8s (I ++ seed)) _ rfl rfl ?_ Tryz.underlying26 ?_ ?_ ?_ ?_); exact S1.out; exact rfl; exact size48 _ HIS.out; exact rfl)
    refine (RN.out w1).mono ?_
    rintro e w2 ⟨y, yx, rfl, rk2, rt2, hyx, hyy, b2⟩
    have L2 := Lib.hid (show HAs w w2 g gu y yx l I seed (lowN 32) from ⟨K1.out.below b2 K1.out.lt, ST1.out.below b2, rk2, rt2, by have := K1.out.lt; have := ST1.out.lt; omega, by omega, B1.out.trans (b2.mono B1.out.size)⟩)
    clear rk2 rt2 hyx hyy b2 S1 K1 ST1 B1 RN hgg hgs
    go_wp2_with fail
    refine (MN.out w2).mono ?_
    rintro e w3 ⟨rfl, rfl⟩
    go_upto_region 9 with (fail)
    simp only [hke]
    clear hke wm1 m10 hor
    have hkM : k ≤ M := by omega
    clear hk1 hM1
    go_cut [62] (fun s62 wx => s62 = .bool (decide ((M : Int) ≤ (k : Int))) ∧ HAs w wx g gu y yx l I seed (lowN 32))
    case first =>
      go_wp2_with fail
      refine (MN.out w2).mono ?_
      rintro e w3 ⟨rfl, rfl⟩
      go_wp2_with fail
      go_meet
      exact ⟨by simp, L2.out⟩
    case rest =>
    obtain ⟨rfl, h3⟩ := hcut
    have L3 := Lib.hid h3
    clear h3 L2
    go_upto_if 62 with (fail)
    go_cut [17] (fun s17 wx => ∃ q : Nat, s17 = .int .i64 (q : Int) ∧ q < M ∧ HAs w wx g gu y yx l I seed (lowN 32))
    case first =>
      by_cases h : (M : Int) ≤ (k : Int)
      · rw [decide_eq_true h]
        clear h
        go_wp2_with fail
        go_meet
        exact ⟨0, rfl, by omega, L3.out⟩
      · rw [decide_eq_false h]
        have hkm : k < M := by omega
        clear h
        go_wp2_with fail
        go_meet
        exact ⟨k, rfl, hkm, L3.out⟩
    case rest =>
    obtain ⟨q, rfl, hq, h4⟩ := hcut
    have L4 := Lib.hid h4
    have SGq := Lib.hid (fun W (h : HAs w W g gu y yx l I seed (lowN 32)) => SG.out W g gu y yx q hq h)
    have RSq := Lib.hid (fun W lows (h : HAs w W g gu y yx l I seed lows) => RS.out W g gu y yx q lows hq h)
    have LLq := Lib.hid (LL.out q hq); have LBq := Lib.hid (LB.out q); have LHq := Lib.hid (LH.out q hq)
    obtain ⟨sg, hsg⟩ : ∃ x, hsgN l I seed 1 q xs = x := ⟨_, rfl⟩
    simp only [hsg] at SGq RSq LLq LBq LHq
    clear hsg SG RS LL LB LH h4 L3 hkM hM hq
    go_wp2_with fail
    refine (SGq.out _ L4.out).mono ?_
    rintro e w5 ⟨u, lows, rfl, o5, kb5, st5, k5⟩
    rw [LLq.out] at o5
    obtain ⟨ga, ca, rest, rfl, hca, hga, ba5⟩ := own_blkp o5 (by omega)
    have hgl4 := L4.out.key.lt; have hul4 := L4.out.st.lt
    have L5 := Lib.hid (L4.out.keptY k5 kb5 st5); have O5 := Lib.hid o5; have HCA := Lib.hid hca
    have gan : ga ≠ gu := by omega
    have gal : ga < w5.heap.size := ba5.lt
    clear o5 kb5 st5 k5 ba5 hca L4 SGq rest
    go_wp2_with fail
    refine (PB.out w5 _ _ _ _ _ L5.out).mono ?_
    rintro e w6 ⟨u, rfl, o6, st6, b6⟩
    obtain ⟨gp, cp, restp, rfl, hcp, hgp, bp6⟩ := own_blkp o6 (by decide)
    have L6 := Lib.hid (L5.out.butY b6 st6)
    have S6 := Lib.hid (Sr.of_own (own_of_but O5.out b6 gal gan)); have T6 := Lib.hid (Sr.of_own o6); have HCP := Lib.hid hcp
    clear o6 st6 b6 bp6 hcp hgp restp L5 O5 PB gan gal hga hgl4 hul4
    go_wp2_with fail
    refine (RP.out w6 _ _ _ _ _ L6.out).mono ?_
    rintro e w7 ⟨u, rfl, fr⟩
    obtain ⟨A7, c7, rfl, _, s7, b7⟩ := fresh_opn fr
    have L7 := Lib.hid (L6.out.below b7); have S7 := Lib.hid (S6.out.below b7); have T7 := Lib.hid (T6.out.below b7); have U7 := Lib.hid s7
    clear fr s7 b7 L6 S6 T6 RP
    rw [UL.out]
    go_wp2_with fail
    refine (same_texts pub pub _ A7 60 60 cp c7 w7 UL.out UL.out T7.out U7.out UB.out UB.out).mono ?_
    rintro e w8 ⟨rfl, rfl⟩
    rw [show decide (pub = pub) = true from decide_eq_true rfl]
    clear U7
    go_wp2_with fail
    refine (RSq.out w7 _ L7.out).mono ?_
    rintro e w8 ⟨u, rfl, fr⟩
    obtain ⟨A8, c8, rfl, _, s8, b8⟩ := fresh_opn fr
    have L8 := Lib.hid (L7.out.below b8); have S8 := Lib.hid (S7.out.below b8); have T8 := Lib.hid (T7.out.below b8); have U8 := Lib.hid s8
    clear fr s8 b8 L7 S7 T7 RSq
    rw [LLq.out]
    go_wp2_with fail
    refine (same_texts sg sg _ A8 N N ca c8 w8 LLq.out LLq.out S8.out U8.out LBq.out LBq.out).mono ?_
    rintro e w9 ⟨rfl, rfl⟩
    rw [show decide (sg = sg) = true from decide_eq_true rfl]
    clear U8
    go_wp2_with fail
    refine (VF.out w8 _ _ cp ca sg T8.out S8.out LLq.out LBq.out L8.out.bel).mono ?_
    rintro e wa ⟨rfl, b⟩
    rw [LHq.out]
    have LA := Lib.hid (L8.out.below b); have SA := Lib.hid (S8.out.below b); have TA := Lib.hid (T8.out.below b)
    clear b L8 S8 T8 LHq
    have SE := Lib.hid (SA.out.below ((Below.refl wa.heap.size wa).alloc (Nat.le_refl _) (.cells #[] 5)))
    go_upto_region 16 with ((with_reducible refine at_op (.call { callee := .builtin .append, args := #[.tmp 102, .tmp 103], argTypes := #[27, 27] }) rfl ?_); go_must (refine append_bytes (.tmp 102) (.tmp 103) 27 rfl rfl 5 Tryz.underlying27 byte_info wa.heap.size (.slice (some ⟨wa.heap.size, 0, none⟩) 0 0) 0 [] sg rfl (own_empty _ _ _ (Nat.le_refl _) rfl) (some ⟨ga, 0, none⟩) N ca rfl LLq.out SE.out (by omega) (by simp) ?_); intro v1 wb a1 a2 a3)
    have bk : Below wa.heap.size wa wb := ((Below.refl wa.heap.size wa).alloc (Nat.le_refl _) (.cells #[] 5)).grown a2.out (by simp) (fun k e => by have := Option.some.inj e; simp at this; omega)
    have o1 := a1.out
    rw [List.nil_append, Nat.zero_add] at o1
    obtain ⟨gc, cc1, rest, rfl, hcc1, hgc, bc⟩ := own_blkp o1 (by omega)
    have HBK := Lib.hid bk; have OB := Lib.hid o1; have HCC1 := Lib.hid hcc1
    have cj : wb.cell? ⟨gc, j, none⟩ = some (.int .u8 ((gt sg j : Nat) : Int)) := by rw [o1.cellAt j (by omega), u8s_get _ _ (by rw [LLq.out]; exact hj)]
    have fj := o1.frozenAt j
    have hxx := xor_u8n (gt sg j) x (LBq.out j) hX8.out
    have i1 : (j : Int) < (N : Int) := by omega
    clear bk o1 a1 a2 a3 hcc1 bc rest SE
    go_upto_region 18 with (fail)
    rw [hje]
    clear cj fj hje hxx wn1 n10 n11
    have TL := Lib.hid (show (sg.set j (gt sg j ^^^ x)).length = N by rw [List.length_set, LLq.out])
    have TB := Lib.hid (set_bytes LBq.out j x hX8.out)
    have hs1 := slice_high (P := Tryz.prog) (t := 27) (e := 5) Tryz.underlying27 byte_size (some ⟨ga, 0, none⟩) N ca .i64 j (by have := HCA.out; omega)
    have hs2 := slice_high (P := Tryz.prog) (t := 27) (e := 5) Tryz.underlying27 byte_size (some ⟨gp, 0, none⟩) 60 cp .i64 59 (by have := HCP.out; omega)
    rw [show ((59 : Nat) : Int) = 59 from rfl] at hs2
    have EVA := Lib.hid (fun W (h : Below wa.heap.size wa W) => (⟨LA.out.below h, SA.out.below h, TA.out.below h⟩ : HAs w W g gu y yx l I seed lows ∧ Sr W (some ⟨ga, 0, none⟩) sg ∧ Sr W (some ⟨gp, 0, none⟩) pub))
    refine world_is (fun Y => Below wa.heap.size wa Y ∧ Y.ownsRow wa.heap.size 5 1 (.slice (some ⟨gc, 0, none⟩) N cc1) N (u8s (sg.set j (gt sg j ^^^ x)))) ⟨HBK.out.setCell (p := ⟨gc, j, none⟩) hgc _, own_turn OB.out j _⟩ ?_
    clear HBK OB
    rintro Y ⟨h, hc⟩
    have HY := Lib.hid h; have OC := Lib.hid hc
    obtain ⟨T, hT⟩ : ∃ T, sg.set j (gt sg j ^^^ x) = T := ⟨_, rfl⟩
    rw [hT] at TL TB OC
    clear h hc hT
    go_wp2_with fail
    refine (VF.out Y _ _ cp cc1 T (EVA.out Y HY.out).2.2 (Sr.of_own OC.out) TL.out TB.out (EVA.out Y HY.out).1.bel).mono ?_
    rintro e v1 ⟨rfl, b⟩
    have H1 := Lib.hid (HY.out.trans (b.mono HY.out.size)); have C1 := Lib.hid (own_below OC.out b)
    clear b HY OC
    go_wp2_with fail
    refine (RV.out v1 _ _ cp cc1 T (EVA.out v1 H1.out).2.2 HCP.out (Sr.of_own C1.out) TL.out TB.out HCC1.out (EVA.out v1 H1.out).1.bel).mono ?_
    rintro e v2 ⟨rfl, b⟩
    have H2 := Lib.hid (H1.out.trans (b.mono H1.out.size)); have C2 := Lib.hid (own_below C1.out b)
    obtain ⟨z3, hz3⟩ : ∃ z, zf T = z := ⟨_, rfl⟩
    rw [hz3]
    clear b H1 C1 hz3
    go_wp2_with fail
    refine (VL.out v2 _ _ cp j _ (EVA.out v2 H2.out).2.2 (by omega) (EVA.out v2 H2.out).1.bel).mono ?_
    rintro e v3 ⟨rfl, b⟩
    have H3 := Lib.hid (H2.out.trans (b.mono H2.out.size)); have C3 := Lib.hid (own_below (own_below C2.out b) ((Below.refl _ _).alloc (Nat.le_refl _) (.cells #[.int .u8 0] 5)))
    have B3 := Lib.hid (H3.out.alloc H3.out.size (.cells #[.int .u8 0] 5))
    have M3 := Lib.hid (show Sr (v3.alloc (.cells #[.int .u8 0] 5)) (some ⟨v3.heap.size, 0, none⟩) [0] from Sr.made [0] v3 5 (0, 0))
    clear b H2 C2
    have N1 := Lib.hid hN1
    go_wp2_with ((with_reducible refine at_op (.call { callee := .builtin .append, args := #[.tmp 142, .tmp 143], argTypes := #[27, 27] }) rfl ?_); go_must (refine append_bytes_g (.tmp 142) (.tmp 143) 27 (by kernel_rfl) rfl 5 Tryz.underlying27 byte_info wa.heap.size (.slice (some ⟨gc, 0, none⟩) N cc1) N T [0] rfl C3.out (some ⟨v3.heap.size, 0, none⟩) 1 1 rfl rfl M3.out (by have := N1.out; omega) B3.out.size ?_); intro v4 wd a1 a2 a3)
    have B4 := Lib.hid (B3.out.grown a2.out B3.out.size (fun k e => (C3.out.lt k e).1))
    obtain ⟨A4, c4, rfl, _⟩ := own_form a1.out
    clear a1 a2 a3 M3 C3 B3 H3
    refine (VL.out wd _ _ cp (N + 1) _ (EVA.out wd B4.out).2.2 (by omega) (EVA.out wd B4.out).1.bel).mono ?_
    rintro e ve ⟨rfl, b⟩
    have H5 := Lib.hid (B4.out.trans (b.mono B4.out.size))
    clear b B4
    go_wp2_with fail
    refine (hverify_len _ _ _ 59 _ _ _ _ _ _ (by decide) (by decide)).mono ?_
    rintro e vf ⟨rfl, b⟩
    have H6 := Lib.hid (H5.out.trans (b.mono H5.out.size))
    clear b H5
    go_wp2_with fail
    refine (MN.out vf).mono ?_
    rintro e w3 ⟨rfl, rfl⟩
    go_wp2_with fail
    refine (SM.out vf _ _ _ _ _ (EVA.out vf H6.out).1).mono ?_
    rintro e vg ⟨rfl, b⟩
    have H7 := Lib.hid (H6.out.trans (b.mono H6.out.size))
    clear b H6
    go_wp2_with fail
    refine (SN.out vg _ _ _ _ _ (EVA.out vg H7.out).1).mono ?_
    rintro e vh ⟨rfl, b⟩
    have H8 := Lib.hid (H7.out.trans (b.mono H7.out.size))
    clear b H7
    go_wp2_with fail
    refine (TO.out vh (EVA.out vh H8.out).1.bel).mono ?_
    rintro e vi ⟨rfl, b⟩
    have H9 := Lib.hid (H8.out.trans (b.mono H8.out.size))
    clear b H8
    go_wp2_with fail
    go_ret
    exact ⟨by simp, (EVA.out vi H9.out).1.bel⟩
end Go.Proofs.YtohgggblnnokeaaGreatDoor
