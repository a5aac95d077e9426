/-
  PACKAGE lms
-/
import Derived.Test.YtjlophplcmidlaaGreatDoorAd34
import Derived.Test.YtjlophplcmidlaaGreatDoorAd9
import Derived.Test.YtjlophplcmidlaaGreatDoorAd2
import Derived.Test.YtjlophplcmidlaaGreatDoorAd31
import Derived.Test.YtjlophplcmidlaaGreatDoorAd29
import Derived.Test.YtjlophplcmidlaaGreatDoorTk
open Go.Lib (hid)
set_option maxRecDepth 100000
namespace Go.Proofs.YtjlophplcmidlaaGreatDoor
open Go Go.RowKit Sh
def stepX (I:List Nat) (a:Nat) (X B:List Nat):List Nat:=if a % 2=1 then innerV I (a / 2) B X else innerV I (a / 2) X B
theorem stepX_length (I:List Nat) (a:Nat) (X B:List Nat):(stepX I a X B).length=32:=by unfold stepX;split<;>rfl
theorem stepX_bytes (I:List Nat) (a:Nat) (X B:List Nat) (hI:Bytes I) (hX:Bytes X) (hB:Bytes B):Bytes (stepX I a X B):=by
 unfold stepX;split
 ·exact innerV_bytes _ _ _ _ hI hB hX
 ·exact innerV_bytes _ _ _ _ hI hX hB
def climbN (I:List Nat) (a:Nat) (X Y:List Nat):Nat→List Nat
 |0=>X
 |j+1=>stepX I (a / 2 ^ j) (climbN I a X Y j) ((Y.drop (32 * j)).take 32)
theorem climbN_length (I:List Nat) (a:Nat) (X Y:List Nat) (hX:X.length=32):∀ j,(climbN I a X Y j).length=32
 |0=>hX
 |_+1=>stepX_length _ _ _ _
theorem climbN_bytes (I:List Nat) (a:Nat) (X Y:List Nat) (hI:Bytes I) (hX:Bytes X) (hY:Bytes Y):∀ j,Bytes (climbN I a X Y j)
 |0=>hX
 |j+1=>stepX_bytes _ _ _ _ hI (climbN_bytes I a X Y hI hX hY j) (bytes_take (bytes_drop hY _) _)
theorem vstep_gt:∀ q:Nat,q<32→∀ j:Nat,j<5→1< (32+q) / 2 ^ j:=by decide
theorem vstep_end:∀ q:Nat,q<32→(32+q) / 2 ^ 5=1:=by decide
theorem vstep_lt (q j:Nat) (hq:q<32):(32+q) / 2 ^ j<64:=Nat.lt_of_le_of_lt (Nat.div_le_self _ _) (by omega)
theorem vstep_next (q j:Nat):(32+q) / 2 ^ j / 2=(32+q) / 2 ^ (j+1):=by rw[Nat.div_div_eq_div_mul,Nat.pow_succ]
theorem kept_row {F:Nat→Prop} {a w:World} (h:Kept F a w) {g':Nat} (hg:a.heap.size≤g') (c:Array Value):Kept F a (w.setRow g' c):=
 ⟨h.os,h.tape,h.output,by have:=h.size;simpa using this,λk hk hne=>(setRow_other w g' k c (by omega)).trans (h.block k hk hne)⟩
set_option maxHeartbeats 4000000 in
theorem climbed_t (I R K Y:List Nat) (v q g:Nat) (w:World) (hI:I.length=16) (hIb:Bytes I) (hR:R.length=32) (hq:q<32) (hK:K.length=32) (hKb:Bytes K) (hY:160≤Y.length) (hYl:Y.length≤1000000) (hYb:Bytes Y) (hr:Rd w g Y false) (hk:KAt w) (hg1:1≠g):
  Calls Tryz.prog 82 #[.agg (pkv v (I++R)).toArray,.int .i64 ((32+q:Nat):Int),.agg (u8s K).toArray,.pointer (some ⟨g,0,none⟩)] w λe w'=>e= .returned (.agg (u8s (climbN I (32+q) (leafV I (32+q) K) Y 5)).toArray)∧Kept (λk=>k=g) w w':=by
 have HI:=hid hI;have HK:=hid hK;have HYL:=hid hYl;have HY:=hid hY;have HYB:=hid hYb;have HJ:=hid (show(I++R).length=48 by rw[List.length_append,hI,hR]);have PKS:=hid (λ(X:World) (h:Blk X w.heap.size 89 (pkv v (I++R)))=>show Blk X w.heap.size 89 ([.int .i64 (v:Int)]++(u8s I++u8s R)) by rw[←u8s_app];exact h);have LEA:=hid (λW (h:Below w.heap.size w W)=>leafNode_t I K (32+q) W hI hIb hK hKb (by omega) (hk.below h hk.lt));have INN:=hid (λW (h:Kept (λk=>k=g) w W) a X B (hX:X.length=32) (hXb:Bytes X) (hB:B.length=32) (hBb:Bytes B) (ha:a<1000)=>innerNode_t I X B a W hI hIb hX hXb hB hBb ha ⟨Nat.lt_of_lt_of_le hk.lt h.size,λj hj=>(h.cell (p:=⟨1,j,none⟩) hk.lt hg1).trans (hk.cell j hj)⟩);have LL:=hid (show(leafV I (32+q) K).length=32 from rfl);have LB:=hid (leafV_bytes I (32+q) K hIb hKb);obtain⟨X0,hX0⟩:∃ x,leafV I (32+q) K=x:=⟨_,rfl⟩;rw[hX0] at LEA LL LB ⊢;have CL:=hid (λj=>climbN_length I (32+q) X0 Y LL.out j);have CB:=hid (λj=>climbN_bytes I (32+q) X0 Y hIb LB.out hYb j);have CS:=hid (λj=>show climbN I (32+q) X0 Y (j+1)=stepX I ((32+q) / 2 ^ j) (climbN I (32+q) X0 Y j) ((Y.drop (32 * j)).take 32) from rfl);have C0:=hid (show climbN I (32+q) X0 Y 0=X0 from rfl);obtain⟨C,hC⟩:∃ f:Nat→List Nat,∀ j,climbN I (32+q) X0 Y j=f j:=⟨λj=>climbN I (32+q) X0 Y j,λ_=>rfl⟩;simp only[hC] at CL CB CS C0 ⊢;have P0:=hid (((Blk.new w 89 (pkv v (I++R))).alloc (.cells (u8s K).toArray 23)).alloc (.cells (u8s z32).toArray 23));have K0:=hid ((Blk.new2 w (.cells (pkv v (I++R)).toArray 89) 23 (u8s K)).alloc (.cells (u8s z32).toArray 23));have Z0:=hid (blk_at (w:=(w.alloc (.cells (pkv v (I++R)).toArray 89)).alloc (.cells (u8s K).toArray 23)) (g:=w.heap.size+1+1) (by simp) (.cells (u8s z32).toArray 23) 23 (u8s z32));have B0:=hid ((((Below.refl w.heap.size w).alloc (Nat.le_refl _) (.cells (pkv v (I++R)).toArray 89)).alloc (by simp) (.cells (u8s K).toArray 23)).alloc (by simp;omega) (.cells (u8s z32).toArray 23));have D0:=hid (hr.there.below B0.out);have HGL:=hid hr.lt;clear hI hIb hR hK hKb hY hYl hYb hr hk hg1 hX0 hC
 go_enter Tryz.func82,Tryz.ntmps82
 go_wp2_with (first
  |((with_reducible refine load_part 44 (.tmp 11) w.heap.size 1 89 [.int .i64 (v:Int)] (u8s I) (u8s R) _ rfl rfl ?_ rfl Tryz.underlying44 ?_ ?_ ?_ ?_);exact PKS.out _ P0.out;exact rfl;exact size16' _ HI.out;exact rfl)
  |((with_reducible refine load_blk 23 (.tmp 6) (w.heap.size+1) 23 (u8s K) _ rfl rfl ?_ Tryz.underlying23 ?_ ?_ ?_ ?_);exact K0.out;exact rfl;exact size32 _ HK.out;exact rfl))
 refine(LEA.out _ B0.out).mono ?_
 rintro e w1 ⟨rfl,b1⟩
 have P1:=hid (P0.out.below b1 P0.out.lt);have Z1:=hid (Z0.out.below b1 Z0.out.lt);have B1:=hid (B0.out.trans (b1.mono B0.out.size));have D1:=hid (D0.out.below b1);have R1:=hid (Blk.new w1 23 (u8s z32));have z1l:=Z1.out.lt;clear b1 P0 K0 Z0 B0 D0;have bst:=hid (show Below w1.heap.size w1 ((w1.alloc (.cells (u8s z32).toArray 23)).setRow w1.heap.size (u8s X0).toArray) from below_setRow ((Below.refl _ _).alloc (Nat.le_refl _) _) (Nat.le_refl _) _)
 go_upto_region 2 with((with_reducible refine store_blk 23 (.tmp 9) (.tmp 15) w1.heap.size 23 (u8s z32) (u8s X0) rfl rfl ?_ ?_ ?_ ?_ ?_ ?_ ?_);exact R1.out;exact hash_lenL _ LL.out;exact size32 _ LL.out;exact u8s_one _;exact rfl;exact rfl)
 refine world_is (λW=>Blk W w.heap.size 89 (pkv v (I++R))∧Blk W (w.heap.size+1+1) 23 (u8s z32)∧Blk W w1.heap.size 23 (u8s X0)∧RdF (λk=>k<w.heap.size∧k≠g) W g Y false∧Kept (λk=>k=g) w W) ⟨P1.out.below bst.out P1.out.lt,Z1.out.below bst.out Z1.out.lt,R1.out.setRow _,D1.out.below bst.out,Kept.of_below (B1.out.trans (bst.out.mono B1.out.size))⟩ ?_
 rintro W ⟨p0,z0,r0,d0,k0⟩
 obtain⟨gx,hgx⟩:∃ x,w1.heap.size=x:=⟨_,rfl⟩;rw[hgx] at r0 z1l ⊢;rw[←C0.out] at r0;have P2:=hid p0;have Z2:=hid z0;have R2:=hid r0;have D2:=hid d0;have K2:=hid k0;clear p0 z0 r0 d0 k0 hgx P1 Z1 B1 D1 R1 bst
 dsimp only[Act.put]
 go_loopw [1] (λs wr=>∃ j:Nat,j≤5∧s= .int .i64 (((32+q) / 2 ^ j:Nat):Int)∧Blk wr w.heap.size 89 (pkv v (I++R))∧Blk wr (w.heap.size+1+1) 23 (u8s z32)∧Blk wr gx 23 (u8s (C j))∧RdF (λk=>k<w.heap.size∧k≠g) wr g (Y.drop (32 * j)) false∧Kept (λk=>k=g) w wr) (λs _=>(intOf s).toNat)
 case atStart=>exact⟨0,by omega,by simp,P2.out,Z2.out,R2.out,by simpa using D2.out,K2.out⟩
 case round=>
  clear P2 Z2 R2 D2 K2;obtain⟨j,hj,rfl,p0,z0,r0,d0,k0⟩:=hrel;have hr64:=vstep_lt q j hq;have hgl:=HGL.out
  by_cases hlt:j<5
  ·have hr1:=vstep_gt q hq j hlt;have hnx:=hid (vstep_next q j);have CSj:=hid (CS.out j);have CLj:=hid (CL.out j);have CBj:=hid (CB.out j);obtain⟨r,hr⟩:∃ r,(32+q) / 2 ^ j=r:=⟨_,rfl⟩;rw[hr] at hr64 hr1 hnx CSj ⊢;obtain⟨X,hX⟩:∃ x,C j=x:=⟨_,rfl⟩;rw[hX] at CSj CLj CBj r0;have HYD:=hid (show 32≤(Y.drop (32 * j)).length∧(Y.drop (32 * j)).length≤1000000∧Bytes (Y.drop (32 * j)) from⟨by rw[List.length_drop];have:=HY.out;omega,by rw[List.length_drop];have:=HYL.out;omega,bytes_drop HYB.out _⟩);have HDD:=hid (show(Y.drop (32 * j)).drop 32=Y.drop (32 * (j+1)) by rw[List.drop_drop];congr 1);obtain⟨Q,hQ⟩:∃ x,Y.drop (32 * j)=x:=⟨_,rfl⟩;rw[hQ] at CSj HYD HDD d0;have HBL:=hid (show(Q.take 32).length=32 by rw[List.length_take];have:=HYD.out.1;omega);have HBB:=hid (bytes_take HYD.out.2.2 32);have P3:=hid p0;have Z3:=hid z0;have R3:=hid r0;have D3:=hid d0;have K3:=hid k0;have r1:(1:Int)< (r:Int):=by omega
   have r2:(r:Int)<64:=by omega
   clear p0 z0 r0 d0 k0 hr hX hQ;go_wp2_with fail
   refine(raw_F _ g Q false 32 wr D3.out HYD.out.1 (by have:=HYD.out.2.1;omega)).mono ?_
   rintro e w2 ⟨u,rfl,o2,d2,k2⟩
   obtain⟨gb,cb,rfl,hcb,rgb,lbb,ltb⟩:=own_bytes o2 (by decide);have hps:=P3.out.lt;have hrs:=R3.out.lt;have hzs:=Z3.out.lt;have ha:=λW=>arrayAt_ok 23 32 Tryz.underlying23 gb 0 32 cb (Nat.le_refl _) W
   have P4:=hid (P3.out.kept k2 (by omega));have Z4:=hid (Z3.out.kept k2 (by omega));have R4:=hid (R3.out.kept k2 (by omega));have D4:=hid (show RdF (λk=>k<w.heap.size∧k≠g) w2 g (Y.drop (32 * (j+1))) false by rw[←HDD.out];exact d2);have K4:=hid (K3.out.trans k2);have RGB:=hid rgb;have R5:=hid (Blk.new w2 23 (u8s z32));obtain⟨B,hB⟩:∃ x,Q.take 32=x:=⟨_,rfl⟩;rw[hB] at CSj HBL HBB RGB;clear o2 d2 k2 rgb P3 Z3 R3 D3 K3 hB;obtain⟨hh,hhe⟩:∃ x,r / 2=x:=⟨_,rfl⟩;have ed:((r:Int)).tdiv 2=(hh:Int):=by rw[Int.tdiv_eq_ediv_of_nonneg (by omega)];omega
   by_cases hodd:r % 2=1
   ·have tm:((r:Int)).tmod 2=1:=by rw[Int.tmod_eq_emod_of_nonneg (by omega)];omega
    have bst:=hid (show Below w2.heap.size w2 ((w2.alloc (.cells (u8s z32).toArray 23)).setRow w2.heap.size (u8s B).toArray) from below_setRow ((Below.refl _ _).alloc (Nat.le_refl _) _) (Nat.le_refl _) _);have P5:=hid (P4.out.below bst.out P4.out.lt);have Z5:=hid (Z4.out.below bst.out Z4.out.lt);have RX5:=hid (R4.out.below bst.out R4.out.lt);have D5:=hid (D4.out.below bst.out);have K5:=hid (K4.out.trans (Kept.of_below bst.out));have RB5:=hid (R5.out.setRow (u8s B))
    go_wp2_with (first
     |((with_reducible refine wpList_load_mid rfl 23 (.tmp 22) rfl gb 0 ?_ (u8s B) _ ?_ Tryz.underlying23 ?_ ?_ ?_);exact rfl;exact RGB.out;exact rfl;exact size32 _ HBL.out)
     |((with_reducible refine store_blk 23 (.tmp 10) (.tmp 23) w2.heap.size 23 (u8s z32) (u8s B) rfl rfl ?_ ?_ ?_ ?_ ?_ ?_ ?_);exact R5.out;exact hash_lenL _ HBL.out;exact size32 _ HBL.out;exact u8s_one _;exact rfl;exact rfl)
     |((with_reducible refine load_part 44 (.tmp 27) w.heap.size 1 89 [.int .i64 (v:Int)] (u8s I) (u8s R) _ rfl rfl ?_ rfl Tryz.underlying44 ?_ ?_ ?_ ?_);exact PKS.out _ P5.out;exact rfl;exact size16' _ HI.out;exact rfl)
     |((with_reducible refine load_blk 23 (.tmp 10) w2.heap.size 23 (u8s B) _ rfl rfl ?_ Tryz.underlying23 ?_ ?_ ?_ ?_);exact RB5.out;exact rfl;exact size32 _ HBL.out;exact rfl)
     |((with_reducible refine load_blk 23 (.tmp 9) gx 23 (u8s X) _ rfl rfl ?_ Tryz.underlying23 ?_ ?_ ?_ ?_);exact RX5.out;exact rfl;exact size32 _ CLj.out;exact rfl))
    refine(INN.out _ K5.out hh B X HBL.out HBB.out CLj.out CBj.out (by omega)).mono ?_
    rintro e w3 ⟨rfl,b3⟩
    rw[show innerV I hh B X=C (j+1) from by rw[CSj.out];unfold stepX;rw[if_pos hodd];rw[hhe]];have P6:=hid (P5.out.below b3 P5.out.lt);have Z6:=hid (Z5.out.below b3 Z5.out.lt);have RX6:=hid (RX5.out.below b3 RX5.out.lt);have D6:=hid (D5.out.below b3);have K6:=hid (K5.out.trans (Kept.of_below b3));have CLn:=hid (CL.out (j+1));obtain⟨N,hN⟩:∃ x,C (j+1)=x:=⟨_,rfl⟩;rw[hN] at CLn ⊢;have HN:=hid hN;clear b3 P5 Z5 RX5 D5 K5 RB5 bst R5 hN P4 Z4 R4 D4 K4
    go_wp2_with ((with_reducible refine store_blk 23 (.tmp 9) (.tmp 33) gx 23 (u8s X) (u8s N) rfl rfl ?_ ?_ ?_ ?_ ?_ ?_ ?_);exact RX6.out;exact(by rw[u8s_length,u8s_length,CLj.out,CLn.out]);exact size32 _ CLn.out;exact u8s_one _;exact rfl;exact rfl)
    go_roundw
    case rel=>
     refine⟨j+1,by omega,?_,P6.out.setRow_far (by omega) _,Z6.out.setRow_far (by omega) _,?_,?_,?_⟩
     ·rw[←hnx.out,hhe]
     ·rw[HN.out];exact RX6.out.setRow _
     ·exact D6.out.stays (G:=λk=>k=gx) ⟨rfl,rfl,rfl,by simp,λk _ hne=>setRow_other w3 gx k _ hne⟩ (by omega) (λk hk (e:k=gx)=>by omega)
     ·exact kept_row K6.out (by omega) _
    case measure=>simp[intOf];omega
   ·have tm:((r:Int)).tmod 2=0:=by rw[Int.tmod_eq_emod_of_nonneg (by omega)];omega
    have bst:=hid (show Below w2.heap.size w2 ((w2.alloc (.cells (u8s z32).toArray 23)).setRow w2.heap.size (u8s B).toArray) from below_setRow ((Below.refl _ _).alloc (Nat.le_refl _) _) (Nat.le_refl _) _);have P5:=hid (P4.out.below bst.out P4.out.lt);have Z5:=hid (Z4.out.below bst.out Z4.out.lt);have RX5:=hid (R4.out.below bst.out R4.out.lt);have D5:=hid (D4.out.below bst.out);have K5:=hid (K4.out.trans (Kept.of_below bst.out));have RB5:=hid (R5.out.setRow (u8s B))
    go_wp2_with (first
     |((with_reducible refine wpList_load_mid rfl 23 (.tmp 22) rfl gb 0 ?_ (u8s B) _ ?_ Tryz.underlying23 ?_ ?_ ?_);exact rfl;exact RGB.out;exact rfl;exact size32 _ HBL.out)
     |((with_reducible refine store_blk 23 (.tmp 10) (.tmp 23) w2.heap.size 23 (u8s z32) (u8s B) rfl rfl ?_ ?_ ?_ ?_ ?_ ?_ ?_);exact R5.out;exact hash_lenL _ HBL.out;exact size32 _ HBL.out;exact u8s_one _;exact rfl;exact rfl)
     |((with_reducible refine load_part 44 (.tmp 34) w.heap.size 1 89 [.int .i64 (v:Int)] (u8s I) (u8s R) _ rfl rfl ?_ rfl Tryz.underlying44 ?_ ?_ ?_ ?_);exact PKS.out _ P5.out;exact rfl;exact size16' _ HI.out;exact rfl)
     |((with_reducible refine load_blk 23 (.tmp 10) w2.heap.size 23 (u8s B) _ rfl rfl ?_ Tryz.underlying23 ?_ ?_ ?_ ?_);exact RB5.out;exact rfl;exact size32 _ HBL.out;exact rfl)
     |((with_reducible refine load_blk 23 (.tmp 9) gx 23 (u8s X) _ rfl rfl ?_ Tryz.underlying23 ?_ ?_ ?_ ?_);exact RX5.out;exact rfl;exact size32 _ CLj.out;exact rfl))
    refine(INN.out _ K5.out hh X B CLj.out CBj.out HBL.out HBB.out (by omega)).mono ?_
    rintro e w3 ⟨rfl,b3⟩
    rw[show innerV I hh X B=C (j+1) from by rw[CSj.out];unfold stepX;rw[if_neg hodd];rw[hhe]];have P6:=hid (P5.out.below b3 P5.out.lt);have Z6:=hid (Z5.out.below b3 Z5.out.lt);have RX6:=hid (RX5.out.below b3 RX5.out.lt);have D6:=hid (D5.out.below b3);have K6:=hid (K5.out.trans (Kept.of_below b3));have CLn:=hid (CL.out (j+1));obtain⟨N,hN⟩:∃ x,C (j+1)=x:=⟨_,rfl⟩;rw[hN] at CLn ⊢;have HN:=hid hN;clear b3 P5 Z5 RX5 D5 K5 RB5 bst R5 hN P4 Z4 R4 D4 K4
    go_wp2_with ((with_reducible refine store_blk 23 (.tmp 9) (.tmp 40) gx 23 (u8s X) (u8s N) rfl rfl ?_ ?_ ?_ ?_ ?_ ?_ ?_);exact RX6.out;exact(by rw[u8s_length,u8s_length,CLj.out,CLn.out]);exact size32 _ CLn.out;exact u8s_one _;exact rfl;exact rfl)
    go_roundw
    case rel=>
     refine⟨j+1,by omega,?_,P6.out.setRow_far (by omega) _,Z6.out.setRow_far (by omega) _,?_,?_,?_⟩
     ·rw[←hnx.out,hhe]
     ·rw[HN.out];exact RX6.out.setRow _
     ·exact D6.out.stays (G:=λk=>k=gx) ⟨rfl,rfl,rfl,by simp,λk _ hne=>setRow_other w3 gx k _ hne⟩ (by omega) (λk hk (e:k=gx)=>by omega)
     ·exact kept_row K6.out (by omega) _
    case measure=>simp[intOf];omega
  ·obtain rfl:j=5:=by omega
   rw[vstep_end q hq];have Z3:=hid z0;have R3:=hid r0;have K3:=hid k0;have CLn:=hid (CL.out 5);obtain⟨N,hN⟩:∃ x,C 5=x:=⟨_,rfl⟩;rw[hN] at CLn R3;have HN:=hid hN;have hgx0:=z1l;clear p0 z0 r0 d0 k0 hr64 hN
   go_wp2_with (first
    |((with_reducible refine load_blk 23 (.tmp 9) gx 23 (u8s N) _ rfl rfl ?_ Tryz.underlying23 ?_ ?_ ?_ ?_);exact R3.out;exact rfl;exact size32 _ CLn.out;exact rfl)
    |((with_reducible refine store_blk 23 (.tmp 8) (.tmp 41) (w.heap.size+1+1) 23 (u8s z32) (u8s N) rfl rfl ?_ ?_ ?_ ?_ ?_ ?_ ?_);exact Z3.out;exact hash_lenL _ CLn.out;exact size32 _ CLn.out;exact u8s_one _;exact rfl;exact rfl))
   exact ret_blk (p:=8) (ty:=23) rfl rfl (w.heap.size+1+1) 23 _ _ rfl (Z3.out.setRow _) Tryz.underlying23 rfl (size32 _ CLn.out) ⟨by rw[HN.out],kept_row K3.out (by omega) _⟩
def osN (i:Nat):Nat:=36+32 * (kd i).p
def lcandN (I:List Nat) (i:Nat) (msg sig:List Nat):Option (List Nat):=
 if sig.length=lszN i∧val (sig.take 4)<32∧val ((sig.drop (4+osN i)).take 4)=5∧val ((sig.drop 4).take 4)=(kd i).code then
  some (climbN I (32+val (sig.take 4)) (leafV I (32+val (sig.take 4)) (candN I (val (sig.take 4)) i msg ((sig.drop 4).take (osN i)))) (sig.drop (8+osN i)) 5)
 else none
theorem z32_len:z32.length=32:=rfl
set_option maxHeartbeats 8000000 in
theorem cand_any (I R msg sig:List Nat) (i v:Nat) (A P:Option Addr) (ma ca m c:Nat) (w:World) (hI:I.length=16) (hIb:Bytes I) (hR:R.length=32) (hi:i<4) (hv:v=(kd i).w) (hma:msg.length=ma) (ha:Sr w A msg) (hmb:Bytes msg) (hca:ma≤ca) (hml:ma≤70368744177664) (hm:sig.length=m) (hp:Sr w P sig) (hsb:Bytes sig) (hmz:m=lszN i) (hk:KAt w) (hki:KI w):
  Calls Tryz.prog 45 #[.agg (pkv v (I++R)).toArray,.slice A ma ca,.slice P m c] w λe w'=>∃ Z b,Z.length=32∧e= .returned (.tuple #[.agg (u8s Z).toArray,.bool b])∧((b=true∧lcandN I i msg sig=some Z)∨(b=false∧lcandN I i msg sig=none))∧Below w.heap.size w w':=by
 have P0:=hid ((Blk.new w 89 (pkv v (I++R))).alloc (.cells (u8s z32).toArray 23));have Z0:=hid (Blk.new2 w (.cells (pkv v (I++R)).toArray 89) 23 (u8s z32));have B0:=hid (((Below.refl w.heap.size w).alloc (Nat.le_refl _) (.cells (pkv v (I++R)).toArray 89)).alloc (by simp) (.cells (u8s z32).toArray 23));have HI:=hid hI;have HJ:=hid (show(I++R).length=48 by rw[List.length_append,hI,hR]);have HM:=hid hm;have HP:=hid hp;have HSB:=hid hsb;have SZ:=hid (λW (h:Below w.heap.size w W)=>show Calls Tryz.prog 79 #[.int .i64 (v:Int)] W λe w'=>e= .returned (.int .i64 ((lszN i:Nat):Int))∧Below W.heap.size W w' by rw[hv];exact size_yes i hi W (hki.kept h));have OS:=hid (λW (h:Below w.heap.size w W)=>show Calls Tryz.prog 80 #[.int .i64 (v:Int)] W λe w'=>e= .returned (.int .i64 ((osN i:Nat):Int))∧Below W.heap.size W w' by rw[hv];exact otsSize_t i hi W (hki.kept h));have hlo:lszN i=osN i+168∧osN i≤9000∧36≤osN i:=by have:=kd_p i hi;unfold lszN osN;omega
 have CT:=hid (λW (h:Below w.heap.size w W) (xs:List Nat) (X:Option Addr) (q cx:Nat) (hq:q<32) (hx:xs.length=osN i) (hxs:Sr W X xs) (hxb:Bytes xs) (hcx:osN i≤cx) (hcode:val (xs.take 4)=(kd i).code)=>cand_t I xs msg q i (v:Int) A X ma ca (osN i) cx W (by rw[hv]) hI hIb hq hi hma (ha.below h) hmb hca (by omega) hx hxs hxb hcx rfl hcode (hk.below h hk.lt) (hki.kept h));have CN:=hid (λW (h:Below w.heap.size w W) (xs:List Nat) (X:Option Addr) (q cx:Nat) (hq:q<32) (hx:xs.length=osN i) (hxs:Sr W X xs) (hxb:Bytes xs) (hcx:osN i≤cx) (hcode:val (xs.take 4)≠(kd i).code)=>cand_sig I xs q i (v:Int) A X ma ca (osN i) cx W (by rw[hv]) hI hq hi hx hxs hxb hcx (by have:=hlo.2.1;omega) (.inr hcode) (hki.kept h));have KBY:=hid (λq (hq:q<32) xs (hxb:Bytes xs) (hx:xs.length=osN i)=>show Bytes (candN I q i msg xs)∧(candN I q i msg xs).length=32 from⟨pubOf_bytes _ _ _ hIb (catN_bytes _ _ λj hj=>(candE_ok I q i _ xs j hi hIb hxb (by rw[hx];unfold osN;omega) (by rw[digL_get i j hj];exact digN_le i j _)).2),rfl⟩);have CB:=hid (λW (h:Below w.heap.size w W) (g q:Nat) (K Y:List Nat) (hq:q<32) (hK:K.length=32) (hKb:Bytes K) (hY:160≤Y.length) (hYl:Y.length≤1000000) (hYb:Bytes Y) (hr:Rd W g Y false) (hg:w.heap.size≤g)=>climbed_t I R K Y v q g W hI hIb hR hq hK hKb hY hYl hYb hr (hk.below h hk.lt) (by have:=hk.lt;omega));have LC:=hid (show lcandN I i msg sig=if m=lszN i∧val (sig.take 4)<32∧val ((sig.drop (4+osN i)).take 4)=5∧val (((sig.drop 4).take (osN i)).take 4)=(kd i).code then
  some (climbN I (32+val (sig.take 4)) (leafV I (32+val (sig.take 4)) (candN I (val (sig.take 4)) i msg ((sig.drop 4).take (osN i)))) (sig.drop (8+osN i)) 5) else none by
   rw[List.take_take,Nat.min_eq_left (by have:=hlo.2.2;omega),←hm];rfl)
 obtain⟨os,hos⟩:∃ x,osN i=x:=⟨_,rfl⟩;obtain⟨N,hN⟩:∃ x,lszN i=x:=⟨_,rfl⟩;simp only[hos] at OS CT CN KBY LC hlo;rw[hN] at SZ hmz hlo LC;have HLO:=hid hlo;have HMZ:=hid hmz;have t0:((m:Int) != (N:Int))=false:=by rw[bne_eq_false_iff_eq];omega
 have hv8:=kd_w8 i;rw[←hv] at hv8;have hmle:m≤70368744177664:=by have:=hlo.1;have:=hlo.2.1;omega
 clear hI hIb hR hv hma ha hmb hca hml hm hp hsb hk hki hN hos hlo hmz
 go_enter Tryz.func45,Tryz.ntmps45
 go_upto_region 1 with(fail)
 refine world_is (λW=>Blk W w.heap.size 89 (pkv v (I++R))∧Blk W (w.heap.size+1) 23 (u8s z32)∧Below w.heap.size w W) ⟨P0.out,Z0.out,B0.out⟩ ?_;clear P0 Z0 B0
 rintro W0 ⟨p0,z0,b0⟩
 have c0:W0.cell? ⟨w.heap.size,0,none⟩=some (.int .i64 (v:Int)):=p0.cell 0;have P0:=hid p0;have Z0:=hid z0;go_wp2_with fail
 refine(SZ.out _ b0).mono ?_
 rintro e w1 ⟨rfl,b1⟩
 have P1:=hid (P0.out.below b1 P0.out.lt);have Z1:=hid (Z0.out.below b1 Z0.out.lt);have B1:=hid (b0.trans (b1.mono b0.size));clear b1 c0 P0 Z0 b0 p0 z0 SZ;go_wp2_with fail
 refine(rnew_t sig P m c w1 HM.out (HP.out.below B1.out) (by omega)).mono ?_
 rintro e w2 ⟨g,rfl,hg,r2,b2⟩
 have P2:=hid (P1.out.below b2 P1.out.lt);have Z2:=hid (Z1.out.below b2 Z1.out.lt);have B2:=hid (B1.out.trans (b2.mono B1.out.size));have D2:=hid r2;have hgz:w.heap.size+1<g:=by have:=Z1.out.lt;omega
 clear b2 r2 P1 Z1 B1 hg
 go_upto_region 4 with(fail)
 have r1:w2.drew.cell? ⟨w.heap.size,0,none⟩=some (.int .i64 (v:Int)):=P2.out.cell 0;have PD:=hid (show Blk w2.drew w.heap.size 89 (pkv v (I++R)) from P2.out);have ZD:=hid (show Blk w2.drew (w.heap.size+1) 23 (u8s z32) from Z2.out);have BD:=hid (B2.out.trans ((Below.refl _ _).drew.mono B2.out.size));have DD:=hid (D2.out.below (Below.refl _ _).drew);clear P2 Z2 B2 D2;refine wp_region_held (S:=λX=>X.cell? ⟨w.heap.size,0,none⟩=some (.int .i64 (v:Int))) (by kernel_rfl) ?_;change wpAnyH _ _ _ _ _ _ _ _ w2.drew;obtain⟨w3,hw3⟩:∃ x,w2.drew=x:=⟨_,rfl⟩;rw[hw3] at r1 PD ZD BD DD ⊢;clear hw3;refine tka9 0 r1 ?_;refine tka9 2 r1 ?_;refine tka9 3 r1 ?_;refine tk9 4 ?_ ?_ r1 ?_;rotate_left 1
 ·(intro w hS;have hs:=hS;clear hS;go_simp;try (with_reducible rfl))
 refine tka9 7 r1 ?_;refine rd9 1 λK hK=>?_
 go_simp;refine(rnum_ok g sig false 4 w3 DD.out HSB.out (by decide) (by decide) (by rw[HM.out,HMZ.out];have:=HLO.out;omega) (by rw[HM.out];exact hmle)).mono ?_
 rintro e w4 ⟨rfl,d4,k4⟩
 have P4:=hid (PD.out.kept k4 (by omega));have Z4:=hid (ZD.out.kept k4 (by omega));have D4:=hid d4;have B4:=hid (BD.out.trans ((k4.mono (G:=λk=>w.heap.size≤k) (λk (e:k=g)=>by omega)).to_below BD.out.size));have r2:w4.cell? ⟨w.heap.size,0,none⟩=some (.int .i64 (v:Int)):=P4.out.cell 0;clear d4 k4 PD ZD BD DD r1;refine hK _ _ r2 (λ_=>?_);clear hK K;refine rd9 5 λK hK=>?_
 go_simp;refine(OS.out _ B4.out).mono ?_
 rintro e w5 ⟨rfl,b5⟩
 have P5:=hid (P4.out.below b5 P4.out.lt);have Z5:=hid (Z4.out.below b5 Z4.out.lt);have B5:=hid (B4.out.trans (b5.mono B4.out.size));have D5:=hid (D4.out.below b5);have r3:w5.cell? ⟨w.heap.size,0,none⟩=some (.int .i64 (v:Int)):=P5.out.cell 0;clear b5 P4 Z4 B4 D4 r2;refine hK _ _ r3 (λ_=>?_);clear hK K;refine rd9 6 λK hK=>?_
 go_simp;have L4:=hid (show(sig.drop 4).length=os+164 by rw[List.length_drop,HM.out,HMZ.out,HLO.out.1];omega);refine(raw_ok g (sig.drop 4) false os w5 D5.out (by rw[L4.out];omega) (by rw[L4.out];have:=HLO.out;omega)).mono ?_
 rintro e w6 ⟨u,rfl,o6,d6,k6⟩
 obtain⟨ad,cx,rfl,hcx⟩:=own_form o6;obtain⟨_,_,hrb,_,_⟩:=D5.out.is;have P6:=hid (P5.out.kept k6 (by omega));have Z6:=hid (Z5.out.kept k6 (by omega));have D6:=hid d6;have O6:=hid o6;have B6:=hid (B5.out.trans ((k6.mono (G:=λk=>w.heap.size≤k) (λk (e:k=g)=>by omega)).to_below B5.out.size));have r4:w6.cell? ⟨w.heap.size,0,none⟩=some (.int .i64 (v:Int)):=P6.out.cell 0;have AP:=hid (own_apart O6.out (d6.is.choose_spec.choose_spec.1) (show 5≠127 by decide));clear o6 d6 k6 P5 Z5 B5 D5 r3 hrb;refine hK _ _ r4 (λ_=>?_);clear hK K;refine rd9 8 λK hK=>?_
 go_simp;have L8:=hid (show((sig.drop 4).drop os).length=164 by rw[List.length_drop,L4.out];omega);refine(rnum_ok g ((sig.drop 4).drop os) false 4 w6 D6.out (bytes_drop (bytes_drop HSB.out 4) os) (by decide) (by decide) (by rw[L8.out];decide) (by rw[L8.out];decide)).mono ?_
 rintro e w7 ⟨rfl,d7,k7⟩
 have P7:=hid (P6.out.kept k7 (by omega));have Z7:=hid (Z6.out.kept k7 (by omega));have D7:=hid d7;have SR7:=hid (Sr.of_own (own_kept O6.out k7 (λk hk (e:k=g)=>AP.out (by rw[hk,e]))));have B7:=hid (B6.out.trans ((k7.mono (G:=λk=>w.heap.size≤k) (λk (e:k=g)=>by omega)).to_below B6.out.size));have r5:w7.cell? ⟨w.heap.size,0,none⟩=some (.int .i64 (v:Int)):=P7.out.cell 0;clear d7 k7 P6 Z6 B6 D6 O6 AP r4;refine hK _ _ r5 (λ_=>?_);clear hK K;have QD:=hid (show val (((sig.drop 4).drop os).take 4)=val ((sig.drop (4+os)).take 4) by rw[List.drop_drop]);rw[QD.out];have XL:=hid (show((sig.drop 4).take os).length=os by rw[List.length_take,L4.out];omega);have XB:=hid (bytes_take (bytes_drop HSB.out 4) os);have QLT:=hid (show val (sig.take 4)<72057594037927936 from val_small _ (bytes_take HSB.out 4) (by rw[List.length_take];omega));have YD:=hid (show((sig.drop 4).drop os).drop 4=sig.drop (8+os) by rw[List.drop_drop,List.drop_drop];congr 1;omega);have YL:=hid (show(sig.drop (8+os)).length=160 by rw[←YD.out,List.length_drop,L8.out]);have YB:=hid (bytes_drop HSB.out (8+os));rw[YD.out] at D7;obtain⟨q,hq⟩:∃ x,val (sig.take 4)=x:=⟨_,rfl⟩;obtain⟨tc,htc⟩:∃ x,val ((sig.drop (4+os)).take 4)=x:=⟨_,rfl⟩;obtain⟨xs,hxs⟩:∃ x,(sig.drop 4).take os=x:=⟨_,rfl⟩;obtain⟨Y,hY⟩:∃ x,sig.drop (8+os)=x:=⟨_,rfl⟩;rw[hq] at LC QLT ⊢;rw[htc] at LC ⊢;rw[hxs] at LC XL XB SR7;rw[hY] at LC YL YB D7;clear hq htc hxs hY QD YD L4 L8;refine rd9 9 λK hK=>?_
 go_simp;refine hK _ _ r5 (λ_=>?_);clear hK K;refine rd9 10 λK hK=>?_
 go_simp;refine hK _ _ r5 (λ_=>?_);clear hK K;refine rd9 11 λK hK=>?_
 go_simp;refine hK _ _ r5 (λ_=>?_);clear hK K r5;refine wpAnyH_done (by kernel_rfl) ?_ _;go_simp;have HCX:=hid hcx;clear hcx
 by_cases h32:q<32
 ·by_cases h5:tc=5
  ·subst h5;have qlo:(q:Int)<32:=by omega
   have c7:w7.cell? ⟨w.heap.size,0,none⟩=some (.int .i64 (v:Int)):=P7.out.cell 0;have PKS:=hid (show Blk w7 w.heap.size 89 ([.int .i64 (v:Int)]++(u8s I++u8s R)) by rw[←u8s_app];exact P7.out)
   go_wp2_with ((with_reducible refine load_part 44 (.tmp 40) w.heap.size 1 89 [.int .i64 (v:Int)] (u8s I) (u8s R) _ rfl rfl ?_ rfl Tryz.underlying44 ?_ ?_ ?_ ?_);exact PKS.out;exact rfl;exact size16' _ HI.out;exact rfl)
   by_cases hc:val (xs.take 4)=(kd i).code
   ·refine(CT.out _ B7.out xs ad q cx h32 XL.out SR7.out XB.out HCX.out hc).mono ?_
    rintro e w8 ⟨rfl,b8⟩
    have LS:=hid (show lcandN I i msg sig=some (climbN I (32+q) (leafV I (32+q) (candN I q i msg xs)) Y 5) by rw[LC.out,if_pos ⟨HMZ.out,h32,by trivial,hc⟩]);have KB:=hid (KBY.out q h32 xs XB.out XL.out);obtain⟨K,hK⟩:∃ x,candN I q i msg xs=x:=⟨_,rfl⟩;rw[hK] at LS KB ⊢;have CBK:=hid (λW h hr=>CB.out W h g q K Y h32 KB.out.2 KB.out.1 (by rw[YL.out];exact Nat.le_refl _) (by rw[YL.out];decide) YB.out hr (by omega));have LP:=hid (show(climbN I (32+q) (leafV I (32+q) K) Y 5).length=32 from climbN_length I (32+q) _ Y rfl 5);have P8:=hid (P7.out.below b8 P7.out.lt);have Z8:=hid (Z7.out.below b8 Z7.out.lt);have D8:=hid (D7.out.below b8);have B8:=hid (B7.out.trans (b8.mono B7.out.size));have R8:=hid (Blk.new w8 23 (u8s z32));have KL:=hid KB.out.2;have z8:=Z8.out.lt;clear b8 hK P7 Z7 D7 B7 SR7 c7 PKS CB CN CT;have bst:=hid (show Below w8.heap.size w8 ((w8.alloc (.cells (u8s z32).toArray 23)).setRow w8.heap.size (u8s K).toArray) from below_setRow ((Below.refl _ _).alloc (Nat.le_refl _) _) (Nat.le_refl _) _)
    go_upto_region 10 with((with_reducible refine store_blk 23 (.tmp 12) (.tmp 49) w8.heap.size 23 (u8s z32) (u8s K) rfl rfl ?_ ?_ ?_ ?_ ?_ ?_ ?_);exact R8.out;exact hash_lenL _ KL.out;exact size32 _ KL.out;exact u8s_one _;exact rfl;exact rfl)
    refine world_is (λW=>Blk W w.heap.size 89 (pkv v (I++R))∧Blk W (w.heap.size+1) 23 (u8s z32)∧Blk W w8.heap.size 23 (u8s K)∧Rd W g Y false∧Below w.heap.size w W) ⟨P8.out.below bst.out P8.out.lt,Z8.out.below bst.out Z8.out.lt,R8.out.setRow _,D8.out.below bst.out,B8.out.trans (bst.out.mono B8.out.size)⟩ ?_
    rintro W ⟨p9,zz9,r9,d9,b9⟩
    have P9:=hid p9;have Z9:=hid zz9;have R9:=hid r9;have D9:=hid d9;have B9:=hid b9;clear p9 zz9 r9 d9 b9 P8 Z8 D8 B8 R8 bst
    go_wp2_with (first
     |((with_reducible refine load_blk 89 (.tmp 3) w.heap.size 89 (pkv v (I++R)) _ rfl rfl ?_ Tryz.underlying89 ?_ ?_ ?_ ?_);exact P9.out;exact rfl;exact pkv_size _ _ HJ.out;exact rfl)
     |((with_reducible refine load_blk 23 (.tmp 12) w8.heap.size 23 (u8s K) _ rfl rfl ?_ Tryz.underlying23 ?_ ?_ ?_ ?_);exact R9.out;exact rfl;exact size32 _ KL.out;exact rfl))
    refine(CBK.out _ B9.out D9.out).mono ?_
    rintro e w10 ⟨rfl,k10⟩
    have Z10:=hid (Z9.out.kept k10 (by omega));have B10:=hid (B9.out.trans ((k10.mono (G:=λk=>w.heap.size≤k) (λk (e:k=g)=>by omega)).to_below B9.out.size));obtain⟨Z,hZ⟩:∃ x,climbN I (32+q) (leafV I (32+q) K) Y 5=x:=⟨_,rfl⟩;rw[hZ] at LS LP ⊢;clear hZ k10 P9 Z9 R9 D9 B9 CBK
    go_wp2_with ((with_reducible refine store_blk 23 (.tmp 6) (.tmp 60) (w.heap.size+1) 23 (u8s z32) (u8s Z) rfl rfl ?_ ?_ ?_ ?_ ?_ ?_ ?_);exact Z10.out;exact hash_lenL _ LP.out;exact size32 _ LP.out;exact u8s_one _;exact rfl;exact rfl)
    refine ret_blk2 (p:=6) (u:=7) (ty:=23) rfl rfl (w.heap.size+1) 23 (u8s Z) _ rfl (Z10.out.setRow _) Tryz.underlying23 rfl (size32 _ LP.out) (.bool true) rfl ?_;exact⟨Z,true,LP.out,rfl,.inl ⟨rfl,LS.out⟩,below_setRow B10.out (by omega) _⟩
   ·refine(CN.out _ B7.out xs ad q cx h32 XL.out SR7.out XB.out HCX.out hc).mono ?_
    rintro e w8 ⟨rfl,b8⟩
    have Z8:=hid (Z7.out.below b8 Z7.out.lt);have B8:=hid (B7.out.trans (b8.mono B7.out.size));have R8:=hid (Blk.new w8 23 (u8s z32));have z8:=Z8.out.lt;clear b8 P7 Z7 D7 B7 SR7 c7 PKS CB CT;have bst:=hid (show Below w8.heap.size w8 ((w8.alloc (.cells (u8s z32).toArray 23)).setRow w8.heap.size (u8s z32).toArray) from below_setRow ((Below.refl _ _).alloc (Nat.le_refl _) _) (Nat.le_refl _) _);have Z9:=hid (Z8.out.below bst.out Z8.out.lt);have B9:=hid (B8.out.trans (bst.out.mono B8.out.size))
    go_wp2_with (first
     |((with_reducible refine store_blk 23 (.tmp 12) (.tmp 49) w8.heap.size 23 (u8s z32) (u8s z32) rfl rfl ?_ ?_ ?_ ?_ ?_ ?_ ?_);exact R8.out;exact rfl;exact size32 _ z32_len;exact u8s_one _;exact rfl;exact rfl)
     |((with_reducible refine store_blk 23 (.tmp 6) (.tmp 53) (w.heap.size+1) 23 (u8s z32) (u8s z32) rfl rfl ?_ ?_ ?_ ?_ ?_ ?_ ?_);exact Z9.out;exact rfl;exact z32_size;exact u8s_one _;exact rfl;exact rfl))
    refine ret_blk2 (p:=6) (u:=7) (ty:=23) rfl rfl (w.heap.size+1) 23 (u8s z32) _ rfl (Z9.out.setRow _) Tryz.underlying23 rfl z32_size (.bool false) rfl ?_;exact⟨z32,false,rfl,rfl,.inr ⟨rfl,by rw[LC.out,if_neg (λh=>hc h.2.2.2)]⟩,below_setRow B9.out (by omega) _⟩
  ·have tno:((tc:Int) == 5)=false:=by rw[beq_eq_false_iff_ne];omega
   have tno':((tc:Int) != 5)=true:=by rw[bne_iff_ne];omega
   have qlo:(q:Int)<32:=by omega
   go_wp2_with ((with_reducible refine store_blk 23 (.tmp 6) (.tmp 38) (w.heap.size+1) 23 (u8s z32) (u8s z32) rfl rfl ?_ ?_ ?_ ?_ ?_ ?_ ?_);exact Z7.out;exact rfl;exact z32_size;exact u8s_one _;exact rfl;exact rfl)
   refine ret_blk2 (p:=6) (u:=7) (ty:=23) rfl rfl (w.heap.size+1) 23 (u8s z32) _ rfl (Z7.out.setRow _) Tryz.underlying23 rfl z32_size (.bool false) rfl ?_;exact⟨z32,false,rfl,rfl,.inr ⟨rfl,by rw[LC.out,if_neg (λh=>h5 h.2.2.1)]⟩,below_setRow B7.out (by omega) _⟩
 ·have qhi:(32:Int)≤(q:Int):=by omega
  go_wp2_with ((with_reducible refine store_blk 23 (.tmp 6) (.tmp 38) (w.heap.size+1) 23 (u8s z32) (u8s z32) rfl rfl ?_ ?_ ?_ ?_ ?_ ?_ ?_);exact Z7.out;exact rfl;exact z32_size;exact u8s_one _;exact rfl;exact rfl)
  refine ret_blk2 (p:=6) (u:=7) (ty:=23) rfl rfl (w.heap.size+1) 23 (u8s z32) _ rfl (Z7.out.setRow _) Tryz.underlying23 rfl z32_size (.bool false) rfl ?_;exact⟨z32,false,rfl,rfl,.inr ⟨rfl,by rw[LC.out,if_neg (λh=>h32 h.2.1)]⟩,below_setRow B7.out (by omega) _⟩
theorem cand_whole (I R msg sig:List Nat) (i v:Nat) (A P:Option Addr) (ma ca m c:Nat) (w:World) (hI:I.length=16) (hIb:Bytes I) (hR:R.length=32) (hi:i<4) (hv:v=(kd i).w) (hma:msg.length=ma) (ha:Sr w A msg) (hmb:Bytes msg) (hca:ma≤ca) (hml:ma≤70368744177664) (hm:sig.length=m) (hp:Sr w P sig) (hsb:Bytes sig) (hsl:m≤9223372036854775807) (hk:KAt w) (hki:KI w):
  Calls Tryz.prog 45 #[.agg (pkv v (I++R)).toArray,.slice A ma ca,.slice P m c] w λe w'=>∃ Z b,Z.length=32∧e= .returned (.tuple #[.agg (u8s Z).toArray,.bool b])∧((b=true∧lcandN I i msg sig=some Z)∨(b=false∧lcandN I i msg sig=none))∧Below w.heap.size w w':=by
 by_cases hmz:m=lszN i
 ·exact cand_any I R msg sig i v A P ma ca m c w hI hIb hR hi hv hma ha hmb hca hml hm hp hsb hmz hk hki
 ·subst hv;refine(lcand_short i (I++R) A P ma ca m c w hi hki hmz hsl).mono ?_
  rintro e w' ⟨rfl,b⟩
  exact⟨z32,false,rfl,rfl,.inr ⟨rfl,by unfold lcandN;exact if_neg λh=>hmz (by rw[←hm];exact h.1)⟩,b⟩
def verN (pub msg sig:List Nat):Nat:=
 if formN pub=true then(if lcandN ((pub.drop 8).take 16) (val ((pub.drop 4).take 4) -1) msg sig=some ((pub.drop 8).drop 16) then 0 else 3) else 2
theorem neqh (xs ys:List Nat) (hx:xs.length=32) (hy:ys.length=32) (w:World):(binOp .neq 23 (.agg (u8s xs).toArray) (.agg (u8s ys).toArray)).run Tryz.prog w= .ok (.bool (!decide (xs=ys))) w:=by
 rw[run_neq_struct,eqIn_u8s 9998 23 32 Tryz.underlying23 xs ys hx hy w];rfl
theorem load_part_gd {P:Program} {ops:Array Oper} {rest:List Oper} {o:Oper} {a:Act} {w:World} {Q:Exit→Act→World→Prop} (D:Nat) (ty:TypeId) (x:Operand) (g off:Nat) (t:TypeId) (A M C:List Value) (d:TypeDesc)
  (_hD:o.dst=some D) (hw:Region.wanted o (yielded ops a.tmps)=true) (ho:o.op= .load ty x) (hg:Blk w g t (A++(M++C))) (hoff:off=A.length) (hu:P.underlying ty=some d) (hd:d.isRow=true) (hi:(P.info? ty).map (·.size)=some M.length)
  (hx:a.eval x= .pointer (some ⟨g,off,none⟩)) (h:wpList P ops Q rest (a.put o.dst (.agg M.toArray)) w):wpList P ops Q (o::rest) a w:=
 BigFrame.wpList_want hw λ_ hK=>wload_part ty x g off t A M C d ho hg hoff hu hd hi hx (hK _ _ h)
set_option maxHeartbeats 4000000 in
theorem verify_t (pub msg sig:List Nat) (A B C:Option Addr) (m c m1 c1 m2 c2:Nat) (w:World) (hx:pub.length=m) (hp:Sr w A pub) (hb:Bytes pub) (hml:m≤9223372036854775807) (hx1:msg.length=m1) (hp1:Sr w B msg) (hb1:Bytes msg) (hc1:m1≤c1) (hl1:m1≤70368744177664) (hx2:sig.length=m2) (hp2:Sr w C sig) (hb2:Bytes sig) (hl2:m2≤9223372036854775807) (hk:KAt w) (hki:KI w):
  Calls Tryz.prog 21 #[.slice A m c,.slice B m1 c1,.slice C m2 c2] w λe w'=>e= .returned (.int .i64 (verN pub msg sig:Nat))∧Below w.heap.size w w':=by
 cases hf:formN pub with
 |false=>
  refine(verify_bad pub A B C m c m1 c1 m2 c2 w hx hp hb hml hki hf).mono ?_
  rintro e w' ⟨rfl,b⟩
  exact⟨by unfold verN;rw[hf];rfl,b⟩
 |true=>
  have RK:=hid (readKey_any pub A m c w hx hp hb hml hki);have HF:=hid hf;have h56:pub.length=56:=(of_decide_eq_true (show decide _=true from hf)).1;have HV:=hid (show verN pub msg sig=if lcandN ((pub.drop 8).take 16) (val ((pub.drop 4).take 4) -1) msg sig=some ((pub.drop 8).drop 16) then 0 else 3 by unfold verN;rw[hf];rfl);have HI:=hid (show((pub.drop 8).take 16).length=16 by rw[List.length_take,List.length_drop,h56];rfl);have HR:=hid (show((pub.drop 8).drop 16).length=32 by rw[List.length_drop,List.length_drop,h56]);have HIB:=hid (bytes_take (bytes_drop hb 8) 16);have HD:=hid (show pub.drop 8=(pub.drop 8).take 16++(pub.drop 8).drop 16 from(List.take_append_drop _ _).symm);have CA:=hid (λW (h:Below w.heap.size w W) I R i v (hI:I.length=16) (hIb:Bytes I) (hR:R.length=32) (hi:i<4) (hv:v=(kd i).w)=>cand_whole I R msg sig i v B C m1 c1 m2 c2 W hI hIb hR hi hv hx1 (hp1.below h) hb1 hc1 hl1 hx2 (hp2.below h) hb2 hl2 (hk.below h hk.lt) (hki.kept h));clear hx hp hb hml hx1 hp1 hb1 hc1 hl1 hx2 hp2 hb2 hl2 hk hki h56
  go_enter Tryz.func21,Tryz.ntmps21
  go_wp2_with fail
  refine RK.out.mono ?_
  rintro e w1 ⟨v,J,hJ,rfl,hi,b1⟩
  obtain⟨i,hi4,hv,hvi,hJ2⟩:=hi HF.out;rw[HF.out];rw[show val ((pub.drop 4).take 4) -1=i by omega] at HV;rw[HD.out] at hJ2;obtain⟨I,hIe⟩:∃ x,(pub.drop 8).take 16=x:=⟨_,rfl⟩;obtain⟨R,hRe⟩:∃ x,(pub.drop 8).drop 16=x:=⟨_,rfl⟩;rw[hIe] at HV HI HIB hJ2;rw[hRe] at HV HR hJ2;subst hJ2;have HJ:=hid hJ;have B1:=hid b1;have R1:=hid (Blk.new w1 89 pkz);have HI4:=hid hi4;have HVI:=hid hv;have HI17:=hid (show 17=(Value.int .i64 (v:Int)::u8s I).length by rw[List.length_cons,u8s_length,HI.out]);have B2:=hid (below_setRow (B1.out.alloc B1.out.size (.cells pkz.toArray 89)) B1.out.size (pkv v (I++R)).toArray);have P2:=hid (R1.out.setRow (pkv v (I++R)));clear hJ b1 RK hi hi4 hv hvi HD hIe hRe hf HF
  go_wp2_with (first
   |((with_reducible refine store_blk 89 (.tmp 7) (.tmp 13) w1.heap.size 89 pkz (pkv v (I++R)) rfl rfl ?_ ?_ ?_ ?_ ?_ ?_ ?_);exact R1.out;exact pk_len _ _ HJ.out;exact pkv_size _ _ HJ.out;exact pkv_one _ _;exact rfl;exact rfl)
   |((with_reducible refine load_blk 89 (.tmp 7) w1.heap.size 89 (pkv v (I++R)) _ rfl rfl ?_ Tryz.underlying89 ?_ ?_ ?_ ?_);exact R1.out.setRow _;exact rfl;exact pkv_size _ _ HJ.out;exact rfl))
  refine(CA.out _ B2.out I R i v HI.out HIB.out HR.out HI4.out HVI.out).mono ?_
  rintro e w2 ⟨Z,b,hZ,rfl,hor,b2⟩
  have HZ:=hid hZ;have B3:=hid (B2.out.trans (b2.mono B2.out.size));have P3:=hid (P2.out.below b2 P2.out.lt);have RZ3:=hid (Blk.new w2 23 (u8s z32));have bst:=hid (show Below w2.heap.size w2 ((w2.alloc (.cells (u8s z32).toArray 23)).setRow w2.heap.size (u8s Z).toArray) from below_setRow ((Below.refl _ _).alloc (Nat.le_refl _) _) (Nat.le_refl _) _);have RZ4:=hid (show Blk ((w2.alloc (.cells (u8s z32).toArray 23)).setRow w2.heap.size (u8s Z).toArray) w2.heap.size 23 ([]++(u8s Z++[])) by rw[List.nil_append,List.append_nil];exact RZ3.out.setRow _);have PK4:=hid (show Blk ((w2.alloc (.cells (u8s z32).toArray 23)).setRow w2.heap.size (u8s Z).toArray) w1.heap.size 89 ((.int .i64 (v:Int)::u8s I)++(u8s R++[])) by
   rw[List.append_nil,List.cons_append,←u8s_app];exact P3.out.below bst.out P3.out.lt)
  have B4:=hid (B3.out.trans (bst.out.mono B3.out.size));clear hZ b2 P2 P3 R1 B1 B2 B3 bst CA;rcases hor with⟨rfl,hL⟩ |⟨rfl,hL⟩
  ·by_cases hzr:Z=R
   ·have n1:∀ W,(binOp .neq 23 (.agg (u8s Z).toArray) (.agg (u8s R).toArray)).run Tryz.prog W= .ok (.bool false) W:=λW=>by rw[neqh Z R HZ.out HR.out W,decide_eq_true hzr];rfl
    have HE:=hid (show verN pub msg sig=0 by rw[HV.out,hL,if_pos (by rw[hzr])]);clear hzr hL HV
    go_wp2_with (first
     |((with_reducible refine store_blk 23 (.tmp 9) (.tmp 22) w2.heap.size 23 (u8s z32) (u8s Z) rfl rfl ?_ ?_ ?_ ?_ ?_ ?_ ?_);exact RZ3.out;exact hash_lenL _ HZ.out;exact size32 _ HZ.out;exact u8s_one _;exact rfl;exact rfl)
     |((with_reducible refine load_part_gd 27 23 (.tmp 9) w2.heap.size 0 23 [] (u8s Z) [] _ ?_ ?_ rfl ?_ rfl Tryz.underlying23 ?_ ?_ ?_ ?_);exact rfl;kernel_rfl;exact RZ4.out;exact rfl;exact size32 _ HZ.out;exact rfl)
     |((with_reducible refine load_part_gd 29 23 (.tmp 28) w1.heap.size 17 89 (.int .i64 (v:Int)::u8s I) (u8s R) [] _ ?_ ?_ rfl ?_ ?_ Tryz.underlying23 ?_ ?_ ?_ ?_);exact rfl;kernel_rfl;exact PK4.out;exact HI17.out;exact rfl;exact size32 _ HR.out;exact rfl))
    go_ret;exact⟨by rw[HE.out];rfl,B4.out⟩
   ·have n1:∀ W,(binOp .neq 23 (.agg (u8s Z).toArray) (.agg (u8s R).toArray)).run Tryz.prog W= .ok (.bool true) W:=λW=>by rw[neqh Z R HZ.out HR.out W,decide_eq_false hzr];rfl
    have HE:=hid (show verN pub msg sig=3 by rw[HV.out,hL,if_neg (λh=>hzr (Option.some.inj h))]);clear hzr hL HV
    go_wp2_with (first
     |((with_reducible refine store_blk 23 (.tmp 9) (.tmp 22) w2.heap.size 23 (u8s z32) (u8s Z) rfl rfl ?_ ?_ ?_ ?_ ?_ ?_ ?_);exact RZ3.out;exact hash_lenL _ HZ.out;exact size32 _ HZ.out;exact u8s_one _;exact rfl;exact rfl)
     |((with_reducible refine load_part_gd 27 23 (.tmp 9) w2.heap.size 0 23 [] (u8s Z) [] _ ?_ ?_ rfl ?_ rfl Tryz.underlying23 ?_ ?_ ?_ ?_);exact rfl;kernel_rfl;exact RZ4.out;exact rfl;exact size32 _ HZ.out;exact rfl)
     |((with_reducible refine load_part_gd 29 23 (.tmp 28) w1.heap.size 17 89 (.int .i64 (v:Int)::u8s I) (u8s R) [] _ ?_ ?_ rfl ?_ ?_ Tryz.underlying23 ?_ ?_ ?_ ?_);exact rfl;kernel_rfl;exact PK4.out;exact HI17.out;exact rfl;exact size32 _ HR.out;exact rfl))
    go_ret;exact⟨by rw[HE.out];rfl,B4.out⟩
  ·have HE:=hid (show verN pub msg sig=3 by rw[HV.out,hL,if_neg (λh=>by cases h)]);clear hL HV
   go_wp2_with ((with_reducible refine store_blk 23 (.tmp 9) (.tmp 22) w2.heap.size 23 (u8s z32) (u8s Z) rfl rfl ?_ ?_ ?_ ?_ ?_ ?_ ?_);exact RZ3.out;exact hash_lenL _ HZ.out;exact size32 _ HZ.out;exact u8s_one _;exact rfl;exact rfl)
   go_ret;exact⟨by rw[HE.out];rfl,B4.out⟩
theorem xor1_odd:∀ a:Nat,a<64→a % 2=1→a ^^^ 1=2 * (a / 2):=by decide
theorem xor1_even:∀ a:Nat,a<64→a % 2≠1→a ^^^ 1=2 * (a / 2)+1:=by decide
theorem step_half:∀ q:Nat,q<32→∀ j:Nat,j<5→1≤(32+q) / 2 ^ j / 2∧(32+q) / 2 ^ j / 2<32:=by decide
theorem tnode_leaf (I seed:List Nat) (i q:Nat) (hq:q<32):leafV I (32+q) (pubN I seed q i)=tnode I seed i (32+q):=by
 unfold tnode;rw[nod_at I seed i (32+q) (by omega) (by omega)];unfold nodeV;rw[if_neg (by omega),show 32+q-32=q by omega]
theorem tnode_step (I seed:List Nat) (i a:Nat) (ha:a<64) (h1:1≤a / 2) (h2:a / 2<32):stepX I a (tnode I seed i a) (tnode I seed i (a ^^^ 1))=tnode I seed i (a / 2):=by
 have e:tnode I seed i (a / 2)=innerV I (a / 2) (tnode I seed i (2 * (a / 2))) (tnode I seed i (2 * (a / 2)+1)):=by
  unfold tnode;rw[nod_at I seed i (a / 2) h1 (by omega)];unfold nodeV;rw[if_pos h2]
 rw[e];unfold stepX
 by_cases ho:a % 2=1
 ·rw[if_pos ho,xor1_odd a ha ho,show 2 * (a / 2)+1=a by omega]
 ·rw[if_neg ho,xor1_even a ha ho,show 2 * (a / 2)=a by omega]
theorem pathY_at (I seed:List Nat) (i q:Nat) (hq:q<32):∀ n j,n≤5→j<n→((pathN I seed i (32+q) n).drop (32 * j)).take 32=tnode I seed i (((32+q) / 2 ^ j) ^^^ 1)
 |0,j,_,hj=>absurd hj (by omega)
 |n+1,j,hn,hj=>by
  have hl:=pathN_length I seed i q hq n (by omega);have ht:∀ m,m≤5→(tnode I seed i (((32+q) / 2 ^ m) ^^^ 1)).length=32:=λm hm=>tnode_length I seed i _ (by have:=xor1_le _ (step_lt q m hq hm);omega)
  rw[pathN];rcases Nat.lt_or_ge j n with hlt |hge
  ·rw[List.drop_append_of_le_length (by omega),List.take_append_of_le_length (by rw[List.length_drop];omega)];exact pathY_at I seed i q hq n j (by omega) hlt
  ·obtain rfl:j=n:=by omega
   rw[←hl,List.drop_left,List.take_of_length_le (by rw[ht j (by omega)];exact Nat.le_refl _)]
theorem climb_tree (I seed:List Nat) (i q:Nat) (hq:q<32):∀ j,j≤5→climbN I (32+q) (leafV I (32+q) (pubN I seed q i)) (pathN I seed i (32+q) 5) j=tnode I seed i ((32+q) / 2 ^ j)
 |0,_=>by rw[climbN,tnode_leaf I seed i q hq,Nat.pow_zero,Nat.div_one]
 |j+1,h=>by
  have hs:=step_half q hq j (by omega);rw[climbN,climb_tree I seed i q hq j (by omega),pathY_at I seed i q hq 5 j (Nat.le_refl _) (by omega),tnode_step I seed i _ (vstep_lt q j hq) hs.1 hs.2,vstep_next]
theorem lcand_sign (I seed:List Nat) (i q:Nat) (msg:List Nat) (hi:i<4) (hq:q<32):lcandN I i msg (lsigN I seed i q msg)=some (tnode I seed i 1):=by
 have hl:(sigN I seed q i msg).length=osN i:=sigN_length I seed q i msg;have h4:(lsigN I seed i q msg).take 4=beN q 4:=by
  unfold lsigN;rw[List.append_assoc,List.append_assoc];exact List.take_left' (beN_length _ _)
 have d4:(lsigN I seed i q msg).drop 4=sigN I seed q i msg++(beN 5 4++pathN I seed i (32+q) 5):=by
  unfold lsigN;rw[List.append_assoc,List.append_assoc];exact List.drop_left' (beN_length _ _)
 have d5:(lsigN I seed i q msg).drop (4+osN i)=beN 5 4++pathN I seed i (32+q) 5:=by
  rw[←List.drop_drop,d4];exact List.drop_left' hl
 have d8:(lsigN I seed i q msg).drop (8+osN i)=pathN I seed i (32+q) 5:=by
  rw[show 8+osN i=(4+osN i)+4 by omega,←List.drop_drop,d5];exact List.drop_left' (beN_length _ _)
 have v4:val (beN q 4)=q:=by rw[val_beN];exact Nat.mod_eq_of_lt (by omega)
 unfold lcandN;rw[d8,d5,d4,h4,v4,List.take_left' hl,cand_sign,climb_tree I seed i q hq 5 (Nat.le_refl _),vstep_end q hq];refine if_pos ⟨by rw[lsigN_length I seed i q msg hq];rfl,hq,?_,?_⟩
 ·rw[List.take_left' (beN_length _ _),val_beN]
 ·rw[List.take_append_of_le_length (by rw[hl];unfold osN;omega)];exact sig_code I seed q i msg hi
theorem verN_sign (I seed:List Nat) (i q:Nat) (msg:List Nat) (hi:i<4) (hq:q<32) (hI:I.length=16):verN (lpubN I seed i) msg (lsigN I seed i q msg)=0:=by
 have hc:(kd i).code=i+1:=(by decide:∀ i:Nat,i<4→(kd i).code=i+1) i hi;have ht:(tnode I seed i 1).length=32:=tnode_length I seed i 1 (by decide);have e:lpubN I seed i=beN 5 4++(beN (kd i).code 4++(I++tnode I seed i 1)):=by unfold lpubN;simp only[List.append_assoc]
 have d4:(lpubN I seed i).drop 4=beN (kd i).code 4++(I++tnode I seed i 1):=by rw[e];exact List.drop_left' (beN_length _ _)
 have d8:(lpubN I seed i).drop 8=I++tnode I seed i 1:=by rw[show 8=4+4 from rfl,←List.drop_drop,d4];exact List.drop_left' (beN_length _ _)
 have v5:val ((lpubN I seed i).take 4)=5:=by rw[e,List.take_left' (beN_length _ _),val_beN]
 have vc:val (((lpubN I seed i).drop 4).take 4)=i+1:=by
  rw[d4,List.take_left' (beN_length _ _),val_beN,hc];exact Nat.mod_eq_of_lt (by omega)
 have hf:formN (lpubN I seed i)=true:=decide_eq_true ⟨lpubN_length I seed i hI,v5,by rw[vc];omega,by rw[vc];omega⟩;unfold verN;rw[if_pos hf,d8,vc,List.take_left' hI,List.drop_left' hI,Nat.add_sub_cancel,lcand_sign I seed i q msg hi hq,if_pos rfl]
end Go.Proofs.YtjlophplcmidlaaGreatDoor
