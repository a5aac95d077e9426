/-
  sync
  THE REFERENCE OF CHAPTER 4
-/
import Derived.Test.YtjlophplcmidlaaGreatDoorAd3
import Derived.Test.YtjlophplcmidlaaGreatDoorAd31
import Derived.Test.YtjlophplcmidlaaGreatDoorAd28
import Derived.Test.YtjlophplcmidlaaGreatDoorAd9
import Derived.Tactics2
import Derived.Defers
import Derived.Laws.Pointers
import Derived.Laws.LoneSync
import Derived.RegionTactic
import Derived.RegionCalls
import Derived.ChangeAlike
import Derived.Test.YtjlophplcmidlaaGreatDoorAd33
import Derived.Test.YtjlophplcmidlaaGreatDoorAd32
import Derived.Test.YtjlophplcmidlaaGreatDoorAd8
import Derived.Test.YtjlophplcmidlaaGreatDoorTk
open Go.Lib (hid)
set_option maxRecDepth 100000
namespace Go.Proofs.YtjlophplcmidlaaGreatDoor
open Go Go.RowKit Sh
section
section
section
section
theorem hash_lenL (l:List Nat) (h:l.length=32):(u8s z32).length=(u8s l).length:=by rw[u8s_length,u8s_length,h];rfl
set_option maxHeartbeats 1000000 in
theorem nodeText_t (I:List Nat) (r mark:Nat) (w:World) (hI:I.length=16) (hr:r<1000) (hm:mark<65536):
  Calls Tryz.prog 144 #[.agg (u8s I).toArray,.int .i64 (r:Int),.int .u64 (mark:Int)] w λe w'=>∃ g,e= .returned (.pointer (some ⟨g,0,none⟩))∧Wr w' (λk=>w.heap.size+1≤k) g (headN I r mark)∧Below w.heap.size w w':=by
 have HI:=hid hI;have q1:(0:Int)≤r:=by omega
 have q2:(r:Int)<1000:=by omega
 have S0:=hid ((Blk.new w 44 (u8s I)).alloc (.cells #[.pointer none,.int .i64 0] 119));have B0:=hid (((Below.refl w.heap.size w).alloc (Nat.le_refl _) (.cells (u8s I).toArray 44)).alloc (by simp) (.cells #[.pointer none,.int .i64 0] 119));have W0:=hid (Wr.new (w:=w.alloc (.cells (u8s I).toArray 44)));rw[show(w.alloc (.cells (u8s I).toArray 44)).heap.size=w.heap.size+1 from by simp] at W0;clear hI
 go_enter Tryz.func144,Tryz.ntmps144
 go_wp2_with fail
 refine(raw_s I (some ⟨w.heap.size,0,none⟩) 16 16 W0.out (Below.refl _ _) (by simp) HI.out (Sr.of_blk (rest:=[]) S0.out (by simp)) (by simp)).mono ?_
 rintro e w1 ⟨rfl,x1,b1⟩
 have B1:=hid (B0.out.trans (b1.mono (by omega)));have X1:=hid x1;have s1:w.heap.size+1≤w1.heap.size:=by have:=x1.lt;omega
 clear x1 b1 S0 B0 W0;go_wp2_with fail
 refine(num_s r 4 X1.out (Below.refl _ _) s1 (by omega) (by decide) (by decide) (by simp[HI.out])).mono ?_
 rintro e w2 ⟨rfl,x2,b2⟩
 have B2:=hid (B1.out.trans (b2.mono (by omega)));have X2:=hid x2;have s2:w.heap.size+1≤w2.heap.size:=by have:=x2.lt;omega
 clear x2 b2 B1 X1;go_wp2_with fail
 refine(num_s mark 2 X2.out (Below.refl _ _) s2 (by omega) (by decide) (by decide) (by simp[HI.out,beN_length])).mono ?_
 rintro e w3 ⟨rfl,x3,b3⟩
 have B3:=hid (B2.out.trans (b3.mono (by omega)));have X3:=hid x3;clear x3 b3 B2 X2;go_wp2_with fail
 go_ret;refine⟨_,rfl,?_,B3.out⟩;have h:=X3.out;rw[List.nil_append] at h;exact h
set_option maxHeartbeats 1000000 in
theorem leafNode_t (I X:List Nat) (r:Nat) (w:World) (hI:I.length=16) (hIb:Bytes I) (hX:X.length=32) (hXb:Bytes X) (hr:r<1000) (hk:KAt w):
  Calls Tryz.prog 122 #[.agg (u8s I).toArray,.int .i64 (r:Int),.agg (u8s X).toArray] w λe w'=>e= .returned (.agg (u8s (leafV I r X)).toArray)∧Below w.heap.size w w':=by
 have HI:=hid hI;have HIB:=hid hIb;have HX:=hid hX;have HXB:=hid hXb;have HK:=hid hk;have HG:=hid hk.lt;have I0:=hid (((Blk.new w 44 (u8s I)).alloc (.cells (u8s X).toArray 23)).alloc (.cells (u8s z32).toArray 23));have X0:=hid ((Blk.new2 w (.cells (u8s I).toArray 44) 23 (u8s X)).alloc (.cells (u8s z32).toArray 23));have R0:=hid (blk_at (w:=(w.alloc (.cells (u8s I).toArray 44)).alloc (.cells (u8s X).toArray 23)) (g:=w.heap.size+1+1) (by simp) (.cells (u8s z32).toArray 23) 23 (u8s z32));have B0:=hid ((((Below.refl w.heap.size w).alloc (Nat.le_refl _) (.cells (u8s I).toArray 44)).alloc (by simp) (.cells (u8s X).toArray 23)).alloc (by simp;omega) (.cells (u8s z32).toArray 23));clear hI hIb hX hXb hk
 go_enter Tryz.func122,Tryz.ntmps122
 go_wp2_with ((with_reducible refine load_blk 44 (.tmp 3) w.heap.size 44 (u8s I) _ rfl rfl ?_ Tryz.underlying44 ?_ ?_ ?_ ?_);exact I0.out;exact rfl;exact size16 _ HI.out;exact rfl)
 change Calls _ _ _ (((w.alloc (.cells (u8s I).toArray 44)).alloc (.cells (u8s X).toArray 23)).alloc (.cells (u8s z32).toArray 23)) _;obtain⟨W,hW⟩:∃ W,(((w.alloc (.cells (u8s I).toArray 44)).alloc (.cells (u8s X).toArray 23)).alloc (.cells (u8s z32).toArray 23))=W:=⟨_,rfl⟩;rw[hW] at I0 X0 R0 B0 ⊢;have hWs:W.heap.size=w.heap.size+3:=by rw[←hW];simp
 clear hW;refine(nodeText_t I r 33410 _ HI.out hr (by decide)).mono ?_
 rintro e w1 ⟨g,rfl,x1,b1⟩
 have X1:=hid (X0.out.below b1 X0.out.lt);have R1:=hid (R0.out.below b1 R0.out.lt);have B1:=hid (B0.out.trans (b1.mono B0.out.size));have T1:=hid x1;have s1:=x1.lt;have s2:W.heap.size+1≤g:=x1.mine;have s0:=R0.out.lt;clear x1 b1 I0 X0 R0 B0;go_wp2_with fail
 refine(raw_s X (some ⟨w.heap.size+1,0,none⟩) 32 32 T1.out (Below.refl _ _) (by omega) HX.out (Sr.of_blk (rest:=[]) X1.out (by simp)) (by simp[headN_length I r _ HI.out])).mono ?_
 rintro e w2 ⟨rfl,x2,b2⟩
 have R2:=hid (R1.out.below b2 (by omega));have B2:=hid (B1.out.trans (b2.mono (by omega)));have T2:=hid x2;clear x2 b2 X1 R1 B1 T1 s0 s1 s2;go_wp2_with fail
 refine(wbytes_t _ _ _ w2 T2.out (by simp[headN_length I r _ HI.out,HX.out])).mono ?_
 rintro e w6 ⟨v,rfl,o6,b6⟩
 have R6:=hid (R2.out.below b6 R2.out.lt);have B6:=hid (B2.out.trans (b6.mono B2.out.size));obtain⟨A',c,rfl,hc⟩:=own_form o6;have S6:=hid (Sr.of_own o6);have HTL:=hid (show(headN I r 33410++X).length=54 by simp[headN_length I r _ HI.out,HX.out]);have HTB:=hid (show Bytes (headN I r 33410++X) from app_bytes (headN_bytes _ _ _ HIB.out) HXB.out);have HSE:=hid (show leafV I r X=sum (headN I r 33410++X) from rfl);obtain⟨T,hT⟩:∃ T,headN I r 33410++X=T:=⟨_,rfl⟩;rw[hT] at S6 HTL HTB HSE hc ⊢;rw[HTL.out] at hc ⊢;have HC:=hid hc;clear hT o6 b6 T2 R2 B2 hc;go_wp2_with fail
 refine(sum_u T A' 54 c w6 HTB.out S6.out HTL.out HC.out (by decide) (HK.out.below B6.out HG.out)).mono ?_
 rintro e w7 ⟨rfl,b7⟩
 have R7:=hid (R6.out.below b7 R6.out.lt);have B7:=hid (B6.out.trans (b7.mono B6.out.size));have HSL:=hid (show(sum T).length=32 from rfl);obtain⟨S,hS⟩:∃ S,sum T=S:=⟨_,rfl⟩;rw[hS] at HSL HSE ⊢;clear b7 hS R6 B6
 go_wp2_with ((with_reducible refine store_blk 23 (.tmp 6) (.tmp 16) (w.heap.size+1+1) 23 (u8s z32) (u8s S) rfl rfl ?_ ?_ ?_ ?_ ?_ ?_ ?_);exact R7.out;exact hash_lenL _ HSL.out;exact size32 _ HSL.out;exact u8s_one _;exact rfl;exact rfl)
 exact ret_blk (p:=6) (ty:=23) rfl rfl (w.heap.size+1+1) 23 _ _ rfl (R7.out.setRow _) Tryz.underlying23 rfl (size32 _ HSL.out) ⟨by rw[HSE.out],below_setRow B7.out (by omega) _⟩
set_option maxHeartbeats 1000000 in
theorem innerNode_t (I X Y:List Nat) (r:Nat) (w:World) (hI:I.length=16) (hIb:Bytes I) (hX:X.length=32) (hXb:Bytes X) (hY:Y.length=32) (hYb:Bytes Y) (hr:r<1000) (hk:KAt w):
  Calls Tryz.prog 123 #[.agg (u8s I).toArray,.int .i64 (r:Int),.agg (u8s X).toArray,.agg (u8s Y).toArray] w λe w'=>e= .returned (.agg (u8s (innerV I r X Y)).toArray)∧Below w.heap.size w w':=by
 have HI:=hid hI;have HIB:=hid hIb;have HX:=hid hX;have HXB:=hid hXb;have HY:=hid hY;have HYB:=hid hYb;have HK:=hid hk;have HG:=hid hk.lt;have I0:=hid ((((Blk.new w 44 (u8s I)).alloc (.cells (u8s X).toArray 23)).alloc (.cells (u8s Y).toArray 23)).alloc (.cells (u8s z32).toArray 23));have X0:=hid (((Blk.new2 w (.cells (u8s I).toArray 44) 23 (u8s X)).alloc (.cells (u8s Y).toArray 23)).alloc (.cells (u8s z32).toArray 23));have Y0:=hid ((blk_at (w:=(w.alloc (.cells (u8s I).toArray 44)).alloc (.cells (u8s X).toArray 23)) (g:=w.heap.size+1+1) (by simp) (.cells (u8s Y).toArray 23) 23 (u8s Y)).alloc (.cells (u8s z32).toArray 23));have R0:=hid (blk_at (w:=((w.alloc (.cells (u8s I).toArray 44)).alloc (.cells (u8s X).toArray 23)).alloc (.cells (u8s Y).toArray 23)) (g:=w.heap.size+1+1+1) (by simp) (.cells (u8s z32).toArray 23) 23 (u8s z32));have B0:=hid (((((Below.refl w.heap.size w).alloc (Nat.le_refl _) (.cells (u8s I).toArray 44)).alloc (by simp) (.cells (u8s X).toArray 23)).alloc (by simp;omega) (.cells (u8s Y).toArray 23)).alloc (by simp;omega) (.cells (u8s z32).toArray 23));clear hI hIb hX hXb hk hY hYb
 go_enter Tryz.func123,Tryz.ntmps123
 go_wp2_with ((with_reducible refine load_blk 44 (.tmp 4) w.heap.size 44 (u8s I) _ rfl rfl ?_ Tryz.underlying44 ?_ ?_ ?_ ?_);exact I0.out;exact rfl;exact size16 _ HI.out;exact rfl)
 change Calls _ _ _ ((((w.alloc (.cells (u8s I).toArray 44)).alloc (.cells (u8s X).toArray 23)).alloc (.cells (u8s Y).toArray 23)).alloc (.cells (u8s z32).toArray 23)) _;obtain⟨W,hW⟩:∃ W,((((w.alloc (.cells (u8s I).toArray 44)).alloc (.cells (u8s X).toArray 23)).alloc (.cells (u8s Y).toArray 23)).alloc (.cells (u8s z32).toArray 23))=W:=⟨_,rfl⟩;rw[hW] at I0 X0 Y0 R0 B0 ⊢;have hWs:W.heap.size=w.heap.size+4:=by rw[←hW];simp
 clear hW;refine(nodeText_t I r 33667 _ HI.out hr (by decide)).mono ?_
 rintro e w1 ⟨g,rfl,x1,b1⟩
 have X1:=hid (X0.out.below b1 X0.out.lt);have Y1:=hid (Y0.out.below b1 Y0.out.lt);have R1:=hid (R0.out.below b1 R0.out.lt);have B1:=hid (B0.out.trans (b1.mono B0.out.size));have T1:=hid x1;have s1:=x1.lt;have s2:W.heap.size+1≤g:=x1.mine;have s0:=R0.out.lt;clear x1 b1 I0 X0 Y0 R0 B0;go_wp2_with fail
 refine(raw_s X (some ⟨w.heap.size+1,0,none⟩) 32 32 T1.out (Below.refl _ _) (by omega) HX.out (Sr.of_blk (rest:=[]) X1.out (by simp)) (by simp[headN_length I r _ HI.out])).mono ?_
 rintro e w2 ⟨rfl,x2,b2⟩
 have Y2:=hid (Y1.out.below b2 (by omega));have R2:=hid (R1.out.below b2 (by omega));have B2:=hid (B1.out.trans (b2.mono (by omega)));have T2:=hid x2;have s3:=x2.lt;clear x2 b2 X1 Y1 R1 B1 T1;go_wp2_with fail
 refine(raw_s Y (some ⟨w.heap.size+1+1,0,none⟩) 32 32 T2.out (Below.refl _ _) (by omega) HY.out (Sr.of_blk (rest:=[]) Y2.out (by simp)) (by simp[headN_length I r _ HI.out,HX.out])).mono ?_
 rintro e w3 ⟨rfl,x3,b3⟩
 have R3:=hid (R2.out.below b3 (by omega));have B3:=hid (B2.out.trans (b3.mono (by omega)));have T3:=hid x3;clear x3 b3 Y2 R2 B2 T2 s0 s1 s2 s3;go_wp2_with fail
 refine(wbytes_t _ _ _ w3 T3.out (by simp[headN_length I r _ HI.out,HX.out,HY.out])).mono ?_
 rintro e w6 ⟨v,rfl,o6,b6⟩
 have R6:=hid (R3.out.below b6 R3.out.lt);have B6:=hid (B3.out.trans (b6.mono B3.out.size));obtain⟨A',c,rfl,hc⟩:=own_form o6;have S6:=hid (Sr.of_own o6);have HTL:=hid (show(headN I r 33667++X++Y).length=86 by simp[headN_length I r _ HI.out,HX.out,HY.out]);have HTB:=hid (show Bytes (headN I r 33667++X++Y) from app_bytes (app_bytes (headN_bytes _ _ _ HIB.out) HXB.out) HYB.out);have HSE:=hid (show innerV I r X Y=sum (headN I r 33667++X++Y) from rfl);obtain⟨T,hT⟩:∃ T,headN I r 33667++X++Y=T:=⟨_,rfl⟩;rw[hT] at S6 HTL HTB HSE hc ⊢;rw[HTL.out] at hc ⊢;have HC:=hid hc;clear hT o6 b6 T3 R3 B3 hc;go_wp2_with fail
 refine(sum_u T A' 86 c w6 HTB.out S6.out HTL.out HC.out (by decide) (HK.out.below B6.out HG.out)).mono ?_
 rintro e w7 ⟨rfl,b7⟩
 have R7:=hid (R6.out.below b7 R6.out.lt);have B7:=hid (B6.out.trans (b7.mono B6.out.size));have HSL:=hid (show(sum T).length=32 from rfl);obtain⟨S,hS⟩:∃ S,sum T=S:=⟨_,rfl⟩;rw[hS] at HSL HSE ⊢;clear b7 hS R6 B6
 go_wp2_with ((with_reducible refine store_blk 23 (.tmp 8) (.tmp 21) (w.heap.size+1+1+1) 23 (u8s z32) (u8s S) rfl rfl ?_ ?_ ?_ ?_ ?_ ?_ ?_);exact R7.out;exact hash_lenL _ HSL.out;exact size32 _ HSL.out;exact u8s_one _;exact rfl;exact rfl)
 exact ret_blk (p:=8) (ty:=23) rfl rfl (w.heap.size+1+1+1) 23 _ _ rfl (R7.out.setRow _) Tryz.underlying23 rfl (size32 _ HSL.out) ⟨by rw[HSE.out],below_setRow B7.out (by omega) _⟩
section
variable {I seed : List Nat} {v dn st mk : Nat} {L : List Nat}
theorem put_self (L:List Nat) (r:Nat):put32 L r (hAt L r)=L:=by
 unfold put32 hAt;rw[←List.drop_drop,List.take_append_drop,List.take_append_drop]
end
section
variable {w : World} {g : Nat} {I seed : List Nat} {v dn st mk : Nat} {L : List Nat}
end
end
end
def tnode (I seed:List Nat) (i r:Nat):List Nat:=hAt (nod I seed i 63) r
theorem tnode_length (I seed:List Nat) (i r:Nat) (hr:r≤63):(tnode I seed i r).length=32:=hAt_length _ _ (by rw[nod_length I seed i 63 (Nat.le_refl _)];omega)
theorem tnode_bytes (I seed:List Nat) (i r:Nat) (hi:i<4) (hI:Bytes I) (hs:Bytes seed):Bytes (tnode I seed i r):=hAt_bytes _ _ (nod_bytes I seed i hi hI hs 63)
end
theorem Sr.of_range {w:World} {g o:Nat} {xs:List Nat} (h:w.rangeAt g o (u8s xs)) (hg:g<w.heap.size):Sr w (some ⟨g,o,none⟩) xs:=λ_=>⟨g,o,rfl,hg,λj hj=>h j _ (u8s_get xs j hj)⟩
def lpubN (I seed:List Nat) (i:Nat):List Nat:=beN 5 4++beN (kd i).code 4++I++tnode I seed i 1
theorem lpubN_length (I seed:List Nat) (i:Nat) (hI:I.length=16):(lpubN I seed i).length=56:=by
 unfold lpubN;simp only[List.length_append,beN_length,hI,tnode_length I seed i 1 (by decide)]
theorem lpubN_bytes (I seed:List Nat) (i:Nat) (hi:i<4) (hI:Bytes I) (hs:Bytes seed):Bytes (lpubN I seed i):=app_bytes (app_bytes (app_bytes (beN_bytes _ _) (beN_bytes _ _)) hI) (tnode_bytes I seed i 1 hi hI hs)
def pathN (I seed:List Nat) (i r:Nat):Nat→List Nat
 |0=>[]
 |j+1=>pathN I seed i r j++tnode I seed i ((r / 2 ^ j) ^^^ 1)
def lsigN (I seed:List Nat) (i q:Nat) (msg:List Nat):List Nat:=beN q 4++sigN I seed q i msg++beN 5 4++pathN I seed i (32+q) 5
theorem xor1_le:∀ r:Nat,r<64→r ^^^ 1<64:=by decide
theorem xor1_i64 (r:Nat) (hr:r<64):bits .xor .i64 (r:Int) 1=((r ^^^ 1:Nat):Int):=by
 have h:∀ r:Nat,r<64→bits .xor .i64 (r:Int) 1=((r ^^^ 1:Nat):Int):=by decide+kernel
 exact h r hr
theorem step_lt (q j:Nat) (hq:q<32) (_:j≤5):(32+q) / 2 ^ j<64:=Nat.lt_of_le_of_lt (Nat.div_le_self _ _) (by omega)
theorem step_gt:∀ q:Nat,q<32→∀ j:Nat,j<5→1< (32+q) / 2 ^ j:=by decide
theorem step_end:∀ q:Nat,q<32→(32+q) / 2 ^ 5=1:=by decide
theorem step_next (q j:Nat):(32+q) / 2 ^ j / 2=(32+q) / 2 ^ (j+1):=by rw[Nat.div_div_eq_div_mul,Nat.pow_succ]
theorem pathN_length (I seed:List Nat) (i q:Nat) (hq:q<32):∀ j,j≤5→(pathN I seed i (32+q) j).length=32 * j
 |0,_=>rfl
 |j+1,h=>by
  rw[pathN,List.length_append,pathN_length I seed i q hq j (by omega),tnode_length I seed i _ (by have:=xor1_le _ (step_lt q j hq (by omega));omega)];omega
theorem pathN_bytes (I seed:List Nat) (i r:Nat) (hi:i<4) (hI:Bytes I) (hs:Bytes seed):∀ j,Bytes (pathN I seed i r j)
 |0=>λ_=>by rw[pathN,gt_out (Nat.zero_le _)];decide
 |j+1=>app_bytes (pathN_bytes I seed i r hi hI hs j) (tnode_bytes I seed i _ hi hI hs)
theorem lsigN_length (I seed:List Nat) (i q:Nat) (msg:List Nat) (hq:q<32):(lsigN I seed i q msg).length=204+32 * (kd i).p:=by
 unfold lsigN;rw[List.length_append,List.length_append,List.length_append,beN_length,beN_length,sigN_length,pathN_length I seed i q hq 5 (by decide)];omega
theorem lsigN_bytes (I seed:List Nat) (i q:Nat) (msg:List Nat) (hi:i<4) (hI:Bytes I) (hs:Bytes seed):Bytes (lsigN I seed i q msg):=app_bytes (app_bytes (app_bytes (beN_bytes _ _) (sigN_bytes I seed q i msg hi hI hs)) (beN_bytes _ _)) (pathN_bytes I seed i _ hi hI hs 5)
end
def widN (b:List Nat):Nat:=if 1≤val b∧val b≤4 then(kd (val b-1)).w else 0
theorem kd_pow:∀ j:Nat,j<4→(kd j).w=2 ^ j:=by decide
theorem kd_codeB:∀ j:Nat,j<4→(kd j).code=j+1:=by decide
theorem pow_le8:∀ j:Nat,j<4→2 ^ j≤8∧2 * 2 ^ j=2 ^ (j+1)∧1≤2 ^ j:=by decide
set_option maxHeartbeats 2000000 in
theorem refwidth_t (xs:List Nat) (A:Option Addr) (c:Nat) (w:World) (hx:xs.length=4) (hp:Sr w A xs) (hb:Bytes xs):
  Calls Tryz.prog 56 #[.slice A 4 c] w λe w'=>e= .returned (.int .i64 (widN xs:Nat))∧Below w.heap.size w w':=by
 have HX:=hid hx;have HP:=hid hp;have HB:=hid hb;have CO:=hid (λj (hj:j<4) W=>show Calls Tryz.prog 35 #[.int .i64 ((2 ^ j:Nat):Int)] W λe w'=>e= .returned (.int .u64 ((j+1:Nat):Int))∧W=w' by
  have h:=refcode_t j hj W;rw[kd_pow j hj,kd_codeB j hj] at h;exact h)
 have SAME:=hid (λj (hj:j<4)=>show decide (xs=beN (j+1) 4)=decide (val xs=j+1) by
  have h:=code_eq xs (j+1) (by omega) hb (by omega);rw[List.take_of_length_le (by omega)] at h;exact decide_eq_decide.2 h)
 clear hx hp hb
 go_enter Tryz.func56,Tryz.ntmps56
 go_upto_region 2 with(fail)
 go_loopw [3] (λs wr=>∃ j:Nat,j≤4∧s= .int .i64 ((2 ^ j:Nat):Int)∧(∀ k,k<j→val xs≠k+1)∧Below w.heap.size w wr) (λs _=>17- (intOf s).toNat)
 case atStart=>exact⟨0,by omega,rfl,λk hk=>by omega,Below.refl _ _⟩
 case round=>
  obtain⟨j,hj,rfl,hno,b0⟩:=hrel;have B0:=hid b0;have HNO:=hid hno;clear b0 hno
  by_cases hlt:j<4
  ·have hpw:=pow_le8 j hlt;have COj:=hid (CO.out j hlt);have SMj:=hid (SAME.out j hlt);have HNX:=hid (show((2 ^ (j+1):Nat):Int)=2 * ((2 ^ j:Nat):Int) by rw[←hpw.2.1];omega);have hkw:=hid (kd_pow j hlt);obtain⟨v,hv⟩:∃ x,2 ^ j=x:=⟨_,rfl⟩;rw[hv] at COj HNX hkw hpw ⊢;have v8:(v:Int)≤8:=by omega
   have v1:(1:Int)≤(v:Int):=by omega
   have e1:IntKind.i64.wrap (2 * (v:Int))=2 * (v:Int):=IntWalk.i64_in _ (by omega);clear hv hpw;go_wp2_with fail
   refine(COj.out _).mono ?_
   rintro e w1 ⟨rfl,rfl⟩
   go_wp2_with fail
   refine(refnum_t (j+1) 4 _ (by decide) (by decide)).mono ?_
   rintro e w2 ⟨u,rfl,f2⟩
   obtain⟨A2,c2,rfl,hc2,s2,b2⟩:=fresh_op f2;rw[beN_length] at hc2 ⊢;have B2:=hid (B0.out.trans (b2.mono B0.out.size));have S2:=hid s2;clear f2 hc2 s2 b2 B0;go_wp2_with fail
   refine(same_texts xs (beN (j+1) 4) A A2 4 4 c c2 w2 HX.out (beN_length _ _) (HP.out.below B2.out) S2.out HB.out (beN_bytes _ _)).mono ?_
   rintro e w3 ⟨rfl,rfl⟩
   rw[SMj.out]
   by_cases hc:val xs=j+1
   ·rw[decide_eq_true hc];have HE:=hid (show widN xs=v by unfold widN;rw[if_pos (by omega),hc,Nat.add_sub_cancel];exact hkw.out);clear e1;go_wp2_with fail
    go_ret;exact⟨by rw[HE.out];rfl,B2.out⟩
   ·rw[decide_eq_false hc];have HC:=hid hc;clear hc;go_wp2_with fail
    go_roundw
    case rel=>
     refine⟨j+1,by omega,by rw[HNX.out],λk hk=>?_,B2.out⟩;rcases Nat.lt_or_ge k j with h |h
     ·exact HNO.out k h
     ·obtain rfl:k=j:=by omega
      exact HC.out
    case measure=>simp[intOf];omega
  ·obtain rfl:j=4:=by omega
   have HE:=hid (show widN xs=0 by unfold widN;rw[if_neg (λh=>HNO.out (val xs-1) (by omega) (by omega))]);go_wp2_with fail
   go_ret;exact⟨by rw[HE.out];rfl,B0.out⟩
theorem refsize_t (i:Nat) (hi:i<4) (w:World):Calls Tryz.prog 58 #[.int .i64 ((kd i).w:Int)] w λe w'=>e= .returned (.int .i64 ((lszN i:Nat):Int))∧w=w':=by
 have CH:=hid (λW=>refchains_t i hi W);have hp:=kd_p i hi;have hp1:1≤(kd i).p:=(by decide:∀ i:Nat,i<4→1≤(kd i).p) i hi;have HE:=hid (show lszN i=204+32 * (kd i).p from rfl);obtain⟨p,hpp⟩:∃ p,(kd i).p=p:=⟨_,rfl⟩;obtain⟨v,hv⟩:∃ v,(kd i).w=v:=⟨_,rfl⟩;rw[hpp] at CH hp hp1 HE;rw[hv] at CH ⊢;have t0:((p:Int) == 0)=false:=by rw[beq_eq_false_iff_ne];omega
 have e1:IntKind.i64.wrap (32 * (p:Int))=32 * (p:Int):=IntWalk.i64_in _ (by omega);clear hpp hv
 go_enter Tryz.func58,Tryz.ntmps58
 go_wp2_with fail
 refine(CH.out _).mono ?_
 rintro e w1 ⟨rfl,rfl⟩
 go_wp2_with fail
 refine(CH.out _).mono ?_
 rintro e w1 ⟨rfl,rfl⟩
 go_wp2_with fail
 go_ret;rw[HE.out];exact⟨congrArg (λz=>Ending.returned (Value.int .i64 z)) (show 40+32 * (p:Int)+4+160=((204+32 * p:Nat):Int) by omega),rfl⟩
set_option maxHeartbeats 2000000 in
theorem refform_no (xs:List Nat) (A:Option Addr) (m c:Nat) (w:World) (hx:xs.length=m) (_:m≤9223372036854775807) (h56:m≠56):
  Calls Tryz.prog 54 #[.slice A m c] w λe w'=>e= .returned (.bool (formN xs))∧Below w.heap.size w w':=by
 have HX:=hid hx;have hne:((m:Int) == 56)=false:=by rw[beq_eq_false_iff_ne];omega
 clear hx;have B0:=hid ((Below.refl w.heap.size w).drew)
 go_enter Tryz.func54,Tryz.ntmps54
 go_upto_region 1 with(fail)
 refine wp_region_held (S:=λ_=>True) (by kernel_rfl) ?_;change wpAnyH _ _ _ _ _ _ _ _ w.drew;obtain⟨V,hV⟩:∃ V,w.drew=V:=⟨_,rfl⟩;rw[hV] at B0 ⊢;clear hV;refine tka9 0 trivial ?_;refine tka9 1 trivial ?_;refine tka9 2 trivial ?_;refine tka9 3 trivial ?_;refine tku9 4 trivial ?_;refine tku9 5 trivial ?_;refine tku9 6 trivial ?_;refine tku9 7 trivial ?_;refine tka9 8 trivial ?_;refine tka9 9 trivial ?_;refine tku9 10 trivial ?_;refine tku9 11 trivial ?_;refine tku9 12 trivial ?_;refine tku9 13 trivial ?_;refine tka9 14 trivial ?_;refine tka9 15 trivial ?_;refine wpAnyH_done (by kernel_rfl) ?_ _;go_simp;go_wp2_with fail
 go_ret;exact⟨by rw[show formN xs=false from decide_eq_false (λh=>h56 (by rw[←HX.out];exact h.1))];rfl,B0.out⟩
set_option maxHeartbeats 2000000 in
theorem refform_yes (xs:List Nat) (A:Option Addr) (c:Nat) (w:World) (hx:xs.length=56) (hp:Sr w A xs) (hb:Bytes xs) (hc:56≤c):
  Calls Tryz.prog 54 #[.slice A 56 c] w λe w'=>e= .returned (.bool (formN xs))∧Below w.heap.size w w':=by
 have HX:=hid hx;have HP:=hid hp;have HB:=hid hb;have HT4:=hid (show(xs.take 4).length=4∧Bytes (xs.take 4) from⟨by rw[List.length_take];omega,bytes_take hb 4⟩);have HT8:=hid (show((xs.drop 4).take 4).length=4∧Bytes ((xs.drop 4).take 4) from⟨by rw[List.length_take,List.length_drop];omega,bytes_take (bytes_drop hb 4) 4⟩);have HC5:=hid (code_eq xs 5 (by omega) hb (by omega));have hs4:=slice_high (P:=Tryz.prog) (t:=25) (e:=5) Tryz.underlying25 byte_size A 56 c .i64 4 (by omega);rw[show((4:Nat):Int)=4 from rfl] at hs4;obtain⟨p2,hp2,hs8⟩:=slice_mid (P:=Tryz.prog) (t:=25) (e:=5) Tryz.underlying25 byte_size A 56 c 4 8 (by omega) (by omega);rw[show((4:Nat):Int)=4 from rfl,show((8:Nat):Int)=8 from rfl,show 8-4=4 from rfl] at hs8;have SP:=hid (λW (h:Sr W A xs)=>show Sr W p2 ((xs.drop 4).take 4) from(h.drop (p2:=p2) (n:=4) (λ_=>hp2 (by omega))).take 4);obtain⟨c8,hc8⟩:∃ x,c-4=x:=⟨_,rfl⟩;rw[hc8] at hs8;clear hx hp hb hp2 hc8;have B0:=hid ((Below.refl w.heap.size w).drew)
 go_enter Tryz.func54,Tryz.ntmps54
 go_upto_region 1 with(fail)
 refine wp_region_held (S:=λ_=>True) (by kernel_rfl) ?_;change wpAnyH _ _ _ _ _ _ _ _ w.drew;obtain⟨V,hV⟩:∃ V,w.drew=V:=⟨_,rfl⟩;rw[hV] at B0 ⊢;clear hV;refine tka9 0 trivial ?_;refine tka9 1 trivial ?_;refine tka9 2 trivial ?_;refine tka9 3 trivial ?_;refine tka9 4 trivial ?_;refine tka9 5 trivial ?_
 by_cases h5:val (xs.take 4)=5
 ·skip
  refine rd9 6 λK hK=>?_
  go_simp;refine(refnum_t 5 4 V (by decide) (by decide)).mono ?_
  rintro e w5 ⟨u,rfl,f5⟩
  obtain⟨A5,c5,rfl,hc5,s5,b5⟩:=fresh_op f5;rw[beN_length] at hc5 ⊢;have B5:=hid (B0.out.trans (b5.mono B0.out.size));have S5:=hid s5;clear f5 hc5 s5 b5 B0;refine hK.out _ _ trivial (λ_=>?_);clear hK K;refine rd9 7 λK hK=>?_
  go_simp;refine(same_texts (xs.take 4) (beN 5 4) A A5 4 4 c c5 w5 HT4.out.1 (beN_length _ _) ((HP.out.below B5.out).take 4) S5.out HT4.out.2 (beN_bytes _ _)).mono ?_
  rintro e w6 ⟨rfl,rfl⟩
  rw[show decide (xs.take 4=beN 5 4)=true from decide_eq_true (HC5.out.2 h5)];refine hK.out _ _ trivial (λ_=>?_);clear hK K;refine tka9 8 trivial ?_;refine tka9 9 trivial ?_;refine tka9 10 trivial ?_;refine tka9 11 trivial ?_;refine rd9 12 λK hK=>?_
  go_simp;refine(refwidth_t ((xs.drop 4).take 4) p2 c8 w5 HT8.out.1 (SP.out _ (HP.out.below B5.out)) HT8.out.2).mono ?_
  rintro e w6 ⟨rfl,b6⟩
  have B6:=hid (B5.out.trans (b6.mono B5.out.size));have HF:=hid (show decide (0<widN ((xs.drop 4).take 4))=formN xs from by
   unfold formN widN;refine decide_eq_decide.2 ?_;have h8:=HX.out
   by_cases hv:1≤val ((xs.drop 4).take 4)∧val ((xs.drop 4).take 4)≤4
   ·rw[if_pos hv];have:=(kd_w8b (val ((xs.drop 4).take 4) -1)).2;exact⟨λ_=>⟨h8,h5,hv⟩,λ_=>by omega⟩
   ·rw[if_neg hv];exact⟨λh=>absurd h (by decide),λh=>absurd h.2.2 hv⟩)
  obtain⟨u,hu⟩:∃ x,widN ((xs.drop 4).take 4)=x:=⟨_,rfl⟩;rw[hu] at HF ⊢;clear b6 B5 hu;refine hK.out _ _ trivial (λ_=>?_);clear hK K;refine tka9 13 trivial ?_;refine tka9 14 trivial ?_;refine tka9 15 trivial ?_;refine wpAnyH_done (by kernel_rfl) ?_ _;go_simp;go_wp2_with fail
  go_ret;exact⟨by rw[←HF.out];rfl,B6.out⟩
 ·skip
  refine rd9 6 λK hK=>?_
  go_simp;refine(refnum_t 5 4 V (by decide) (by decide)).mono ?_
  rintro e w5 ⟨u,rfl,f5⟩
  obtain⟨A5,c5,rfl,hc5,s5,b5⟩:=fresh_op f5;rw[beN_length] at hc5 ⊢;have B5:=hid (B0.out.trans (b5.mono B0.out.size));have S5:=hid s5;clear f5 hc5 s5 b5 B0;refine hK.out _ _ trivial (λ_=>?_);clear hK K;refine rd9 7 λK hK=>?_
  go_simp;refine(same_texts (xs.take 4) (beN 5 4) A A5 4 4 c c5 w5 HT4.out.1 (beN_length _ _) ((HP.out.below B5.out).take 4) S5.out HT4.out.2 (beN_bytes _ _)).mono ?_
  rintro e w6 ⟨rfl,rfl⟩
  rw[show decide (xs.take 4=beN 5 4)=false from decide_eq_false (λh=>h5 (HC5.out.1 h))];refine hK.out _ _ trivial (λ_=>?_);clear hK K;refine tka9 8 trivial ?_;refine tka9 9 trivial ?_;refine tku9 10 trivial ?_;refine tku9 11 trivial ?_;refine tku9 12 trivial ?_;refine tku9 13 trivial ?_;refine tka9 14 trivial ?_;refine tka9 15 trivial ?_;refine wpAnyH_done (by kernel_rfl) ?_ _;go_simp;go_wp2_with fail
  go_ret;exact⟨by rw[show formN xs=false from decide_eq_false (λh=>h5 h.2.1)];rfl,B5.out⟩
theorem refform_t (xs:List Nat) (A:Option Addr) (m c:Nat) (w:World) (hx:xs.length=m) (hp:Sr w A xs) (hb:Bytes xs) (hml:m≤9223372036854775807) (hc:m≤c):
  Calls Tryz.prog 54 #[.slice A m c] w λe w'=>e= .returned (.bool (formN xs))∧Below w.heap.size w w':=by
 by_cases h56:m=56
 ·subst h56;exact refform_yes xs A c w hx hp hb hc
 ·exact refform_no xs A m c w hx hml h56
end Go.Proofs.YtjlophplcmidlaaGreatDoor
