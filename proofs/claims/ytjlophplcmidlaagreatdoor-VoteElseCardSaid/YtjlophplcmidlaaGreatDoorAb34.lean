/-
  sync
  THE REFERENCE OF CHAPTER 4
-/
import Derived.Test.YtjlophplcmidlaaGreatDoorAb3
import Derived.Test.YtjlophplcmidlaaGreatDoorAb31
import Derived.Test.YtjlophplcmidlaaGreatDoorAb28
import Derived.Test.YtjlophplcmidlaaGreatDoorAb9
import Derived.Tactics2
import Derived.Defers
import Derived.Laws.Pointers
import Derived.Laws.LoneSync
import Derived.RegionTactic
import Derived.RegionCalls
import Derived.ChangeAlike
import Derived.Test.YtjlophplcmidlaaGreatDoorAb33
import Derived.Test.YtjlophplcmidlaaGreatDoorAb32
import Derived.Test.YtjlophplcmidlaaGreatDoorAb8
open Go.Lib (hid)
set_option maxRecDepth 100000
namespace Go.Proofs.YtjlophplcmidlaaGreatDoor
open Go Go.RowKit Sh
section
section
section
section
theorem hash_lenL (l:List Nat) (h:l.length=32):(u8s z32).length=(u8s l).length:=by rw[u8s_length,u8s_length,h];rfl
set_option maxHeartbeats 1000000 in
theorem nodeText_t (I:List Nat) (r mark:Nat) (w:World) (hI:I.length=16) (hr:r<1000) (hm:mark<65536):
  Calls Tryz.prog 144 #[.agg (u8s I).toArray,.int .i64 (r:Int),.int .u64 (mark:Int)] w λe w'=>∃ g,e= .returned (.pointer (some ⟨g,0,none⟩))∧Wr w' (λk=>w.heap.size+1≤k) g (headN I r mark)∧Below w.heap.size w w':=by
 have HI:=hid hI;have q1:(0:Int)≤r:=by omega
 have q2:(r:Int)<1000:=by omega
 have S0:=hid ((Blk.new w 44 (u8s I)).alloc (.cells #[.pointer none,.int .i64 0] 119));have B0:=hid (((Below.refl w.heap.size w).alloc (Nat.le_refl _) (.cells (u8s I).toArray 44)).alloc (by simp) (.cells #[.pointer none,.int .i64 0] 119));have W0:=hid (Wr.new (w:=w.alloc (.cells (u8s I).toArray 44)));rw[show(w.alloc (.cells (u8s I).toArray 44)).heap.size=w.heap.size+1 from by simp] at W0;clear hI
 go_enter Tryz.func144,Tryz.ntmps144
 go_wp2_with fail
 refine(raw_s I (some ⟨w.heap.size,0,none⟩) 16 16 W0.out (Below.refl _ _) (by simp) HI.out (Sr.of_blk (rest:=[]) S0.out (by simp)) (by simp)).mono ?_
 rintro e w1 ⟨rfl,x1,b1⟩
 have B1:=hid (B0.out.trans (b1.mono (by omega)));have X1:=hid x1;have s1:w.heap.size+1≤w1.heap.size:=by have:=x1.lt;omega
 clear x1 b1 S0 B0 W0;go_wp2_with fail
 refine(num_s r 4 X1.out (Below.refl _ _) s1 (by omega) (by decide) (by decide) (by simp[HI.out])).mono ?_
 rintro e w2 ⟨rfl,x2,b2⟩
 have B2:=hid (B1.out.trans (b2.mono (by omega)));have X2:=hid x2;have s2:w.heap.size+1≤w2.heap.size:=by have:=x2.lt;omega
 clear x2 b2 B1 X1;go_wp2_with fail
 refine(num_s mark 2 X2.out (Below.refl _ _) s2 (by omega) (by decide) (by decide) (by simp[HI.out,beN_length])).mono ?_
 rintro e w3 ⟨rfl,x3,b3⟩
 have B3:=hid (B2.out.trans (b3.mono (by omega)));have X3:=hid x3;clear x3 b3 B2 X2;go_wp2_with fail
 go_ret;refine⟨_,rfl,?_,B3.out⟩;have h:=X3.out;rw[List.nil_append] at h;exact h
set_option maxHeartbeats 1000000 in
theorem leafNode_t (I X:List Nat) (r:Nat) (w:World) (hI:I.length=16) (hIb:Bytes I) (hX:X.length=32) (hXb:Bytes X) (hr:r<1000) (hk:KAt w):
  Calls Tryz.prog 122 #[.agg (u8s I).toArray,.int .i64 (r:Int),.agg (u8s X).toArray] w λe w'=>e= .returned (.agg (u8s (leafV I r X)).toArray)∧Below w.heap.size w w':=by
 have HI:=hid hI;have HIB:=hid hIb;have HX:=hid hX;have HXB:=hid hXb;have HK:=hid hk;have HG:=hid hk.lt;have I0:=hid (((Blk.new w 44 (u8s I)).alloc (.cells (u8s X).toArray 23)).alloc (.cells (u8s z32).toArray 23));have X0:=hid ((Blk.new2 w (.cells (u8s I).toArray 44) 23 (u8s X)).alloc (.cells (u8s z32).toArray 23));have R0:=hid (blk_at (w:=(w.alloc (.cells (u8s I).toArray 44)).alloc (.cells (u8s X).toArray 23)) (g:=w.heap.size+1+1) (by simp) (.cells (u8s z32).toArray 23) 23 (u8s z32));have B0:=hid ((((Below.refl w.heap.size w).alloc (Nat.le_refl _) (.cells (u8s I).toArray 44)).alloc (by simp) (.cells (u8s X).toArray 23)).alloc (by simp;omega) (.cells (u8s z32).toArray 23));clear hI hIb hX hXb hk
 go_enter Tryz.func122,Tryz.ntmps122
 go_wp2_with ((with_reducible refine load_blk 44 (.tmp 3) w.heap.size 44 (u8s I) _ rfl rfl ?_ Tryz.underlying44 ?_ ?_ ?_ ?_);exact I0.out;exact rfl;exact size16 _ HI.out;exact rfl)
 change Calls _ _ _ (((w.alloc (.cells (u8s I).toArray 44)).alloc (.cells (u8s X).toArray 23)).alloc (.cells (u8s z32).toArray 23)) _;obtain⟨W,hW⟩:∃ W,(((w.alloc (.cells (u8s I).toArray 44)).alloc (.cells (u8s X).toArray 23)).alloc (.cells (u8s z32).toArray 23))=W:=⟨_,rfl⟩;rw[hW] at I0 X0 R0 B0 ⊢;have hWs:W.heap.size=w.heap.size+3:=by rw[←hW];simp
 clear hW;refine(nodeText_t I r 33410 _ HI.out hr (by decide)).mono ?_
 rintro e w1 ⟨g,rfl,x1,b1⟩
 have X1:=hid (X0.out.below b1 X0.out.lt);have R1:=hid (R0.out.below b1 R0.out.lt);have B1:=hid (B0.out.trans (b1.mono B0.out.size));have T1:=hid x1;have s1:=x1.lt;have s2:W.heap.size+1≤g:=x1.mine;have s0:=R0.out.lt;clear x1 b1 I0 X0 R0 B0;go_wp2_with fail
 refine(raw_s X (some ⟨w.heap.size+1,0,none⟩) 32 32 T1.out (Below.refl _ _) (by omega) HX.out (Sr.of_blk (rest:=[]) X1.out (by simp)) (by simp[headN_length I r _ HI.out])).mono ?_
 rintro e w2 ⟨rfl,x2,b2⟩
 have R2:=hid (R1.out.below b2 (by omega));have B2:=hid (B1.out.trans (b2.mono (by omega)));have T2:=hid x2;clear x2 b2 X1 R1 B1 T1 s0 s1 s2;go_wp2_with fail
 refine(wbytes_t _ _ _ w2 T2.out (by simp[headN_length I r _ HI.out,HX.out])).mono ?_
 rintro e w6 ⟨v,rfl,o6,b6⟩
 have R6:=hid (R2.out.below b6 R2.out.lt);have B6:=hid (B2.out.trans (b6.mono B2.out.size));obtain⟨A',c,rfl,hc⟩:=own_form o6;have S6:=hid (Sr.of_own o6);have HTL:=hid (show(headN I r 33410++X).length=54 by simp[headN_length I r _ HI.out,HX.out]);have HTB:=hid (show Bytes (headN I r 33410++X) from app_bytes (headN_bytes _ _ _ HIB.out) HXB.out);have HSE:=hid (show leafV I r X=sum (headN I r 33410++X) from rfl);obtain⟨T,hT⟩:∃ T,headN I r 33410++X=T:=⟨_,rfl⟩;rw[hT] at S6 HTL HTB HSE hc ⊢;rw[HTL.out] at hc ⊢;have HC:=hid hc;clear hT o6 b6 T2 R2 B2 hc;go_wp2_with fail
 refine(sum_u T A' 54 c w6 HTB.out S6.out HTL.out HC.out (by decide) (HK.out.below B6.out HG.out)).mono ?_
 rintro e w7 ⟨rfl,b7⟩
 have R7:=hid (R6.out.below b7 R6.out.lt);have B7:=hid (B6.out.trans (b7.mono B6.out.size));have HSL:=hid (show(sum T).length=32 from rfl);obtain⟨S,hS⟩:∃ S,sum T=S:=⟨_,rfl⟩;rw[hS] at HSL HSE ⊢;clear b7 hS R6 B6
 go_wp2_with ((with_reducible refine store_blk 23 (.tmp 6) (.tmp 16) (w.heap.size+1+1) 23 (u8s z32) (u8s S) rfl rfl ?_ ?_ ?_ ?_ ?_ ?_ ?_);exact R7.out;exact hash_lenL _ HSL.out;exact size32 _ HSL.out;exact u8s_one _;exact rfl;exact rfl)
 exact ret_blk (p:=6) (ty:=23) rfl rfl (w.heap.size+1+1) 23 _ _ rfl (R7.out.setRow _) Tryz.underlying23 rfl (size32 _ HSL.out) ⟨by rw[HSE.out],below_setRow B7.out (by omega) _⟩
set_option maxHeartbeats 1000000 in
theorem innerNode_t (I X Y:List Nat) (r:Nat) (w:World) (hI:I.length=16) (hIb:Bytes I) (hX:X.length=32) (hXb:Bytes X) (hY:Y.length=32) (hYb:Bytes Y) (hr:r<1000) (hk:KAt w):
  Calls Tryz.prog 123 #[.agg (u8s I).toArray,.int .i64 (r:Int),.agg (u8s X).toArray,.agg (u8s Y).toArray] w λe w'=>e= .returned (.agg (u8s (innerV I r X Y)).toArray)∧Below w.heap.size w w':=by
 have HI:=hid hI;have HIB:=hid hIb;have HX:=hid hX;have HXB:=hid hXb;have HY:=hid hY;have HYB:=hid hYb;have HK:=hid hk;have HG:=hid hk.lt;have I0:=hid ((((Blk.new w 44 (u8s I)).alloc (.cells (u8s X).toArray 23)).alloc (.cells (u8s Y).toArray 23)).alloc (.cells (u8s z32).toArray 23));have X0:=hid (((Blk.new2 w (.cells (u8s I).toArray 44) 23 (u8s X)).alloc (.cells (u8s Y).toArray 23)).alloc (.cells (u8s z32).toArray 23));have Y0:=hid ((blk_at (w:=(w.alloc (.cells (u8s I).toArray 44)).alloc (.cells (u8s X).toArray 23)) (g:=w.heap.size+1+1) (by simp) (.cells (u8s Y).toArray 23) 23 (u8s Y)).alloc (.cells (u8s z32).toArray 23));have R0:=hid (blk_at (w:=((w.alloc (.cells (u8s I).toArray 44)).alloc (.cells (u8s X).toArray 23)).alloc (.cells (u8s Y).toArray 23)) (g:=w.heap.size+1+1+1) (by simp) (.cells (u8s z32).toArray 23) 23 (u8s z32));have B0:=hid (((((Below.refl w.heap.size w).alloc (Nat.le_refl _) (.cells (u8s I).toArray 44)).alloc (by simp) (.cells (u8s X).toArray 23)).alloc (by simp;omega) (.cells (u8s Y).toArray 23)).alloc (by simp;omega) (.cells (u8s z32).toArray 23));clear hI hIb hX hXb hk hY hYb
 go_enter Tryz.func123,Tryz.ntmps123
 go_wp2_with ((with_reducible refine load_blk 44 (.tmp 4) w.heap.size 44 (u8s I) _ rfl rfl ?_ Tryz.underlying44 ?_ ?_ ?_ ?_);exact I0.out;exact rfl;exact size16 _ HI.out;exact rfl)
 change Calls _ _ _ ((((w.alloc (.cells (u8s I).toArray 44)).alloc (.cells (u8s X).toArray 23)).alloc (.cells (u8s Y).toArray 23)).alloc (.cells (u8s z32).toArray 23)) _;obtain⟨W,hW⟩:∃ W,((((w.alloc (.cells (u8s I).toArray 44)).alloc (.cells (u8s X).toArray 23)).alloc (.cells (u8s Y).toArray 23)).alloc (.cells (u8s z32).toArray 23))=W:=⟨_,rfl⟩;rw[hW] at I0 X0 Y0 R0 B0 ⊢;have hWs:W.heap.size=w.heap.size+4:=by rw[←hW];simp
 clear hW;refine(nodeText_t I r 33667 _ HI.out hr (by decide)).mono ?_
 rintro e w1 ⟨g,rfl,x1,b1⟩
 have X1:=hid (X0.out.below b1 X0.out.lt);have Y1:=hid (Y0.out.below b1 Y0.out.lt);have R1:=hid (R0.out.below b1 R0.out.lt);have B1:=hid (B0.out.trans (b1.mono B0.out.size));have T1:=hid x1;have s1:=x1.lt;have s2:W.heap.size+1≤g:=x1.mine;have s0:=R0.out.lt;clear x1 b1 I0 X0 Y0 R0 B0;go_wp2_with fail
 refine(raw_s X (some ⟨w.heap.size+1,0,none⟩) 32 32 T1.out (Below.refl _ _) (by omega) HX.out (Sr.of_blk (rest:=[]) X1.out (by simp)) (by simp[headN_length I r _ HI.out])).mono ?_
 rintro e w2 ⟨rfl,x2,b2⟩
 have Y2:=hid (Y1.out.below b2 (by omega));have R2:=hid (R1.out.below b2 (by omega));have B2:=hid (B1.out.trans (b2.mono (by omega)));have T2:=hid x2;have s3:=x2.lt;clear x2 b2 X1 Y1 R1 B1 T1;go_wp2_with fail
 refine(raw_s Y (some ⟨w.heap.size+1+1,0,none⟩) 32 32 T2.out (Below.refl _ _) (by omega) HY.out (Sr.of_blk (rest:=[]) Y2.out (by simp)) (by simp[headN_length I r _ HI.out,HX.out])).mono ?_
 rintro e w3 ⟨rfl,x3,b3⟩
 have R3:=hid (R2.out.below b3 (by omega));have B3:=hid (B2.out.trans (b3.mono (by omega)));have T3:=hid x3;clear x3 b3 Y2 R2 B2 T2 s0 s1 s2 s3;go_wp2_with fail
 refine(wbytes_t _ _ _ w3 T3.out (by simp[headN_length I r _ HI.out,HX.out,HY.out])).mono ?_
 rintro e w6 ⟨v,rfl,o6,b6⟩
 have R6:=hid (R3.out.below b6 R3.out.lt);have B6:=hid (B3.out.trans (b6.mono B3.out.size));obtain⟨A',c,rfl,hc⟩:=own_form o6;have S6:=hid (Sr.of_own o6);have HTL:=hid (show(headN I r 33667++X++Y).length=86 by simp[headN_length I r _ HI.out,HX.out,HY.out]);have HTB:=hid (show Bytes (headN I r 33667++X++Y) from app_bytes (app_bytes (headN_bytes _ _ _ HIB.out) HXB.out) HYB.out);have HSE:=hid (show innerV I r X Y=sum (headN I r 33667++X++Y) from rfl);obtain⟨T,hT⟩:∃ T,headN I r 33667++X++Y=T:=⟨_,rfl⟩;rw[hT] at S6 HTL HTB HSE hc ⊢;rw[HTL.out] at hc ⊢;have HC:=hid hc;clear hT o6 b6 T3 R3 B3 hc;go_wp2_with fail
 refine(sum_u T A' 86 c w6 HTB.out S6.out HTL.out HC.out (by decide) (HK.out.below B6.out HG.out)).mono ?_
 rintro e w7 ⟨rfl,b7⟩
 have R7:=hid (R6.out.below b7 R6.out.lt);have B7:=hid (B6.out.trans (b7.mono B6.out.size));have HSL:=hid (show(sum T).length=32 from rfl);obtain⟨S,hS⟩:∃ S,sum T=S:=⟨_,rfl⟩;rw[hS] at HSL HSE ⊢;clear b7 hS R6 B6
 go_wp2_with ((with_reducible refine store_blk 23 (.tmp 8) (.tmp 21) (w.heap.size+1+1+1) 23 (u8s z32) (u8s S) rfl rfl ?_ ?_ ?_ ?_ ?_ ?_ ?_);exact R7.out;exact hash_lenL _ HSL.out;exact size32 _ HSL.out;exact u8s_one _;exact rfl;exact rfl)
 exact ret_blk (p:=8) (ty:=23) rfl rfl (w.heap.size+1+1+1) 23 _ _ rfl (R7.out.setRow _) Tryz.underlying23 rfl (size32 _ HSL.out) ⟨by rw[HSE.out],below_setRow B7.out (by omega) _⟩
section
variable {I seed : List Nat} {v dn st mk : Nat} {L : List Nat}
theorem put_self (L:List Nat) (r:Nat):put32 L r (hAt L r)=L:=by
 unfold put32 hAt;rw[←List.drop_drop,List.take_append_drop,List.take_append_drop]
end
section
variable {w : World} {g : Nat} {I seed : List Nat} {v dn st mk : Nat} {L : List Nat}
end
end
end
def tnode (I seed:List Nat) (i r:Nat):List Nat:=hAt (nod I seed i 63) r
theorem tnode_length (I seed:List Nat) (i r:Nat) (hr:r≤63):(tnode I seed i r).length=32:=hAt_length _ _ (by rw[nod_length I seed i 63 (Nat.le_refl _)];omega)
theorem tnode_bytes (I seed:List Nat) (i r:Nat) (hi:i<4) (hI:Bytes I) (hs:Bytes seed):Bytes (tnode I seed i r):=hAt_bytes _ _ (nod_bytes I seed i hi hI hs 63)
end
theorem Sr.of_range {w:World} {g o:Nat} {xs:List Nat} (h:w.rangeAt g o (u8s xs)) (hg:g<w.heap.size):Sr w (some ⟨g,o,none⟩) xs:=λ_=>⟨g,o,rfl,hg,λj hj=>h j _ (u8s_get xs j hj)⟩
def lpubN (I seed:List Nat) (i:Nat):List Nat:=beN 5 4++beN (kd i).code 4++I++tnode I seed i 1
theorem lpubN_length (I seed:List Nat) (i:Nat) (hI:I.length=16):(lpubN I seed i).length=56:=by
 unfold lpubN;simp only[List.length_append,beN_length,hI,tnode_length I seed i 1 (by decide)]
theorem lpubN_bytes (I seed:List Nat) (i:Nat) (hi:i<4) (hI:Bytes I) (hs:Bytes seed):Bytes (lpubN I seed i):=app_bytes (app_bytes (app_bytes (beN_bytes _ _) (beN_bytes _ _)) hI) (tnode_bytes I seed i 1 hi hI hs)
def pathN (I seed:List Nat) (i r:Nat):Nat→List Nat
 |0=>[]
 |j+1=>pathN I seed i r j++tnode I seed i ((r / 2 ^ j) ^^^ 1)
def lsigN (I seed:List Nat) (i q:Nat) (msg:List Nat):List Nat:=beN q 4++sigN I seed q i msg++beN 5 4++pathN I seed i (32+q) 5
theorem xor1_le:∀ r:Nat,r<64→r ^^^ 1<64:=by decide
theorem xor1_i64 (r:Nat) (hr:r<64):bits .xor .i64 (r:Int) 1=((r ^^^ 1:Nat):Int):=by
 have h:∀ r:Nat,r<64→bits .xor .i64 (r:Int) 1=((r ^^^ 1:Nat):Int):=by decide+kernel
 exact h r hr
theorem step_lt (q j:Nat) (hq:q<32) (_:j≤5):(32+q) / 2 ^ j<64:=Nat.lt_of_le_of_lt (Nat.div_le_self _ _) (by omega)
theorem step_gt:∀ q:Nat,q<32→∀ j:Nat,j<5→1< (32+q) / 2 ^ j:=by decide
theorem step_end:∀ q:Nat,q<32→(32+q) / 2 ^ 5=1:=by decide
theorem step_next (q j:Nat):(32+q) / 2 ^ j / 2=(32+q) / 2 ^ (j+1):=by rw[Nat.div_div_eq_div_mul,Nat.pow_succ]
theorem pathN_length (I seed:List Nat) (i q:Nat) (hq:q<32):∀ j,j≤5→(pathN I seed i (32+q) j).length=32 * j
 |0,_=>rfl
 |j+1,h=>by
  rw[pathN,List.length_append,pathN_length I seed i q hq j (by omega),tnode_length I seed i _ (by have:=xor1_le _ (step_lt q j hq (by omega));omega)];omega
theorem pathN_bytes (I seed:List Nat) (i r:Nat) (hi:i<4) (hI:Bytes I) (hs:Bytes seed):∀ j,Bytes (pathN I seed i r j)
 |0=>λ_=>by rw[pathN,gt_out (Nat.zero_le _)];decide
 |j+1=>app_bytes (pathN_bytes I seed i r hi hI hs j) (tnode_bytes I seed i _ hi hI hs)
theorem lsigN_length (I seed:List Nat) (i q:Nat) (msg:List Nat) (hq:q<32):(lsigN I seed i q msg).length=204+32 * (kd i).p:=by
 unfold lsigN;rw[List.length_append,List.length_append,List.length_append,beN_length,beN_length,sigN_length,pathN_length I seed i q hq 5 (by decide)];omega
theorem lsigN_bytes (I seed:List Nat) (i q:Nat) (msg:List Nat) (hi:i<4) (hI:Bytes I) (hs:Bytes seed):Bytes (lsigN I seed i q msg):=app_bytes (app_bytes (app_bytes (beN_bytes _ _) (sigN_bytes I seed q i msg hi hI hs)) (beN_bytes _ _)) (pathN_bytes I seed i _ hi hI hs 5)
end
end Go.Proofs.YtjlophplcmidlaaGreatDoor
