/-
  PACKAGE ots, THE LEAF
-/
import Derived.Test.YtjlophplcmidlaaGreatDoorAd7
import Derived.Test.YtjlophplcmidlaaGreatDoorAd4
import Derived.Test.YtjlophplcmidlaaGreatDoorAd18
import Derived.Test.YtjlophplcmidlaaGreatDoorAd28
import Derived.Test.YtjlophplcmidlaaGreatDoorAd2
import Derived.Laws.CopyOwn
import Derived.Deep.DeepCutAuto
import Derived.Shelf.Abstract
import Derived.Laws.EntriesVeiled
import Derived.Test.YtjlophplcmidlaaGreatDoorTk
open Go.Lib (hid)
set_option maxRecDepth 100000
namespace Go.Proofs.YtjlophplcmidlaaGreatDoor
open Go Go.RowKit Sh
def lf (I:List Nat) (q:Nat):List Value:=u8s I++[.int .i64 (q:Int)]
theorem lf_length (I:List Nat) (q:Nat) (hI:I.length=16):(lf I q).length=17:=by simp[lf,u8s_length,hI]
theorem lf_size (I:List Nat) (q:Nat) (hI:I.length=16):(Tryz.prog.info? 160).map (·.size)=some (lf I q).length:=by
 rw[lf_length I q hI]
 kernel_rfl
theorem lf_one (I:List Nat) (q:Nat):(lf I q).toArray.all (·.oneCell')=true:=all_oneCell_toArray (λv hv=>by
 rcases List.mem_append.1 hv with h |h
 ·exact u8s_each _ _ h
 ·simp at h;subst h;rfl)
def headN (I:List Nat) (q mark:Nat):List Nat:=I++beN q 4++beN mark 2
theorem headN_length (I:List Nat) (q mark:Nat) (hI:I.length=16):(headN I q mark).length=22:=by simp[headN,beN_length,hI]
theorem headN_bytes (I:List Nat) (q mark:Nat) (hb:Bytes I):Bytes (headN I q mark):=app_bytes (app_bytes hb (beN_bytes _ _)) (beN_bytes _ _)
theorem Sr.of_blk {w:World} {g:Nat} {t:TypeId} {cs rest:List Value} {xs:List Nat} (h:Blk w g t cs) (hc:cs=u8s xs++rest):Sr w (some ⟨g,0,none⟩) xs:=λ_=>by
 subst hc;refine⟨g,0,rfl,h.lt,λj hj=>?_⟩;rw[Nat.zero_add,h.cell,List.getElem?_append_left (by rw[u8s_length];exact hj),u8s_get _ _ hj]
set_option maxHeartbeats 1000000 in
theorem head_t (I:List Nat) (q mark:Nat) (w:World) (hI:I.length=16) (hq:q<32) (hm:mark<65536):
  Calls Tryz.prog 142 #[.agg (lf I q).toArray,.int .i64 (mark:Int)] w λe w'=>∃ v,e= .returned v∧Fresh 5 w w' v (headN I q mark):=by
 have HI:=hid hI;have L0:=hid (Blk.new w 160 (lf I q));have B0:=hid ((Below.refl w.heap.size w).alloc (Nat.le_refl _) (.cells (lf I q).toArray 160));have W0:=hid (Wr.new (w:=w.alloc (.cells (lf I q).toArray 160)));rw[show(w.alloc (.cells (lf I q).toArray 160)).heap.size=w.heap.size+1 from by simp] at W0;have q1:(0:Int)≤q:=by omega
 have q2:(q:Int)<32:=by omega
 have m1:(0:Int)≤mark:=by omega
 have m2:(mark:Int)<65536:=by omega
 clear hI
 go_enter Tryz.func142,Tryz.ntmps142
 go_wp2_with fail
 have L1:=hid (L0.out.alloc (.cells #[.pointer none,.int .i64 0] 119));refine(raw_s I (some ⟨w.heap.size,0,none⟩) 16 16 W0.out (Below.refl _ _) (by simp) HI.out (Sr.of_blk L1.out rfl) (by simp)).mono ?_
 rintro e w1 ⟨rfl,x1,b1⟩
 have L2:=hid (L1.out.below b1 (by simp));have X1:=hid x1;have B1:=hid ((B0.out.alloc B0.out.size (.cells #[.pointer none,.int .i64 0] 119)).trans (b1.mono (by simp)));have c16:w1.cell? ⟨w.heap.size,16,none⟩=some (.int .i64 (q:Int)):=by
  rw[L2.out.cell];unfold lf;rw[List.getElem?_append_right (by rw[u8s_length,HI.out];decide),u8s_length,HI.out];rfl
 have s1:w.heap.size+1≤w1.heap.size:=by have:=x1.lt;omega
 clear x1 b1 L0 L1 B0 W0;go_wp2_with fail
 refine(num_s q 4 X1.out (Below.refl _ _) s1 (by omega) (by decide) (by decide) (by simp[HI.out])).mono ?_
 rintro e w2 ⟨rfl,x2,b2⟩
 have X2:=hid x2;have B2:=hid (B1.out.trans (b2.mono (by omega)));have s2:w.heap.size+1≤w2.heap.size:=by have:=x2.lt;omega
 clear x2 b2 B1 X1 L2 c16;go_wp2_with fail
 refine(num_s mark 2 X2.out (Below.refl _ _) s2 (by omega) (by decide) (by decide) (by simp[HI.out,beN_length])).mono ?_
 rintro e w3 ⟨rfl,x3,b3⟩
 have X3:=hid x3;have B3:=hid (B2.out.trans (b3.mono (by omega)));clear x3 b3 B2 X2;go_wp2_with fail
 refine(wbytes_t _ _ _ w3 X3.out (by simp[HI.out,beN_length])).mono ?_
 rintro e w4 ⟨v,rfl,o4,b4⟩
 have O4:=hid o4;have B4:=hid b4;clear o4 b4;go_wp2_with fail
 go_ret;refine⟨v,rfl,?_,B3.out.trans (B4.out.mono B3.out.size)⟩;have h:=own_base O4.out (base':=w.heap.size) (λk e=>Nat.le_trans B3.out.size (O4.out.lt k e).1);rw[List.nil_append] at h;exact h
theorem Sl.own {w:World} {base:Nat} {e:TypeId} {A:Option Addr} {n c g:Nat} {xs:List Nat} (h:w.ownsRow base e 1 (.slice A n c) n (u8s xs)) (hg:g<base):Sl w w.heap.size g A xs:=λhx=>by
 have hn:xs.length=n:=by have:=h.1;rw[u8s_length] at this;omega
 obtain⟨g',cap,hv,hb,hlt⟩:=h.form (by omega)
 injection hv with h1 h2 h3
 subst h1;refine⟨g',0,rfl,hlt,by omega,λj hj=>?_⟩;have:=h.cells (g:=g') rfl j _ (u8s_get xs j hj);rw[Addr.add_mid] at this;exact this
theorem Sl.of_blk {w:World} {g g':Nat} {t:TypeId} {cs rest:List Value} {xs:List Nat} (h:Blk w g' t cs) (hc:cs=u8s xs++rest) (hne:g'≠g):Sl w w.heap.size g (some ⟨g',0,Option.none⟩) xs:=λhx=>by
 obtain⟨b,o,e,h1,h2⟩:=Sr.of_blk h hc hx
 injection e with e
 injection e with e1 e2
 subst e1;subst e2;exact⟨_,_,rfl,h1,hne,h2⟩
def secN (I seed:List Nat) (q i:Nat):List Nat:=sum (headN I q i++[255]++seed)
def msgN (I:List Nat) (q:Nat) (c msg:List Nat):List Nat:=sum (headN I q 33153++c++msg)
set_option maxHeartbeats 1000000 in
theorem message_t (I seed xs:List Nat) (q:Nat) (p:Option Addr) (m cc:Nat) (w:World) (hI:I.length=16) (hIb:Bytes I) (hs:seed.length=32) (hsb:Bytes seed) (hq:q<32) (hx:xs.length=m) (hp:Sr w p xs) (hxb:Bytes xs) (hcc:m≤cc) (hml:m≤70368744177664) (hk:KAt w):
  Calls Tryz.prog 116 #[.agg (lf I q).toArray,.agg (u8s seed).toArray,.slice p m cc] w λe w'=>e= .returned (.agg (u8s (msgN I q seed xs)).toArray)∧Below w.heap.size w w':=by
 have HI:=hid hI;have HIB:=hid hIb;have HS:=hid hs;have HSB:=hid hsb;have HK:=hid hk;have HX:=hid hx;have HP:=hid hp;have HXB:=hid hxb;have HCC:=hid hcc;have HG:=hid hk.lt;clear hI hIb hs hsb hk hx hp hxb hcc
 go_enter Tryz.func116,Tryz.ntmps116
 go_wp2_with fail
 refine(new_t _).mono ?_
 rintro e w1 ⟨rfl,hw⟩
 have k:Blk w1 w.heap.size 160 (lf I q)∧Blk w1 (w.heap.size+1) 23 (u8s seed)∧Blk w1 (w.heap.size+1+1) 23 (u8s z32)∧Dig w1 (w.heap.size+1+1+1) [] z0 (List.replicate 64 0)∧Below w.heap.size w w1∧w1.heap.size=w.heap.size+1+1+1+1:=by
  rw[hw];exact⟨((((Blk.new _ _ (lf I q)).alloc _).alloc _).alloc _),(((Blk.new2 _ _ _ (u8s seed)).alloc _).alloc _),(blk_at (by simp) _ _ (u8s z32)).alloc _,Dig.zero (blk_at (by simp) _ _ DZ),((((Below.refl _ _).alloc (Nat.le_refl _) _).alloc (by simp) _).alloc (by simp;omega) _).alloc (by simp;omega) _,by simp⟩
 obtain⟨k0,k1,k2,k3,bw,hz⟩:=k;clear hw;have K0:=hid k0;have K1:=hid k1;have K2:=hid k2;have K3:=hid k3;have BW:=hid bw;have hz2:w.heap.size+4≤w1.heap.size:=by omega
 clear k0 k1 k2 k3 bw hz
 go_wp2_with ((with_reducible refine load_blk 160 (.tmp 3) w.heap.size 160 (lf I q) _ rfl rfl ?_ Tryz.underlying160 ?_ ?_ ?_ ?_);exact K0.out;exact rfl;exact lf_size _ _ HI.out;exact rfl)
 refine(head_t I q 33153 w1 HI.out hq (by decide)).mono ?_
 rintro e w2 ⟨v,rfl,o2,b2⟩
 obtain⟨A,n,c,rfl,hn,hc⟩:∃ A n c,v= .slice A n c∧n=22∧n≤c:=by
  obtain⟨A,c,e,h⟩:=own_form o2;exact⟨A,_,c,e,headN_length I q 33153 HI.out,h⟩
 subst hn;rw[headN_length I q 33153 HI.out] at o2;have O2:=hid o2;have M0:=hid (K1.out.below b2 K1.out.lt);have M2:=hid (K2.out.below b2 K2.out.lt);have M3:=hid (K3.out.below b2 K3.out.blk.lt);have B2:=hid (BW.out.trans (b2.mono BW.out.size));have s2:w.heap.size+4≤w2.heap.size:=Nat.le_trans hz2 b2.size;obtain⟨g1,hg1⟩:∃ g,w.heap.size+1=g:=⟨_,rfl⟩;rw[hg1] at M0 M2 M3 ⊢;obtain⟨g2,hg2⟩:∃ g,g1+1=g:=⟨_,rfl⟩;rw[hg2] at M2 M3 ⊢;obtain⟨g3,hg3⟩:∃ g,g2+1=g:=⟨_,rfl⟩;rw[hg3] at M3 ⊢;have l1:w.heap.size<g1:=by omega
 have l2:g1<g2:=by omega
 have l3:g2<g3:=by omega
 have l4:g3<w1.heap.size:=by omega
 clear hg1 hg2 hg3 o2 b2 K0 K1 K2 K3 BW;go_wp2_with fail
 refine(write_u w.heap.size g3 _ _ [] (headN I q 33153) A 22 c w2 M3.out (headN_bytes I q 33153 HIB.out) (Sl.own O2.out l4) (headN_length I q 33153 HI.out) hc (by simp) (HK.out.below B2.out HG.out) (by omega) HG.out).mono ?_
 rintro e w3 ⟨rfl,⟨s3,r3,d3⟩,t3,b3⟩
 rw[List.nil_append] at d3;have N1:=hid (M0.out.but t3 M0.out.lt (by omega));have N2:=hid (M2.out.but t3 M2.out.lt (by omega));have N3:=hid d3;have B3:=hid (B2.out.trans b3);have s3':g3<w3.heap.size:=d3.blk.lt;clear d3 t3 b3 M0 M2 M3 O2 B2 s2;go_wp2_with fail
 refine(write_u w.heap.size g3 s3 r3 (headN I q 33153) seed (some ⟨g1,0,none⟩) 32 32 w3 N3.out HSB.out (Sl.of_blk (rest:=[]) N1.out (by simp) (by omega)) HS.out (Nat.le_refl _) (by simp[headN_length I q 33153 HI.out]) (HK.out.below B3.out HG.out) (by omega) HG.out).mono ?_
 rintro e w4 ⟨rfl,⟨s4,r4,d4⟩,t4,b4⟩
 have O2:=hid (N2.out.but t4 N2.out.lt (by omega));have O3:=hid d4;have B4:=hid (B3.out.trans b4);clear d4 t4 b4 N1 N2 N3 B3 s3';go_wp2_with fail
 refine(write_u w.heap.size g3 s4 r4 (headN I q 33153++seed) xs p m cc w4 O3.out HXB.out (Sl.old HP.out B4.out (by omega)) HX.out HCC.out (by simp[headN_length I q 33153 HI.out,HS.out];omega) (HK.out.below B4.out HG.out) (by omega) HG.out).mono ?_
 rintro e w5 ⟨rfl,⟨s5,r5,d5⟩,t5,b5⟩
 have P2:=hid (O2.out.but t5 O2.out.lt (by omega));have P3:=hid d5;have B5:=hid (B4.out.trans b5);clear d5 t5 b5 O2 O3 B4;go_wp2_with fail
 refine(dsum_t g3 s5 r5 _ w5 P3.out (by simp[headN_length I q 33153 HI.out,HS.out,HX.out];omega) (HK.out.below B5.out HG.out)).mono ?_
 rintro e w6 ⟨rfl,b6⟩
 have Q2:=hid (P2.out.below b6 P2.out.lt);have B6:=hid (B5.out.trans (b6.mono B5.out.size));clear b6 P2 P3 B5;obtain⟨S,hS⟩:∃ S,sum (headN I q 33153++seed++xs)=S:=⟨_,rfl⟩;have hSl:S.length=32:=by rw[←hS];rfl
 rw[hS];have HSL:=hid hSl;have HSS:=hid hS;have hzl:(u8s z32).length=(u8s S).length:=by rw[u8s_length,u8s_length,hSl];rfl
 have HZL:=hid hzl;clear hS hSl hzl
 go_wp2_with ((with_reducible refine store_blk 23 (.tmp 6) (.tmp 20) g2 23 (u8s z32) (u8s S) rfl rfl ?_ ?_ ?_ ?_ ?_ ?_ ?_);exact Q2.out;exact HZL.out;exact size32 _ HSL.out;exact u8s_one _;exact rfl;exact rfl)
 exact ret_blk (p:=6) (ty:=23) rfl rfl g2 23 _ _ rfl (Q2.out.setRow _) Tryz.underlying23 rfl (size32 _ HSL.out) ⟨by unfold msgN;rw[HSS.out],below_setRow B6.out (by omega) _⟩
theorem wcopy_part {P:Program} {o:Oper} {a:Act} {w:World} {K:Act→World→Prop} {Q:Exit→Act→World→Prop} (d s:Operand) (dT sT elem:TypeId) (g off dLen dCap sLen sCap nn:Nat) (dp sp:Option Addr) (t:TypeId) (A M C M':List Value)
  (ho:o.op= .call { callee:= .builtin .copy,args:= #[d,s],argTypes:= #[dT,sT] }) (hu:P.underlying dT=some (.slice elem)) (hsz:(P.info? elem).map (·.size)=some 1)
  (hg:Blk w g t (A++(M++C))) (hoff:off=A.length) (hl:M.length=M'.length) (hn:M'.length=Nat.min sLen dLen) (hd:a.eval d= .slice dp dLen dCap) (hs:a.eval s= .slice sp sLen sCap)
  (hpos:0<M'.length→dp=some ⟨g,off,none⟩∧∃ ad,sp=some ad∧∀ j v,M'[j]? =some v→w.cell? (ad.add j)=some v) (h1:∀ v∈M',v.oneCell'=true) (hnn:M'.length=nn)
  (h:∀ w',Hid (Blk w' g t (A++(M'++C)))→Hid (But w.heap.size g w w')→Hid (w'.heap.size=w.heap.size)→K (a.put o.dst (.int .i64 (nn:Int))) w'):o.wp P a w K Q:=by
 subst hnn
 by_cases h0:M'.length=0
 ·obtain rfl:M'=[]:=List.eq_nil_of_length_eq_zero h0;obtain rfl:M=[]:=List.eq_nil_of_length_eq_zero hl;have hrun:=run_copy_none (P:=P) w dT sT o.type elem dp sp dLen dCap sLen sCap hu hsz (by simpa using hn.symm);unfold Oper.wp;simp[execOp,ho,resolve,invoke,builtin,hd,hs,hrun,Result.andThen];exact h w (hid hg) (hid (But.refl _ _ _)) (hid rfl)
 ·obtain⟨rfl,ad,rfl,hsrc⟩:=hpos (by omega);subst hoff;have hrun:=run_copy_row (P:=P) w dT sT o.type elem g A.length dLen dCap ad sLen sCap (A++(M++C)).toArray t M' hu hsz hg hn hsrc (by simp;omega) h1;unfold Oper.wp;simp[execOp,ho,resolve,invoke,builtin,hd,hs,hrun,Result.andThen];refine h _ ?_ ?_ ?_
  ·have e:(A++(M++C)).take A.length++(M'++(A++(M++C)).drop (A.length+M'.length))=A++(M'++C):=by
    rw[←hl,←List.drop_drop,List.take_left,List.drop_left,List.drop_left]
   have hb:=hg.setRow ((A++(M++C)).take A.length++(M'++(A++(M++C)).drop (A.length+M'.length)));rw[e] at hb;rw[←e] at hb ⊢;exact hid (by simpa using hb)
  ·exact hid ((But.refl _ _ _).setRow _)
  ·exact hid (by simp)
def stepN (I:List Nat) (q i j:Nat) (x:List Nat):List Nat:=sum (headN I q i++[j]++x)
def walkN (I:List Nat) (q i from_:Nat):Nat→List Nat→List Nat
 |0,x=>x
 |k+1,x=>stepN I q i (from_+k) (walkN I q i from_ k x)
theorem walkN_length (I:List Nat) (q i from_ k:Nat) (x:List Nat) (hx:x.length=32):(walkN I q i from_ k x).length=32:=by
 cases k with
 |zero=>exact hx
 |succ k=>rfl
theorem walkN_bytes (I:List Nat) (q i from_ k:Nat) (x:List Nat) (hI:Bytes I) (hx:Bytes x) (hf:from_+k≤256):Bytes (walkN I q i from_ k x):=by
 induction k with
 |zero=>exact hx
 |succ k ih=>
  unfold walkN stepN;exact sum_bytes _ (app_bytes (app_bytes (headN_bytes _ _ _ hI) (sl_bytes (by simp;omega))) (ih (by omega)))
theorem walkN_add (I:List Nat) (q i from_ k m:Nat) (x:List Nat):walkN I q i (from_+k) m (walkN I q i from_ k x)=walkN I q i from_ (k+m) x:=by
 induction m with
 |zero=>rfl
 |succ m ih=>rw[walkN,ih,←Nat.add_assoc,walkN,Nat.add_assoc]
def begN (I:List Nat) (q:Nat):List Nat:=headN I q 0++List.replicate 33 0
theorem begN_length (I:List Nat) (q:Nat) (hI:I.length=16):(begN I q).length=55:=by simp[begN,headN_length I q 0 hI]
theorem size55 (l:List Nat) (h:l.length=55):(Tryz.prog.info? 187).map (·.size)=some (u8s l).length:=by
 rw[u8s_length,h]
 kernel_rfl
set_option maxHeartbeats 1000000 in
theorem walker_t (I:List Nat) (q:Nat) (w:World) (hI:I.length=16) (hq:q<32):
  Calls Tryz.prog 118 #[.agg (lf I q).toArray] w λe w'=>∃ g,e= .returned (.func (.func 143) #[] #[.pointer (some ⟨g,0,none⟩)])∧Blk w' g 187 (u8s (begN I q))∧w.heap.size≤g∧Below w.heap.size w w':=by
 have HI:=hid hI;have hmf:∀ (fn:Fn) (first cap:Array Value) (w:World),(Instr.makeFunc fn first cap).run Tryz.prog w= .ok (.func fn first cap) w:=λ_ _ _ _=>rfl
 clear hI
 go_enter Tryz.func118,Tryz.ntmps118
 go_wp2_with fail
 refine world_is (λW=>Blk W w.heap.size 160 (lf I q)∧Blk W (w.heap.size+1) 187 (u8s (List.replicate 55 0))∧Below w.heap.size w W∧W.heap.size=w.heap.size+2) ⟨(Blk.new _ _ (lf I q)).alloc _,Blk.new2 _ _ _ (u8s (List.replicate 55 0)),((Below.refl _ _).alloc (Nat.le_refl _) _).alloc (by simp) _,by simp⟩ ?_
 rintro W ⟨k0,k1,bw,hz⟩
 have K1:=hid (show Blk W.drew (w.heap.size+1) 187 ([]++(u8s (List.replicate 22 0)++u8s (List.replicate 33 0))) from k1);have K0:=hid k0.drew;have BW:=hid bw.drew;have r1:W.drew.rangeAt w.heap.size 0 (lf I q):=range_of_blk k0.drew;have hz2:W.drew.heap.size=w.heap.size+2:=hz;have HZ:=hid hz2;clear k0 k1 bw hz hz2;refine wp_region_held (S:=λV=>V.rangeAt w.heap.size 0 (lf I q)) (by kernel_rfl) ?_;change wpAnyH _ _ _ _ _ _ _ _ W.drew;refine tka9 0 r1 ?_;refine tkg9 1 (v:= .agg (lf I q).toArray) (yieldsIf_load_mid (by kernel_rfl) 160 (.tmp 1) rfl w.heap.size 0 (by go_simp) (lf I q) _ (λ_ h=>h) Tryz.underlying160 rfl (lf_size _ _ HI.out)) r1 ?_;refine rd9 2 λK hK=>?_
 go_simp;refine(head_t I q 0 W.drew HI.out hq (by decide)).mono ?_
 rintro e w2 ⟨v,rfl,o2,b2⟩
 obtain⟨A,n,c,rfl,hn,hc⟩:∃ A n c,v= .slice A n c∧n=22∧n≤c:=by
  obtain⟨A,c,e,h⟩:=own_form o2;exact⟨A,_,c,e,headN_length I q 0 HI.out,h⟩
 subst hn;rw[headN_length I q 0 HI.out] at o2;have S2:=hid (Sr.of_own o2);have M1:=hid (K1.out.below b2 K1.out.lt);have M0:=hid (K0.out.below b2 K0.out.lt);have B2:=hid (BW.out.trans (b2.mono BW.out.size));have r2:w2.rangeAt w.heap.size 0 (lf I q):=range_of_blk M0.out;clear o2 b2 K0 K1 BW HZ;refine hK.out _ _ r2 (λ_=>?_);clear hK K;refine rdw9 3 λK hK=>?_
 have HL1:=hid (show(u8s (List.replicate 22 0)).length=(u8s (headN I q 0)).length by rw[u8s_length,u8s_length,headN_length I q 0 HI.out,List.length_replicate]);have HL2:=hid (show(u8s (headN I q 0)).length=22 by rw[u8s_length,headN_length I q 0 HI.out]);refine wcopy_part (.tmp 4) (.tmp 6) 25 25 5 (w.heap.size+1) 0 55 55 22 c 22 (some ⟨w.heap.size+1,0,none⟩) A 187 [] (u8s (List.replicate 22 0)) (u8s (List.replicate 33 0)) (u8s (headN I q 0)) rfl Tryz.underlying25 byte_size M1.out rfl HL1.out HL2.out rfl rfl (λ_=>⟨rfl,S2.out.cells (by rw[headN_length I q 0 HI.out];decide)⟩) (u8s_each _) HL2.out ?_;intro w3 a1 a2 a3;have r3:w3.rangeAt w.heap.size 0 (lf I q):=range_of_blk (M0.out.but a2.out M0.out.lt (by omega));have B3:=hid (B2.out.trans (a2.out.below (B':=w.heap.size) (by omega) B2.out.size));have K3:=hid (show Blk w3 (w.heap.size+1) 187 (u8s (begN I q)) by unfold begN;rw[u8s_app];exact a1.out);clear a1 a2 a3 M0 M1 B2 S2;refine hK.out _ _ r3 (λ_=>?_);clear hK K;refine wpAnyH_done (by kernel_rfl) ?_ _;go_simp;go_wp2_with fail
 go_ret;exact⟨_,rfl,K3.out,by omega,B3.out⟩
theorem beN_two (v:Nat):beN v 2=[v / 256 % 256,v % 256]:=by simp[beN,List.range_succ]
theorem beg_set (I:List Nat) (q i:Nat) (hI:I.length=16) (hi:i<65536):((begN I q).set 20 (i / 256)).set 21 (i % 256)=headN I q i++List.replicate 33 0:=by
 have hP:(I++beN q 4).length=20:=by simp[beN_length,hI]
 unfold begN headN;rw[beN_two,beN_two,Nat.mod_eq_of_lt (show i / 256<256 by omega)];simp only[List.append_assoc];rw[←List.append_assoc,List.set_append_right _ _ (by omega),hP,List.set_append_right _ _ (by omega),hP];simp
set_option maxHeartbeats 1000000 in
theorem walk_t (I x:List Nat) (q i a b gB:Nat) (w:World) (hI:I.length=16) (hIb:Bytes I) (hx:x.length=32) (hxb:Bytes x) (hi:i<265) (hab:a≤b) (hb:b<256) (hB:Blk w gB 187 (u8s (begN I q))) (hk:KAt w):
  Calls Tryz.prog 143 #[.int .i64 (i:Int),.int .i64 (a:Int),.int .i64 (b:Int),.agg (u8s x).toArray,.pointer (some ⟨gB,0,none⟩)] w λe w'=>e= .returned (.agg (u8s (walkN I q i a (b-a) x)).toArray)∧Below w.heap.size w w':=by
 have HI:=hid hI;have HIB:=hid hIb;have HX:=hid hx;have HXB:=hid hxb;have HB:=hid hB;have HK:=hid hk;have HG:=hid hk.lt;have i1:(i:Int)<265:=by omega
 have a1:(a:Int)≤b:=by omega
 have b1:(b:Int)<256:=by omega
 clear hI hIb hx hxb hB hk
 go_enter Tryz.func143,Tryz.ntmps143
 have lB:=HB.out.lt;have B1:=hid ((HB.out.alloc (.cells (u8s x).toArray 23)).alloc (.cells (u8s z32).toArray 23));have B2:=hid (blk_at (w:=(w.alloc (.cells (u8s x).toArray 23)).alloc (.cells (u8s z32).toArray 23)) (g:=w.heap.size+1+1) (by simp) (.cells (u8s (List.replicate 55 0)).toArray 187) 187 (u8s (List.replicate 55 0)));have HL:=hid (show(u8s (List.replicate 55 0)).length=(u8s (begN I q)).length by rw[u8s_length,u8s_length,begN_length I q HI.out,List.length_replicate])
 go_upto_region 2 with(first
  |((with_reducible refine load_blk 187 (.tmp 4) gB 187 (u8s (begN I q)) _ rfl rfl ?_ Tryz.underlying187 ?_ ?_ ?_ ?_);exact B1.out;exact rfl;exact size55 _ (begN_length I q HI.out);exact rfl)
  |((with_reducible refine store_blk 187 (.tmp 10) (.tmp 12) (w.heap.size+1+1) 187 (u8s (List.replicate 55 0)) (u8s (begN I q)) rfl rfl ?_ ?_ ?_ ?_ ?_ ?_ ?_);exact B2.out;exact HL.out;exact size55 _ (begN_length I q HI.out);exact u8s_one _;exact rfl;exact rfl))
 refine world_is (λW=>Blk W w.heap.size 23 (u8s x)∧Blk W (w.heap.size+1) 23 (u8s z32)∧Blk W (w.heap.size+1+1) 187 (u8s (begN I q))∧Below w.heap.size w W)
  ⟨(((Blk.new _ _ (u8s x)).alloc _).alloc _).setRow_far (by omega) _,((Blk.new2 _ _ _ (u8s z32)).alloc _).setRow_far (by omega) _,B2.out.setRow _,below_setRow ((((Below.refl _ _).alloc (Nat.le_refl _) _).alloc (by simp) _).alloc (by simp;omega) _) (by omega) _⟩ ?_
 rintro W ⟨k0,k1,k2,bw⟩
 obtain⟨g1,hg1⟩:∃ g,w.heap.size+1=g:=⟨_,rfl⟩;rw[hg1] at k1 k2 ⊢;obtain⟨g2,hg2⟩:∃ g,g1+1=g:=⟨_,rfl⟩;rw[hg2] at k2 ⊢;have l1:w.heap.size<g1:=by omega
 have l2:g1<g2:=by omega
 have hex:∀ j,j<55→∃ v,W.cell? ⟨g2,j,none⟩=some v:=λj hj=>by
  rw[k2.cell];exact⟨_,List.getElem?_eq_getElem (by rw[u8s_length,begN_length I q HI.out];exact hj)⟩
 obtain⟨v20,e20⟩:=hex 20 (by decide);obtain⟨v21,e21⟩:=hex 21 (by decide);have f20:=k2.frozen 20;have f21:=k2.frozen 21;have K0:=hid k0;have K1:=hid k1;have K2:=hid k2;have BW:=hid bw;clear hex k0 k1 k2 bw hg1 hg2 B1 B2 HL HB;go_wp2_with fail
 clear e20 e21 f20 f21 v20 v21;have m2:=(K2.out.store 20 (.int .u8 ((i / 256:Nat):Int))).store 21 (.int .u8 ((i % 256:Nat):Int));rw[u8s_set,u8s_set,beg_set I q i HI.out (by omega)] at m2;refine world_is (λV=>Blk V w.heap.size 23 (u8s x)∧Blk V g1 23 (u8s z32)∧Blk V g2 187 (u8s (headN I q i++List.replicate 33 0))∧Below w.heap.size w V)
  ⟨(K0.out.far (by show w.heap.size≠g2;omega) _).far (by show w.heap.size≠g2;omega) _,(K1.out.far (by show g1≠g2;omega) _).far (by show g1≠g2;omega) _,m2,(BW.out.setCell (by show w.heap.size≤g2;omega) _).setCell (by show w.heap.size≤g2;omega) _⟩ ?_
 clear m2 K0 K1 K2 BW
 rintro W2 ⟨k0,k1,k2,bw⟩
 have K0:=hid k0;have K1:=hid k1;have K2:=hid k2;have BW:=hid bw;clear k0 k1 k2 bw
 go_loopw [11] (λs wr=>∃ (k:Nat) (L:List Nat),a+k≤b∧s= .int .i64 ((a+k:Nat):Int)∧L.length=33∧Blk wr g2 187 (u8s (headN I q i++L))∧Blk wr w.heap.size 23 (u8s (walkN I q i a k x))∧Blk wr g1 23 (u8s z32)∧Below w.heap.size w wr) (λs _=>b- (intOf s).toNat)
 case atStart=>exact⟨0,List.replicate 33 0,by omega,rfl,List.length_replicate,K2.out,K0.out,K1.out,BW.out⟩
 case round=>
  clear K0 K1 K2 BW;obtain⟨k,L,hk,rfl,hL,k2,k0,k1,bw⟩:=hrel;obtain⟨j,hj⟩:∃ j,a+k=j:=⟨_,rfl⟩;have hjb:j≤b:=by omega
  rw[hj]
  match L,hL with
  |l0::L,hL=>
   have hL2:L.length=32:=by simpa using hL
   have X1:=hid (walkN_length I q i a k x HX.out);have X2:=hid (walkN_bytes I q i a k x HIB.out HXB.out (by omega));have XS:=hid (show walkN I q i a (k+1) x=sum (headN I q i++[j]++walkN I q i a k x) by rw[walkN,hj,stepN]);have XE:=hid (λ(h:a+k=b)=>show walkN I q i a (b-a) x=walkN I q i a k x by rw[show b-a=k from by omega]);obtain⟨X,hX⟩:∃ X,walkN I q i a k x=X:=⟨_,rfl⟩;rw[hX] at X1 X2 XS k0;simp only[hX] at XE;have HJ:=hid hj;have HL2:=hid hL2;clear hX hL hL2 hk hj
   by_cases hlt:j<b
   ·have j1:(j:Int)<b:=by omega
    have j2:(j:Int)<256:=by omega
    have e22:wr.cell? ⟨g2,22,none⟩=some (.int .u8 ((l0:Nat):Int)):=by
     rw[k2.cell,u8s_get _ _ (by simp[headN_length I q i HI.out]),gt_app_right (by rw[headN_length I q i HI.out];exact Nat.le_refl _),headN_length I q i HI.out];rfl
    have f22:=k2.frozen 22;have K0:=hid k0;have K1:=hid k1;have K2:=hid k2;have BW:=hid bw;clear k0 k1 k2 bw
    go_upto_region 7 with(fail)
    clear e22 f22;have m2:=K2.out.store 22 (.int .u8 (j:Int));rw[u8s_set,show(headN I q i++l0::L).set 22 j=headN I q i++j::L from by rw[List.set_append_right _ _ (by rw[headN_length I q i HI.out];exact Nat.le_refl _),headN_length I q i HI.out];rfl] at m2;refine world_is (λV=>Blk V w.heap.size 23 (u8s X)∧Blk V g1 23 (u8s z32)∧Blk V g2 187 (u8s (headN I q i++[j])++(u8s L++[]))∧Below w.heap.size w V)
     ⟨K0.out.far (by show w.heap.size≠g2;omega) _,K1.out.far (by show g1≠g2;omega) _,by rw[List.append_nil,←u8s_app,List.append_assoc];exact m2,BW.out.setCell (by show w.heap.size≤g2;omega) _⟩ ?_
    clear m2 K0 K1 K2 BW
    rintro W3 ⟨k0,k1,k2,bw⟩
    have K0:=hid k0;have K1:=hid k1;have K2:=hid k2;have BW:=hid bw;clear k0 k1 k2 bw;refine wp_region_still_tail 2 (by kernel_rfl) (by kernel_rfl) ?_;simp only[List.take_succ_cons,List.take_zero,List.drop_succ_cons,List.drop_zero]
    repeat (refine wpStill_step (λK hK=>?_);go_simp;(try go_bits);refine hK _ ?_;clear hK K)
    refine wpStill_nil ?_;have HLL:=hid (show(u8s L).length=(u8s X).length by rw[u8s_length,u8s_length,HL2.out,X1.out]);have HXL:=hid (show(u8s X).length=32 by rw[u8s_length,X1.out]);refine copy_part (.tmp 29) (.tmp 30) 25 25 5 g2 23 32 32 32 32 32 (some ⟨g2,23,none⟩) (some ⟨w.heap.size,0,none⟩) 187 (u8s (headN I q i++[j])) (u8s L) [] (u8s X) rfl rfl Tryz.underlying25 byte_size K2.out.drew (by rw[u8s_length,List.length_append,headN_length I q i HI.out];rfl) HLL.out HXL.out rfl rfl (λ_=>⟨rfl,_,rfl,λj v hv=>by rw[Addr.add_mid,Nat.zero_add];exact(K0.out.drew.cell j).trans hv⟩) (u8s_each _) HXL.out ?_;intro w4 a1' a2' a3';have bt:=a2'.out;have M0:=hid (K0.out.drew.but bt K0.out.lt (by omega));have M1:=hid (K1.out.drew.but bt K1.out.lt (by omega));have B4:=hid (BW.out.drew.trans (bt.below (B':=w.heap.size) (by omega) BW.out.size));have M2:=hid (show Blk w4 g2 187 (u8s (headN I q i++[j]++X)++[]) by rw[List.append_nil,u8s_app];have:=a1'.out;rwa [List.append_nil] at this);clear a1' a2' a3' bt K0 K1 K2 BW;have hT:(headN I q i++[j]++X).length=55:=by simp[headN_length I q i HI.out,X1.out]
    have HT:=hid hT;have hTb:Bytes (headN I q i++[j]++X):=app_bytes (app_bytes (headN_bytes _ _ _ HIB.out) (sl_bytes (by simp;omega))) X2.out;have HTB:=hid hTb;clear hT hTb;go_wp2_with fail
    refine(sum_u (headN I q i++[j]++X) (some ⟨g2,0,none⟩) 55 55 w4 HTB.out (Sr.of_blk M2.out rfl) HT.out (Nat.le_refl _) (by decide) (HK.out.below B4.out HG.out)).mono ?_
    rintro e w5 ⟨rfl,b5⟩
    rw[←XS.out];have N0:=hid (M0.out.below b5 M0.out.lt);have N1:=hid (M1.out.below b5 M1.out.lt);have N2:=hid (M2.out.below b5 M2.out.lt);have B5:=hid (B4.out.trans (b5.mono B4.out.size));clear b5 M0 M1 M2 B4;obtain⟨Y,hY⟩:∃ Y,walkN I q i a (k+1) x=Y:=⟨_,rfl⟩;have Y1:=hid (show Y.length=32 by rw[←hY,XS.out];rfl);rw[hY];have HY:=hid hY;clear hY;have HYL:=hid (show(u8s X).length=(u8s Y).length by rw[u8s_length,u8s_length,X1.out,Y1.out])
    go_wp2_with ((with_reducible refine store_blk 23 (.tmp 8) (.tmp 33) w.heap.size 23 (u8s X) (u8s Y) rfl rfl ?_ ?_ ?_ ?_ ?_ ?_ ?_);exact N0.out;exact HYL.out;exact size32 _ Y1.out;exact u8s_one _;exact rfl;exact rfl)
    go_roundw
    case rel=>
     have hj:=HJ.out;refine⟨k+1,j::X,by omega,?_,by simp[X1.out],?_,?_,N1.out.setRow_far (by omega) _,below_setRow B5.out (Nat.le_refl _) _⟩
     ·rw[show a+(k+1)=j+1 from by omega];go_num
     ·have:=N2.out.setRow_far (show g2≠w.heap.size by omega) (u8s Y).toArray;rw[List.append_nil,List.append_assoc] at this;exact this
     ·have:=N0.out.setRow (u8s Y);rw[←HY.out] at this;rw[←HY.out];exact this
    case measure=>simp[intOf];omega
   ·have hjb2:j=b:=by omega
    have XE2:=hid (XE (by have:=HJ.out;omega));have K0:=hid k0;have K1:=hid k1;have BW:=hid bw;have j1:¬ ((j:Int)<b):=by omega
    have HZL:=hid (show(u8s z32).length=(u8s X).length by rw[u8s_length,u8s_length,X1.out];rfl);clear k0 k1 k2 bw hlt hjb2 XE XS
    go_wp2_with (first
     |((with_reducible refine load_blk 23 (.tmp 8) w.heap.size 23 (u8s X) _ rfl rfl ?_ Tryz.underlying23 ?_ ?_ ?_ ?_);exact K0.out;exact rfl;exact size32 _ X1.out;exact rfl)
     |((with_reducible refine store_blk 23 (.tmp 9) (.tmp 34) g1 23 (u8s z32) (u8s X) rfl rfl ?_ ?_ ?_ ?_ ?_ ?_ ?_);exact K1.out;exact HZL.out;exact size32 _ X1.out;exact u8s_one _;exact rfl;exact rfl))
    exact ret_blk (p:=9) (ty:=23) rfl rfl g1 23 _ _ rfl (K1.out.setRow _) Tryz.underlying23 rfl (size32 _ X1.out) ⟨by rw[XE2.out],below_setRow BW.out (by omega) _⟩
def catN (E:Nat→List Nat):Nat→List Nat
 |0=>[]
 |k+1=>catN E k++E k
theorem catN_length (E:Nat→List Nat) (k:Nat) (h:∀ j,j<k→(E j).length=32):(catN E k).length=32 * k:=by
 induction k with
 |zero=>rfl
 |succ k ih=>rw[catN,List.length_append,ih (λj hj=>h j (by omega)),h k (by omega)];omega
theorem catN_bytes (E:Nat→List Nat) (k:Nat) (h:∀ j,j<k→Bytes (E j)):Bytes (catN E k):=by
 induction k with
 |zero=>exact nil_bytes
 |succ k ih=>exact app_bytes (ih (λj hj=>h j (by omega))) (h k (by omega))
theorem catN_congr {E F:Nat→List Nat} :∀ k,(∀ j,j<k→E j=F j)→catN E k=catN F k
 |0,_=>rfl
 |k+1,h=>by rw[catN,catN,catN_congr k (λj hj=>h j (by omega)),h k (by omega)]
def pubOf (I:List Nat) (q:Nat) (l:List Nat):List Nat:=sum (headN I q 32896++l)
set_option maxHeartbeats 2000000 in
theorem public_of (F:FuncId) (c1 c2 c3 c4:Nat) (E:Nat→List Nat) (I:List Nat) (q i:Nat) (w:World) (hI:I.length=16) (hIb:Bytes I) (hq:q<32) (hi:i<4) (hE:∀ j,j< (kd i).p→(E j).length=32∧Bytes (E j)) (hk:KAt w) (hcf:∀ args W,(callFunc F args).run Tryz.prog W= .ok (.enter F args) W)
  (hend:∀ (W:World) (j:Nat),Below w.heap.size w W→j< (kd i).p→Calls Tryz.prog F #[.int .i64 (j:Int),.pointer (some ⟨c1,0,none⟩),.pointer (some ⟨c2,0,none⟩),.pointer (some ⟨c3,0,none⟩),.pointer (some ⟨c4,0,none⟩)] W λe w'=>e= .returned (.agg (u8s (E j)).toArray)∧Below W.heap.size W w'):
  Calls Tryz.prog 119 #[.agg (lf I q).toArray,.agg (kv (kd i)).toArray,.func (.func F) #[] #[.pointer (some ⟨c1,0,none⟩),.pointer (some ⟨c2,0,none⟩),.pointer (some ⟨c3,0,none⟩),.pointer (some ⟨c4,0,none⟩)]] w λe w'=>e= .returned (.agg (u8s (pubOf I q (catN E (kd i).p))).toArray)∧Below w.heap.size w w':=by
 have HI:=hid hI;have HIB:=hid hIb;have HE:=hid hE;have HK:=hid hk;have HG:=hid hk.lt;have HEND:=hid hend;have hp:=kd_p i hi;clear hI hIb hE hk hend
 go_enter Tryz.func119,Tryz.ntmps119
 go_wp2_with fail
 refine(new_t _).mono ?_
 rintro e w1 ⟨rfl,hw⟩
 have k:Blk w1 w.heap.size 160 (lf I q)∧Blk w1 (w.heap.size+1) 156 (kv (kd i))∧Blk w1 (w.heap.size+1+1) 23 (u8s z32)∧Dig w1 (w.heap.size+1+1+1) [] z0 (List.replicate 64 0)∧Below w.heap.size w w1∧w1.heap.size=w.heap.size+1+1+1+1:=by
  rw[hw];exact⟨((((Blk.new _ _ (lf I q)).alloc _).alloc _).alloc _),(((Blk.new2 _ _ _ (kv (kd i))).alloc _).alloc _),(blk_at (by simp) _ _ (u8s z32)).alloc _,Dig.zero (blk_at (by simp) _ _ DZ),((((Below.refl _ _).alloc (Nat.le_refl _) _).alloc (by simp) _).alloc (by simp;omega) _).alloc (by simp;omega) _,by simp⟩
 obtain⟨k0,k1,k2,k3,bw,hz⟩:=k;clear hw;have K0:=hid k0;have K1:=hid k1;have K2:=hid k2;have K3:=hid k3;have BW:=hid bw;have hz2:w.heap.size+4≤w1.heap.size:=by omega
 clear k0 k1 k2 k3 bw hz
 go_wp2_with ((with_reducible refine load_blk 160 (.tmp 3) w.heap.size 160 (lf I q) _ rfl rfl ?_ Tryz.underlying160 ?_ ?_ ?_ ?_);exact K0.out;exact rfl;exact lf_size _ _ HI.out;exact rfl)
 refine(head_t I q 32896 w1 HI.out hq (by decide)).mono ?_
 rintro e w2 ⟨v,rfl,o2,b2⟩
 obtain⟨A,n,c,rfl,hn,hc⟩:∃ A n c,v= .slice A n c∧n=22∧n≤c:=by
  obtain⟨A,c,e,h⟩:=own_form o2;exact⟨A,_,c,e,headN_length I q 32896 HI.out,h⟩
 subst hn;rw[headN_length I q 32896 HI.out] at o2;have O2:=hid o2;have M1:=hid (K1.out.below b2 K1.out.lt);have M2:=hid (K2.out.below b2 K2.out.lt);have M3:=hid (K3.out.below b2 K3.out.blk.lt);have B2:=hid (BW.out.trans (b2.mono BW.out.size));obtain⟨g1,hg1⟩:∃ g,w.heap.size+1=g:=⟨_,rfl⟩;rw[hg1] at M1 M2 M3 ⊢;obtain⟨g2,hg2⟩:∃ g,g1+1=g:=⟨_,rfl⟩;rw[hg2] at M2 M3 ⊢;obtain⟨g3,hg3⟩:∃ g,g2+1=g:=⟨_,rfl⟩;rw[hg3] at M3 ⊢;have l1:w.heap.size<g1:=by omega
 have l2:g1<g2:=by omega
 have l3:g2<g3:=by omega
 have l4:g3<w1.heap.size:=by omega
 clear hg1 hg2 hg3 o2 b2 K0 K1 K2 K3 BW;go_wp2_with fail
 refine(write_u w.heap.size g3 _ _ [] (headN I q 32896) A 22 c w2 M3.out (headN_bytes I q 32896 HIB.out) (Sl.own O2.out l4) (headN_length I q 32896 HI.out) hc (by simp) (HK.out.below B2.out HG.out) (by omega) HG.out).mono ?_
 rintro e w3 ⟨rfl,⟨s3,r3,d3⟩,t3,b3⟩
 rw[List.nil_append] at d3;have N1:=hid (M1.out.but t3 M1.out.lt (by omega));have N2:=hid (M2.out.but t3 M2.out.lt (by omega));have N3:=hid d3;have B3:=hid (B2.out.trans b3);clear d3 t3 b3 M1 M2 M3 O2 B2;obtain⟨p,hpp⟩:∃ p,(kd i).p=p:=⟨_,rfl⟩;have cp:w3.cell? ⟨g1,2,none⟩=some (.int .i64 (p:Int)):=by rw[←hpp];exact N1.out.cell 2
 rw[hpp] at HE HEND hp;have HPP:=hid hpp;clear hpp;go_wp2_with fail
 clear cp
 go_loopw [17] (λs wr=>∃ k:Nat,k≤p∧s= .int .i64 (k:Int)∧(∃ s r,Dig wr g3 (headN I q 32896++catN E k) s r)∧Blk wr g2 23 (u8s z32)∧Below w.heap.size w wr) (λs _=>p- (intOf s).toNat)
 case atStart=>exact⟨0,by omega,rfl,⟨s3,r3,by rw[catN,List.append_nil];exact N3.out⟩,N2.out,B3.out⟩
 case round=>
  clear N1 N2 N3 B3;obtain⟨k,hk,rfl,⟨s,r,d⟩,k2,bw⟩:=hrel;have D0:=hid d;have K2:=hid k2;have BW:=hid bw;have gl:g3<wr.heap.size:=d.blk.lt;clear d k2 bw
  by_cases hlt:k<p
  ·have HK1:=hid (HE.out k hlt);have HCL:=hid (catN_length E k (λj hj=>(HE.out j (by omega)).1));go_wp2_with fail
   refine(HEND.out wr k BW.out hlt).mono ?_
   rintro e w4 ⟨rfl,b4⟩
   have D4:=hid (D0.out.below b4 D0.out.blk.lt);have M2:=hid (K2.out.below b4 K2.out.lt);have B4:=hid (BW.out.trans (b4.mono BW.out.size));have gl4:g3<w4.heap.size:=D4.out.blk.lt;have HZE:=hid (show(u8s z32).length=(u8s (E k)).length by rw[u8s_length,u8s_length,HK1.out.1];rfl);have R4:=hid (Blk.new w4 23 (u8s z32));have R5:=hid (R4.out.setRow (u8s (E k)));have b5:=below_setRow ((Below.refl w4.heap.size w4).alloc (Nat.le_refl _) (.cells (u8s z32).toArray 23)) (Nat.le_refl _) (u8s (E k)).toArray;have D5:=hid (D4.out.below b5 D4.out.blk.lt);have M5:=hid (M2.out.below b5 M2.out.lt);have B5:=hid (B4.out.trans (b5.mono B4.out.size));clear b4 b5 D0 K2 BW
   go_wp2_with ((with_reducible refine store_blk 23 (.tmp 9) (.tmp 22) w4.heap.size 23 (u8s z32) (u8s (E k)) rfl rfl ?_ ?_ ?_ ?_ ?_ ?_ ?_);exact R4.out;exact HZE.out;exact size32 _ HK1.out.1;exact u8s_one _;exact rfl;exact rfl)
   refine(write_u w.heap.size g3 s r (headN I q 32896++catN E k) (E k) (some ⟨w4.heap.size,0,none⟩) 32 32 _ D5.out HK1.out.2 (Sl.of_blk (rest:=[]) R5.out (by simp) (by omega)) HK1.out.1 (Nat.le_refl _) (by rw[List.length_append,headN_length I q 32896 HI.out,HCL.out];omega) (HK.out.below B5.out HG.out) (by omega) HG.out).mono ?_
   rintro e w6 ⟨rfl,⟨s6,r6,d6⟩,t6,b6⟩
   have D6:=hid d6;have M6:=hid (M5.out.but t6 M5.out.lt (by omega));have B6:=hid (B5.out.trans b6);clear d6 t6 b6 D4 M2 B4 R4 R5 D5 M5 B5;go_wp2_with fail
   go_roundw
   case rel=>exact⟨k+1,by omega,by go_num,⟨s6,r6,by rw[catN,←List.append_assoc];exact D6.out⟩,M6.out,B6.out⟩
   case measure=>simp[intOf];omega
  ·obtain rfl:k=p:=by omega
   have HCL:=hid (catN_length E k (λj hj=>(HE.out j hj).1));go_wp2_with fail
   refine(dsum_t g3 s r _ wr D0.out (by rw[List.length_append,headN_length I q 32896 HI.out,HCL.out];omega) (HK.out.below BW.out HG.out)).mono ?_
   rintro e w6 ⟨rfl,b6⟩
   have Q2:=hid (K2.out.below b6 K2.out.lt);have B6:=hid (BW.out.trans (b6.mono BW.out.size));clear b6 D0 K2 BW;obtain⟨S,hS⟩:∃ S,sum (headN I q 32896++catN E k)=S:=⟨_,rfl⟩;have hSl:S.length=32:=by rw[←hS];rfl
   rw[hS];have HSL:=hid hSl;have HSS:=hid hS;have hzl:(u8s z32).length=(u8s S).length:=by rw[u8s_length,u8s_length,hSl];rfl
   have HZL:=hid hzl;clear hS hSl hzl
   go_wp2_with ((with_reducible refine store_blk 23 (.tmp 6) (.tmp 28) g2 23 (u8s z32) (u8s S) rfl rfl ?_ ?_ ?_ ?_ ?_ ?_ ?_);exact Q2.out;exact HZL.out;exact size32 _ HSL.out;exact u8s_one _;exact rfl;exact rfl)
   exact ret_blk (p:=6) (ty:=23) rfl rfl g2 23 _ _ rfl (Q2.out.setRow _) Tryz.underlying23 rfl (size32 _ HSL.out) ⟨by unfold pubOf;rw[HPP.out,HSS.out],below_setRow B6.out (by omega) _⟩
theorem rg_below {w w':World} {B b o:Nat} {cs:List Value} (h:w.rangeAt b o cs) (hb:Below B w w') (hB:b<B):w'.rangeAt b o cs:=λj v hv=>(hb.cell (p:=⟨b,o+j,none⟩) hB).trans (h j v hv)
theorem rg_but {w w':World} {B g b o:Nat} {cs:List Value} (h:w.rangeAt b o cs) (hb:But B g w w') (hB:b<B) (hne:b≠g):w'.rangeAt b o cs:=λj v hv=>(hb.cell (p:=⟨b,o+j,none⟩) hB hne).trans (h j v hv)
def tipN (I seed:List Nat) (q i j:Nat):List Nat:=walkN I q j 0 (2 ^ (kd i).w-1) (secN I seed q j)
theorem top_lt (i:Nat) (hi:i<4):2 ^ (kd i).w-1<256:=by
 have:i=0∨i=1∨i=2∨i=3:=by omega
 rcases this with rfl |rfl |rfl |rfl<;>decide
theorem secN_bytes (I seed:List Nat) (q j:Nat) (hI:Bytes I) (hs:Bytes seed):Bytes (secN I seed q j):=sum_bytes _ (app_bytes (app_bytes (headN_bytes _ _ _ hI) (sl_bytes (by decide))) hs)
theorem tipN_ok (I seed:List Nat) (q i j:Nat) (hi:i<4) (hI:Bytes I) (hs:Bytes seed):(tipN I seed q i j).length=32∧Bytes (tipN I seed q i j):=
 ⟨walkN_length _ _ _ _ _ _ rfl,walkN_bytes _ _ _ _ _ _ hI (secN_bytes _ _ _ _ hI hs) (by have:=top_lt i hi;omega)⟩
theorem build_two {P:Program} {ops:Array Oper} {rest:List Oper} {o:Oper} {a:Act} {w:World} {Q:Exit→Act→World→Prop} (hg:o.guard=none) (t:TypeId) (x y:Operand) (ho:o.op= .build t #[(0,x),(1,y)]) (cs:List Value) (u v:Value) (hx:a.eval x=u) (hy:a.eval y=v)
  (hb:P.built t [(0,u),(1,v)]=some cs.toArray) (h:wpList P ops Q rest (a.put o.dst (.agg cs.toArray)) w):wpList P ops Q (o::rest) a w:=by
 have e:((#[(0,x),(1,y)]:Array (Nat×Operand)).map λ(i,x)=>(i,a.eval x)).toList=[(0,u),(1,v)]:=by simp[hx,hy]
 exact wpList_build hg t _ ho (by rw[e,hb];rfl) (by rw[e,hb];exact h)
theorem built_16 (a0 a1 a2 a3 a4 a5 a6 a7 a8 a9 a10 a11 a12 a13 a14 a15 q:Nat):Tryz.prog.built 160 [(0,.agg (u8s [a0,a1,a2,a3,a4,a5,a6,a7,a8,a9,a10,a11,a12,a13,a14,a15]).toArray),(1,.int .i64 (q:Int))]=some (lf [a0,a1,a2,a3,a4,a5,a6,a7,a8,a9,a10,a11,a12,a13,a14,a15] q).toArray:=by kernel_rfl
theorem built_leaf (I:List Nat) (q:Nat) (hI:I.length=16):Tryz.prog.built 160 [(0,.agg (u8s I).toArray),(1,.int .i64 (q:Int))]=some (lf I q).toArray:=by
 match I,hI with
 |[a0,a1,a2,a3,a4,a5,a6,a7,a8,a9,a10,a11,a12,a13,a14,a15],_=>exact built_16 _ _ _ _ _ _ _ _ _ _ _ _ _ _ _ _ _
def pubN (I seed:List Nat) (q i:Nat):List Nat:=pubOf I q (catN (tipN I seed q i) (kd i).p)
def digL (i:Nat) (Q:List Nat):List Nat:=dv (digN (kd i).w (kd i).ls Q) (kd i).p 265
theorem digL_length (i:Nat) (hi:i<4) (Q:List Nat):(digL i Q).length=265:=dv_length _ (kd_p i hi)
theorem digL_get (i j:Nat) (hj:j< (kd i).p) (Q:List Nat):gt (digL i Q) j=digN (kd i).w (kd i).ls Q j:=dv_get _ hj
theorem digN_le (i j:Nat) (Q:List Nat):digN (kd i).w (kd i).ls Q j≤2 ^ (kd i).w-1:=Nat.le_sub_one_of_lt (coefN_lt _ _ _)
def sigE (I seed:List Nat) (q i:Nat) (Q:List Nat) (j:Nat):List Nat:=walkN I q j 0 (digN (kd i).w (kd i).ls Q j) (secN I seed q j)
def sigC (I seed:List Nat) (q:Nat):List Nat:=secN I seed q 65533
def sigN (I seed:List Nat) (q i:Nat) (msg:List Nat):List Nat:=beN (kd i).code 4++sigC I seed q++catN (sigE I seed q i (msgN I q (sigC I seed q) msg)) (kd i).p
theorem sigE_ok (I seed:List Nat) (q i:Nat) (Q:List Nat) (j:Nat) (hi:i<4) (hI:Bytes I) (hs:Bytes seed):(sigE I seed q i Q j).length=32∧Bytes (sigE I seed q i Q j):=
 ⟨walkN_length _ _ _ _ _ _ rfl,walkN_bytes _ _ _ _ _ _ hI (secN_bytes _ _ _ _ hI hs) (by have:=top_lt i hi;have:=digN_le i j Q;omega)⟩
theorem sigN_length (I seed:List Nat) (q i:Nat) (msg:List Nat):(sigN I seed q i msg).length=36+32 * (kd i).p:=by
 unfold sigN;rw[List.length_append,List.length_append,beN_length,catN_length (sigE I seed q i _) _ (λ_ _=>walkN_length _ _ _ _ _ _ rfl),show(sigC I seed q).length=32 from rfl]
theorem sigN_bytes (I seed:List Nat) (q i:Nat) (msg:List Nat) (hi:i<4) (hI:Bytes I) (hs:Bytes seed):Bytes (sigN I seed q i msg):=
 app_bytes (app_bytes (beN_bytes _ _) (secN_bytes _ _ _ _ hI hs)) (catN_bytes _ _ (λ_ _=>(sigE_ok _ _ _ _ _ _ hi hI hs).2))
theorem slice_mid {P:Program} {t e:TypeId} (hu:P.underlying t=some (.slice e)) (hs:(P.info? e).map (·.size)=some 1) (p:Option Addr) (n c l h:Nat) (h1:l≤h) (hc:h≤c):
  ∃ p2,(l<c→∀ g off,p=some ⟨g,off,none⟩→p2=some ⟨g,off+l,none⟩)∧∀ W,(Instr.slice t (.slice p n c) (some (.int .i64 (l:Int))) (some (.int .i64 (h:Int))) none).run P W= .ok (.slice p2 (h-l) (c-l)) W:=by
 have hz:∀ W,(sizeOf e).run P W= .ok 1 W:=by
  cases hq:P.info? e with
  |none=>simp[hq] at hs
  |some i=>simp[hq] at hs;intro W;simp[sizeOf,typeInfo,hq,hs]
 have e1:∀ W,(Instr.sliceBound (.int .i64 (l:Int)) h .sliceB).run P W= .ok l W:=λW=>by
  simp[Instr.sliceBound,asIntOf,h1]
 have e2:∀ W,(Instr.sliceBound (.int .i64 (h:Int)) c .sliceAcap).run P W= .ok h W:=λW=>by
  simp[Instr.sliceBound,asIntOf,hc]
 refine⟨if c=l then p else p.map (·.add l),λhl g off hp=>?_,λW=>?_⟩
 ·rw[if_neg (by omega),hp];simp[Addr.add_mid]
 ·simp[Instr.slice,run_underlying hu,Instr.sliceBounds,e1,e2,hz,Result.andThen]
def piece (xs:List Nat) (n:Nat):List Nat:=(xs.drop (4+32 * n)).take 32
theorem piece_length (xs:List Nat) (n:Nat) (h:36+32 * n≤xs.length):(piece xs n).length=32:=by
 unfold piece;rw[List.length_take,List.length_drop];omega
theorem piece_bytes (xs:List Nat) (n:Nat) (h:Bytes xs):Bytes (piece xs n):=bytes_take (bytes_drop h _) _
theorem piece_range {w:World} {b o:Nat} {xs:List Nat} (h:BytesAt w b o xs) (n:Nat) (hn:36+32 * n≤xs.length):w.rangeAt b (o+(4+32 * n)) (u8s (piece xs n)):=λj v hv=>by
 have hj:j<32:=by
  have:=(List.getElem?_eq_some_iff.1 hv).1
  rwa [u8s_length,piece_length xs n hn] at this
 rw[Nat.add_assoc,h _ (by omega),←hv,u8s_get _ _ (by rw[piece_length xs n hn];exact hj)]
 congr 3
 unfold piece;simp[gt,List.getD_eq_getElem?_getD,hj]
set_option maxHeartbeats 1000000 in
theorem hashAt_t (xs:List Nat) (P:Option Addr) (m c n:Nat) (w:World) (hx:xs.length=m) (hp:Sr w P xs) (hc:m≤c) (hn:n≤265) (hm:36+32 * n≤m):
  Calls Tryz.prog 117 #[.slice P m c,.int .i64 (n:Int)] w λe w'=>e= .returned (.agg (u8s (piece xs n)).toArray)∧Below w.heap.size w w':=by
 have HX:=hid hx;obtain⟨b,o,rfl,hb,hbytes⟩:=hp (by omega);have RG:=hid (piece_range hbytes n (by omega));have PL:=hid (piece_length xs n (by omega));obtain⟨at_,hat⟩:∃ a,4+32 * n=a:=⟨_,rfl⟩;rw[hat] at RG;obtain⟨p2,hp2,hs2⟩:=slice_mid (P:=Tryz.prog) (t:=25) (e:=5) Tryz.underlying25 byte_size (some ⟨b,o,none⟩) m c at_ (at_+32) (by omega) (by omega);obtain rfl:=hp2 (by omega) b o rfl;rw[show((at_+32:Nat):Int)=(at_:Int)+32 from rfl,show at_+32-at_=32 from by omega] at hs2;have hs3:∀ W,(Instr.arrayAt 23 (.slice (some ⟨b,o+at_,none⟩) 32 (c-at_))).run Tryz.prog W= .ok (.pointer (some ⟨b,o+at_,none⟩)) W:=λW=>by
  simp[Instr.arrayAt,run_underlying Tryz.underlying23,Result.andThen]
 have HS2:=hid hs2;have HS3:=hid hs3;have i1:(n:Int)≤265:=by omega
 have HAT:=hid (show(4:Int)+(n:Int) * 32=(at_:Int) by omega);have a1:(at_:Int)≤10000:=by omega
 have BL:=hid hb;clear hbytes hat hp hp2 hs2 hs3 hx hb
 go_enter Tryz.func117,Tryz.ntmps117
 go_upto_region 2 with(fail)
 rw[HAT.out];have hs2:=HS2.out;have hs3:=HS3.out;refine world_is (λW=>W.rangeAt b (o+at_) (u8s (piece xs n))∧Blk W w.heap.size 23 (u8s z32)∧Below w.heap.size w W) ⟨rg_below RG.out ((Below.refl w.heap.size w).alloc (Nat.le_refl _) _) BL.out,Blk.new _ _ (u8s z32),(Below.refl _ _).alloc (Nat.le_refl _) _⟩ ?_
 rintro W ⟨rg,z,bw⟩
 have RG2:=hid rg;have Z0:=hid z;have BW:=hid bw;have HZL:=hid (show(u8s z32).length=(u8s (piece xs n)).length by rw[u8s_length,u8s_length,PL.out];rfl);clear rg z bw RG
 go_wp2_with (first
  |((with_reducible refine wpList_load_mid rfl 23 (.tmp 14) rfl b (o+at_) ?_ (u8s (piece xs n)) _ ?_ Tryz.underlying23 ?_ ?_ ?_);exact rfl;exact RG2.out;exact rfl;exact size32 _ PL.out)
  |((with_reducible refine store_blk 23 (.tmp 4) (.tmp 15) w.heap.size 23 (u8s z32) (u8s (piece xs n)) rfl rfl ?_ ?_ ?_ ?_ ?_ ?_ ?_);exact Z0.out;exact HZL.out;exact size32 _ PL.out;exact u8s_one _;exact rfl;exact rfl))
 exact ret_blk (p:=4) (ty:=23) rfl rfl w.heap.size 23 _ _ rfl (Z0.out.setRow _) Tryz.underlying23 rfl (size32 _ PL.out) ⟨rfl,below_setRow BW.out (Nat.le_refl _) _⟩
set_option maxHeartbeats 1000000 in
theorem fits_len (P:Option Addr) (i m c:Nat) (w:World) (hi:i<4) (hm:m≠36+32 * (kd i).p) (_:m≤9223372036854775807):
  Calls Tryz.prog 114 #[.agg (kv (kd i)).toArray,.slice P m c] w λe w'=>e= .returned (.bool false)∧Below w.heap.size w w':=by
 have hp265:=kd_p i hi;have K0:=hid (Blk.new w 156 (kv (kd i)));obtain⟨p,hpp⟩:∃ p,(kd i).p=p:=⟨_,rfl⟩;rw[hpp] at hm hp265;have c2:(w.alloc (.cells (kv (kd i)).toArray 156)).cell? ⟨w.heap.size,2,none⟩=some (.int .i64 (p:Int)):=by rw[←hpp];exact K0.out.cell 2
 have e1:IntKind.i64.wrap (1+(p:Int))=1+(p:Int):=IntWalk.i64_in _ (by omega);have e2:IntKind.i64.wrap (32 * (1+(p:Int)))=32 * (1+(p:Int)):=IntWalk.i64_in _ (by omega);have e3:IntKind.i64.wrap (4+32 * (1+(p:Int)))=4+32 * (1+(p:Int)):=IntWalk.i64_in _ (by omega);have t0:((m:Int) == 4+32 * (1+(p:Int)))=false:=by rw[beq_eq_false_iff_ne];omega
 clear hpp hm
 go_enter Tryz.func114,Tryz.ntmps114
 go_wp2_with fail
 go_quiet (fail)
 go_wp2_with fail
 go_ret;exact⟨rfl,below_drewN ((Below.refl _ _).alloc (Nat.le_refl _) _) _⟩
set_option maxHeartbeats 1000000 in
theorem fits_t (xs:List Nat) (P:Option Addr) (i m c:Nat) (w:World) (hi:i<4) (hx:xs.length=m) (hp:Sr w P xs) (hb:Bytes xs) (hc:m≤c) (hm:m=36+32 * (kd i).p):
  Calls Tryz.prog 114 #[.agg (kv (kd i)).toArray,.slice P m c] w λe w'=>e= .returned (.bool (decide (val (xs.take 4)=(kd i).code)))∧Below w.heap.size w w':=by
 have HX:=hid hx;have HP:=hid hp;have HB:=hid hb;have HC:=hid hc;have hp265:=kd_p i hi;have K0:=hid (Blk.new w 156 (kv (kd i)));have B0:=hid ((Below.refl w.heap.size w).alloc (Nat.le_refl _) (.cells (kv (kd i)).toArray 156));have hs4:=slice_high (P:=Tryz.prog) (t:=25) (e:=5) Tryz.underlying25 byte_size P m c .i64 4 (by omega);rw[show((4:Nat):Int)=4 from rfl] at hs4;obtain⟨p,hpp⟩:∃ p,(kd i).p=p:=⟨_,rfl⟩;rw[hpp] at hm hp265;have e1:IntKind.i64.wrap (1+(p:Int))=1+(p:Int):=IntWalk.i64_in _ (by omega);have e2:IntKind.i64.wrap (32 * (1+(p:Int)))=32 * (1+(p:Int)):=IntWalk.i64_in _ (by omega);have e3:IntKind.i64.wrap (4+32 * (1+(p:Int)))=4+32 * (1+(p:Int)):=IntWalk.i64_in _ (by omega);have t0:((m:Int) == 4+32 * (1+(p:Int)))=true:=by rw[beq_iff_eq];omega
 have m1:36≤m:=by omega
 have HPP:=hid hpp;clear hpp hm hx hp hb hc
 go_enter Tryz.func114,Tryz.ntmps114
 go_wp2_with fail
 refine world_is (λW=>Blk W w.heap.size 156 (kv (kd i))∧Below w.heap.size w W) ⟨K0.out,B0.out⟩ ?_
 rintro W ⟨k,bw⟩
 have K1:=hid k.drew;have B1:=hid bw.drew;have rs:∀ X,Blk X w.heap.size 156 (kv (kd i))→(X.cell? ⟨w.heap.size,0,none⟩=some (.int .u64 ((kd i).code:Int))∧X.cell? ⟨w.heap.size,2,none⟩=some (.int .i64 (p:Int))):=λX h=>⟨h.cell 0,by rw[←HPP.out];exact h.cell 2⟩
 have RS:=hid rs;have r1:=rs _ K1.out;clear k bw rs K0 B0;refine wp_region_held (S:=λX=>X.cell? ⟨w.heap.size,0,none⟩=some (.int .u64 ((kd i).code:Int))∧X.cell? ⟨w.heap.size,2,none⟩=some (.int .i64 (p:Int))) (by kernel_rfl) ?_;change wpAnyH _ _ _ _ _ _ _ _ W.drew;refine tka9 0 r1 ?_;refine tka9 1 r1 ?_;refine tka9 2 r1 ?_;refine tk9 3 ?_ ?_ r1 ?_;rotate_left 1
 ·(intro w hS;have hs:=hS.2;clear hS;go_simp;try (with_reducible rfl))
 refine tka9 4 r1 ?_;refine tka9 5 r1 ?_;refine tka9 6 r1 ?_;refine tka9 7 r1 ?_;refine tka9 8 r1 ?_;refine tka9 9 r1 ?_;refine tka9 10 r1 ?_;refine tka9 13 r1 ?_;refine tk9 14 ?_ ?_ r1 ?_;rotate_left 1
 ·(intro w hS;have hs:=hS.1;clear hS;go_simp;try (with_reducible rfl))
 refine rd9 11 λK hK=>?_
 go_simp;have wl:w.heap.size<W.drew.heap.size:=K1.out.lt;refine(rnew_t (xs.take 4) P 4 c W.drew (by rw[List.length_take,HX.out];omega) ((HP.out.below B1.out).take 4) (by decide)).mono ?_
 rintro e w2 ⟨g,rfl,hg,hr,b2⟩
 have K2:=hid (K1.out.below b2 K1.out.lt);have B2:=hid (B1.out.trans (b2.mono B1.out.size));have R2:=hid hr;have r2:=RS.out _ K2.out;clear b2 hr r1 K1 B1;refine hK.out _ _ r2 (λ_=>?_);clear hK K;refine rd9 12 λK hK=>?_
 go_simp;refine(rnum_ok g (xs.take 4) false 4 w2 R2.out (bytes_take HB.out 4) (by decide) (by decide) (by rw[List.length_take,HX.out];omega) (by rw[List.length_take];omega)).mono ?_
 rintro e w3 ⟨rfl,_,k3⟩
 rw[List.take_take,Nat.min_self];have K3:=hid (K2.out.kept k3 (by omega));have B3:=hid (B2.out.trans ((k3.mono (G:=λk=>w.heap.size≤k) (λk (e:k=g)=>by omega)).to_below B2.out.size));have r3:=RS.out _ K3.out;clear k3 r2 R2 K2 B2;refine hK.out _ _ r3 (λ_=>?_);clear hK K;refine tka9 15 r3 ?_;refine tka9 16 r3 ?_;refine tka9 17 r3 ?_;refine wpAnyH_done (by kernel_rfl) ?_ _;go_simp;go_wp2_with fail
 go_ret;refine⟨?_,B3.out⟩
 show Ending.returned (.bool (((val (xs.take 4):Nat):Int) == ((kd i).code:Int)))=_
 have e:(((val (xs.take 4):Nat):Int) == ((kd i).code:Int))=decide (val (xs.take 4)=(kd i).code):=by
  rw[Bool.eq_iff_iff];simp;omega
 rw[e]
def candE (I:List Nat) (q i:Nat) (D xs:List Nat) (j:Nat):List Nat:=walkN I q j (gt D j) (2 ^ (kd i).w-1-gt D j) (piece xs (1+j))
theorem candE_ok (I:List Nat) (q i:Nat) (D xs:List Nat) (j:Nat) (hi:i<4) (hI:Bytes I) (hx:Bytes xs) (hl:36+32 * (1+j)≤xs.length) (hD:gt D j≤2 ^ (kd i).w-1):(candE I q i D xs j).length=32∧Bytes (candE I q i D xs j):=
 ⟨walkN_length _ _ _ _ _ _ (piece_length xs _ hl),walkN_bytes _ _ _ _ _ _ hI (piece_bytes xs _ hx) (by have:=top_lt i hi;omega)⟩
structure CCap (w:World) (c1 c2 c3 c4 gB:Nat) (I:List Nat) (q i:Nat) (D xs:List Nat) (P:Option Addr) (m c:Nat):Prop where
 walk:w.cell? ⟨c1,0,none⟩=some (.func (.func 143) #[] #[.pointer (some ⟨gB,0,none⟩)])
 dig:Blk w c2 161 (ints D)
 kind:Blk w c3 156 (kv (kd i))
 sig:Blk w c4 25 [.slice P m c]
 beg:Blk w gB 187 (u8s (begN I q))
 text:Sr w P xs
 lt:c1<w.heap.size
theorem CCap.below {w w':World} {c1 c2 c3 c4 gB:Nat} {I:List Nat} {q i:Nat} {D xs:List Nat} {P:Option Addr} {m c:Nat} (h:CCap w c1 c2 c3 c4 gB I q i D xs P m c) (hb:Below w.heap.size w w'):CCap w' c1 c2 c3 c4 gB I q i D xs P m c:=
 ⟨(hb.cell (p:=⟨c1,0,none⟩) h.lt).trans h.walk,h.dig.below hb h.dig.lt,h.kind.below hb h.kind.lt,h.sig.below hb h.sig.lt,h.beg.below hb h.beg.lt,h.text.below hb,Nat.lt_of_lt_of_le h.lt hb.size⟩
set_option maxHeartbeats 2000000 in
theorem candEnd_t (c1 c2 c3 c4 gB:Nat) (I:List Nat) (q i j:Nat) (D xs:List Nat) (P:Option Addr) (m c:Nat) (w:World) (h:CCap w c1 c2 c3 c4 gB I q i D xs P m c) (hI:I.length=16) (hIb:Bytes I) (hi:i<4) (hj:j< (kd i).p) (hx:xs.length=m) (hxb:Bytes xs) (hc:m≤c) (hm:m=36+32 * (kd i).p) (hD:D.length=265) (hDj:gt D j≤2 ^ (kd i).w-1) (hk:KAt w):
  Calls Tryz.prog 120 #[.int .i64 (j:Int),.pointer (some ⟨c1,0,none⟩),.pointer (some ⟨c2,0,none⟩),.pointer (some ⟨c3,0,none⟩),.pointer (some ⟨c4,0,none⟩)] w λe w'=>e= .returned (.agg (u8s (candE I q i D xs j)).toArray)∧Below w.heap.size w w':=by
 have H:=hid h;have HI:=hid hI;have HIB:=hid hIb;have HX:=hid hx;have HXB:=hid hxb;have HC:=hid hc;have HD:=hid hD;have HK:=hid hk;have HG:=hid hk.lt;have hp265:=kd_p i hi;have E1:=hid (candE_ok I q i D xs j hi hIb hxb (by omega) hDj);have hm2:36+32 * (1+j)≤m:=by omega
 have hj2:j<265:=by omega
 have htop:=top_lt i hi;have ej:IntKind.i64.wrap (1+(j:Int))=((1+j:Nat):Int):=by rw[show(1:Int)+(j:Int)=((1+j:Nat):Int) from by omega];exact IntWalk.i64_in _ (by omega)
 obtain⟨j1,hj1⟩:∃ x,1+j=x:=⟨_,rfl⟩;rw[hj1] at ej;have HJ1:=hid hj1;clear h hI hIb hx hxb hc hm hD hk hj hj1
 go_enter Tryz.func120,Tryz.ntmps120
 go_wp2_with fail
 refine world_is (λW=>Blk W w.heap.size 23 (u8s z32)∧Below w.heap.size w W) ⟨Blk.new _ _ (u8s z32),(Below.refl _ _).alloc (Nat.le_refl _) _⟩ ?_
 rintro W ⟨z0',bw'⟩
 have Z0:=hid z0'.drew;have BW:=hid bw'.drew;have H0:=hid (H.out.below bw'.drew);have n1:w.heap.size≠c1:=by have:=H.out.lt;omega
 have n2:w.heap.size≠c2:=by have:=H.out.dig.lt;omega
 have n3:w.heap.size≠c3:=by have:=H.out.kind.lt;omega
 have n4:w.heap.size≠c4:=by have:=H.out.sig.lt;omega
 clear z0' bw' H;obtain⟨dj,hdj⟩:∃ d,gt D j=d:=⟨_,rfl⟩;have rs:∀ V,CCap V c1 c2 c3 c4 gB I q i D xs P m c→(V.cell? ⟨c1,0,none⟩=some (.func (.func 143) #[] #[.pointer (some ⟨gB,0,none⟩)])∧V.cell? ⟨c2,j,none⟩=some (.int .i64 (dj:Int))∧V.rangeAt c3 0 (kv (kd i))∧V.cell? ⟨c4,0,none⟩=some (.slice P m c)):=λV h=>⟨h.walk,by rw[h.dig.cell,ints_get _ _ (by rw[HD.out];omega),hdj],range_of_blk h.kind,h.sig.cell 0⟩
 have RS:=hid rs;have r1:=rs _ H0.out;have HDJ:=hid hdj;have i1:(j:Int)<265:=by omega
 rw[hdj] at hDj;clear rs hdj;refine wp_region_held (S:=λV=>V.cell? ⟨c1,0,none⟩=some (.func (.func 143) #[] #[.pointer (some ⟨gB,0,none⟩)])∧V.cell? ⟨c2,j,none⟩=some (.int .i64 (dj:Int))∧V.rangeAt c3 0 (kv (kd i))∧V.cell? ⟨c4,0,none⟩=some (.slice P m c)) (by kernel_rfl) ?_;change wpAnyH _ _ _ _ _ _ _ _ W.drew;refine tk9 0 ?_ ?_ r1 ?_;rotate_left 1
 ·(intro w hS;have hs:=hS.1;clear hS;go_simp;try (with_reducible rfl))
 refine tka9 1 r1 ?_;refine tka9 2 r1 ?_;refine tka9 3 r1 ?_;refine tk9 4 ?_ ?_ r1 ?_;rotate_left 1
 ·(intro w hS;have hs:=hS.2.1;clear hS;go_simp;try (with_reducible rfl))
 refine tkg9 5 (v:= .agg (kv (kd i)).toArray) (yieldsIf_load_mid (by kernel_rfl) 156 (.tmp 3) rfl c3 0 (by go_simp) (kv (kd i)) _ (λ_ h=>h.2.2.1) Tryz.underlying156 rfl (kv_size _)) r1 ?_;refine tk9 7 ?_ ?_ r1 ?_;rotate_left 1
 ·(intro w hS;have hs:=hS.2.2.2;clear hS;go_simp;try (with_reducible rfl))
 refine tka9 8 r1 ?_;refine tka9 9 r1 ?_;refine rd9 6 λK hK=>?_
 go_simp;refine(top_t i hi W.drew).mono ?_
 rintro e w2 ⟨rfl,b2⟩
 have Z2:=hid (Z0.out.below b2 Z0.out.lt);have B2:=hid (BW.out.trans (b2.mono BW.out.size));have H2:=hid (H0.out.below b2);have r2:=RS.out _ H2.out;clear b2 r1 Z0 BW H0;refine hK.out _ _ r2 (λ_=>?_);clear hK K;refine rd9 10 λK hK=>?_
 go_simp;refine(hashAt_t xs P m c j1 w2 HX.out H2.out.text HC.out (by have:=HJ1.out;omega) (by have:=HJ1.out;omega)).mono ?_
 rintro e w3 ⟨rfl,b3⟩
 have Z3:=hid (Z2.out.below b3 Z2.out.lt);have B3:=hid (B2.out.trans (b3.mono B2.out.size));have H3:=hid (H2.out.below b3);have r3:=RS.out _ H3.out;clear b3 r2 Z2 B2 H2;refine hK.out _ _ r3 (λ_=>?_);clear hK K;refine rd9 11 λK hK=>?_
 go_simp;refine(walk_t I (piece xs j1) q j dj (2 ^ (kd i).w-1) gB w3 HI.out HIB.out (piece_length xs _ (by have:=HJ1.out;have:=HX.out;omega)) (piece_bytes xs _ HXB.out) hj2 hDj htop H3.out.beg (HK.out.below B3.out HG.out)).mono ?_
 rintro e w4 ⟨rfl,b4⟩
 have Z4:=hid (Z3.out.below b4 Z3.out.lt);have B4:=hid (B3.out.trans (b4.mono B3.out.size));have H4:=hid (H3.out.below b4);have r4:=RS.out _ H4.out;clear b4 r3 Z3 B3 H3;rw[show walkN I q j dj (2 ^ (kd i).w-1-dj) (piece xs j1)=candE I q i D xs j from by unfold candE;rw[HDJ.out,HJ1.out]];obtain⟨E,hE⟩:∃ E,candE I q i D xs j=E:=⟨_,rfl⟩;rw[hE] at E1 ⊢;have HE:=hid hE;clear hE;refine hK.out _ _ r4 (λ_=>?_);clear hK K;refine rdw9 12 λK hK=>?_
 have HZE:=hid (show(u8s z32).length=(u8s E).length by rw[u8s_length,u8s_length,E1.out.1];rfl);refine wstore_part 23 (.tmp 6) (.tmp 18) w.heap.size 0 23 [] (u8s z32) [] (u8s E) rfl (by rw[List.nil_append,List.append_nil];exact Z4.out) rfl HZE.out (size32 _ E1.out.1) (u8s_one _) rfl rfl ?_;intro w5 a1 a2 a3;have Z5:=hid (show Blk w5 w.heap.size 23 (u8s E) by have:=a1.out;rwa [List.nil_append,List.append_nil] at this);have B5:=hid (B4.out.trans (a2.out.below (B':=w.heap.size) (Nat.le_refl _) B4.out.size));have r5:w5.cell? ⟨c1,0,none⟩=some (.func (.func 143) #[] #[.pointer (some ⟨gB,0,none⟩)])∧w5.cell? ⟨c2,j,none⟩=some (.int .i64 (dj:Int))∧w5.rangeAt c3 0 (kv (kd i))∧w5.cell? ⟨c4,0,none⟩=some (.slice P m c):=
  ⟨(a2.out.cell (p:=⟨c1,0,none⟩) H4.out.lt n1.symm).trans r4.1,(a2.out.cell (p:=⟨c2,j,none⟩) H4.out.dig.lt n2.symm).trans r4.2.1,rg_but r4.2.2.1 a2.out H4.out.kind.lt n3.symm,(a2.out.cell (p:=⟨c4,0,none⟩) H4.out.sig.lt n4.symm).trans r4.2.2.2⟩
 clear a1 a2 a3 Z4 B4 H4 r4;refine hK.out _ _ r5 (λ_=>?_);clear hK K;refine wpAnyH_done (by kernel_rfl) ?_ _;go_simp;go_wp2_with fail
 exact ret_blk (p:=6) (ty:=23) rfl rfl w.heap.size 23 _ _ rfl Z5.out Tryz.underlying23 rfl (size32 _ E1.out.1) ⟨by rw[HE.out],B5.out⟩
structure ACap (w0 w:World) (gs gr gk gl:Nat) (I:List Nat) (q i:Nat) (P:Option Addr) (m c:Nat):Prop where
 sig:Blk w gs 25 [.slice P m c]
 res:Blk w gr 23 (u8s z32)
 kind:Blk w gk 156 (kv (kd i))
 leaf:Blk w gl 160 (lf I q)
 bel:Below w0.heap.size w0 w
theorem ACap.below {w0 w w':World} {gs gr gk gl:Nat} {I:List Nat} {q i:Nat} {P:Option Addr} {m c:Nat} (h:ACap w0 w gs gr gk gl I q i P m c) (hb:Below w.heap.size w w'):ACap w0 w' gs gr gk gl I q i P m c:=
 ⟨h.sig.below hb h.sig.lt,h.res.below hb h.res.lt,h.kind.below hb h.kind.lt,h.leaf.below hb h.leaf.lt,h.bel.trans (hb.mono h.bel.size)⟩
def candN (I:List Nat) (q i:Nat) (msg xs:List Nat):List Nat:=pubOf I q (catN (candE I q i (digL i (msgN I q (piece xs 0) msg)) xs) (kd i).p)
set_option maxHeartbeats 2000000 in
theorem cand_sig (I xs:List Nat) (q i:Nat) (n:Int) (A P:Option Addr) (ma ca m c:Nat) (w:World) (hn:n=((kd i).w:Int)) (hI:I.length=16) (hq:q<32) (hi:i<4) (hx:xs.length=m) (hp:Sr w P xs) (hxb:Bytes xs) (hc:m≤c) (hml:m≤9223372036854775807) (hno:m≠36+32 * (kd i).p∨val (xs.take 4)≠(kd i).code) (hki:KI w):
  Calls Tryz.prog 81 #[.agg (u8s I).toArray,.int .i64 (q:Int),.int .i64 n,.slice A ma ca,.slice P m c] w λe w'=>e= .returned (.tuple #[.agg (u8s z32).toArray,.int .i64 3])∧Below w.heap.size w w':=by
 have FITS:=hid (show ∀ V,Below w.heap.size w V→Calls Tryz.prog 114 #[.agg (kv (kd i)).toArray,.slice P m c] V λe w'=>e= .returned (.bool false)∧Below V.heap.size V w' from λV hV=>by
  by_cases hm:m=36+32 * (kd i).p
  ·refine(fits_t xs P i m c V hi hx (hp.below hV) hxb hc hm).mono ?_
   rintro e w' ⟨rfl,b⟩
   rcases hno with h |h
   ·exact absurd hm h
   ·exact⟨by simp[h],b⟩
  ·exact fits_len P i m c V hi hm hml)
 clear hx hp hxb hc hml hno;have HI:=hid hI;have B0:=hid ((((Below.refl w.heap.size w).alloc (Nat.le_refl _) (.cells (u8s I).toArray 44)).alloc (by simp) (.cells #[.slice P m c] 25)).alloc (by simp;omega) (.cells (u8s z32).toArray 23));have K0:=hid (hki.kept B0.out);have I0:=hid (((Blk.new w 44 (u8s I)).alloc (.cells #[.slice P m c] 25)).alloc (.cells (u8s z32).toArray 23));have G0:=hid ((Blk.new2 w (.cells (u8s I).toArray 44) 25 [.slice P m c]).alloc (.cells (u8s z32).toArray 23));have Z0:=hid (blk_at (w:=(w.alloc (.cells (u8s I).toArray 44)).alloc (.cells #[.slice P m c] 25)) (g:=w.heap.size+1+1) (by simp) (.cells (u8s z32).toArray 23) 23 (u8s z32));have HN:=hid hn;clear hI hki hn
 go_enter Tryz.func81,Tryz.ntmps81
 go_wp2_with fail
 refine find_t n _ K0.out _ (λi' w1 hi' hn b1=>?_) (λ_ hn _=>absurd HN.out (hn i hi));obtain rfl:=kd_inj hi hi' (by have:=HN.out;omega);have B1:=hid (B0.out.trans (b1.mono B0.out.size));have I1:=hid (I0.out.below b1 I0.out.lt);have G1:=hid (G0.out.below b1 G0.out.lt);have Z1:=hid (Z0.out.below b1 Z0.out.lt);have R1:=hid (Blk.new w1 156 kz);have g1l:=Z1.out.lt;clear hn b1 hi' B0 K0 I0 G0 Z0
 go_upto_region 4 with(first
  |((with_reducible refine store_blk 156 (.tmp 12) (.tmp 20) w1.heap.size 156 kz (kv (kd i)) rfl rfl ?_ ?_ ?_ ?_ ?_ ?_ ?_);exact R1.out;exact rfl;exact kv_size _;exact kv_one _;exact rfl;exact rfl)
  |(go_at_call 113;refine(isLeaf_yes q _ hq).mono ?_;rintro e w2 ⟨rfl,rfl⟩))
 refine world_is (λW=>Blk W w.heap.size 44 (u8s I)∧Blk W (w.heap.size+1) 25 [.slice P m c]∧Blk W (w.heap.size+1+1) 23 (u8s z32)∧Blk W w1.heap.size 156 (kv (kd i))∧Below w.heap.size w W)
  ⟨(I1.out.alloc _).setRow_far (by omega) _,(G1.out.alloc _).setRow_far (by omega) _,(Z1.out.alloc _).setRow_far (by omega) _,R1.out.setRow _,below_setRow (B1.out.alloc B1.out.size _) B1.out.size _⟩ ?_
 rintro W ⟨i0,s0,z0',k0,bw⟩
 have I2:=hid i0;have G2:=hid s0;have Z2:=hid z0';have K2:=hid k0;have BW:=hid bw;obtain⟨gk,hgk⟩:∃ g,w1.heap.size=g:=⟨_,rfl⟩;rw[hgk] at K2 g1l ⊢;have gW:gk<W.heap.size:=K2.out.lt;have cs:W.cell? ⟨w.heap.size+1,0,none⟩=some (.slice P m c):=G2.out.cell 0;clear i0 s0 z0' k0 bw R1 I1 G1 Z1 B1 hgk
 go_wp2_with ((with_reducible refine load_blk 156 (.tmp 12) gk 156 (kv (kd i)) _ rfl rfl ?_ Tryz.underlying156 ?_ ?_ ?_ ?_);exact K2.out;exact rfl;exact kv_size _;exact rfl)
 clear cs;refine(FITS.out _ BW.out).mono ?_
 rintro e w3 ⟨rfl,b3⟩
 have Z3:=hid (Z2.out.below b3 Z2.out.lt);have B3:=hid (BW.out.trans (b3.mono BW.out.size));clear b3 I2 G2 Z2 K2 BW
 go_wp2_with ((with_reducible refine store_blk 23 (.tmp 10) (.tmp 34) (w.heap.size+1+1) 23 (u8s z32) (u8s z32) rfl rfl ?_ ?_ ?_ ?_ ?_ ?_ ?_);exact Z3.out;exact rfl;exact z32_size;exact u8s_one _;exact rfl;exact rfl)
 refine ret_blk2 (p:=10) (u:=11) (ty:=23) rfl rfl (w.heap.size+1+1) 23 (u8s z32) _ rfl (Z3.out.setRow _) Tryz.underlying23 rfl z32_size (.int .i64 3) rfl ?_;exact⟨rfl,below_setRow B3.out (by omega) _⟩
set_option maxHeartbeats 4000000 in
theorem cand_t (I xs ys:List Nat) (q i:Nat) (n:Int) (A P:Option Addr) (ma ca m c:Nat) (w:World) (hn:n=((kd i).w:Int)) (hI:I.length=16) (hIb:Bytes I) (hq:q<32) (hi:i<4) (hy:ys.length=ma) (ha:Sr w A ys) (hyb:Bytes ys) (hca:ma≤ca) (hma:ma≤70368744177664) (hx:xs.length=m) (hp:Sr w P xs) (hxb:Bytes xs) (hc:m≤c) (hm:m=36+32 * (kd i).p) (hcode:val (xs.take 4)=(kd i).code) (hk:KAt w) (hki:KI w):
  Calls Tryz.prog 81 #[.agg (u8s I).toArray,.int .i64 (q:Int),.int .i64 n,.slice A ma ca,.slice P m c] w λe w'=>e= .returned (.tuple #[.agg (u8s (candN I q i ys xs)).toArray,.int .i64 0])∧Below w.heap.size w w':=by
 have HIB:=hid hIb;have HY:=hid hy;have HA:=hid ha;have HYB:=hid hyb;have HCA:=hid hca;have HX:=hid hx;have HP:=hid hp;have HXB:=hid hxb;have HC:=hid hc;have HM:=hid hm;have HCO:=hid hcode;have HK:=hid hk;have HG:=hid hk.lt;have hp265:=kd_p i hi;have m36:36≤m:=by omega
 have PC0:=hid (show(piece xs 0).length=32∧Bytes (piece xs 0) from⟨piece_length xs 0 (by omega),piece_bytes xs 0 hxb⟩);have hz:=(zero_of_info zero265).1;obtain⟨Z,hZ⟩:∃ Z,List.replicate 265 0=Z:=⟨_,rfl⟩;rw[hZ] at hz;have HZ:=hid hZ;clear hIb hy ha hyb hca hx hp hxb hc hm hcode hk hZ;have HI:=hid hI;have B0:=hid ((((Below.refl w.heap.size w).alloc (Nat.le_refl _) (.cells (u8s I).toArray 44)).alloc (by simp) (.cells #[.slice P m c] 25)).alloc (by simp;omega) (.cells (u8s z32).toArray 23));have K0:=hid (hki.kept B0.out);have I0:=hid (((Blk.new w 44 (u8s I)).alloc (.cells #[.slice P m c] 25)).alloc (.cells (u8s z32).toArray 23));have G0:=hid ((Blk.new2 w (.cells (u8s I).toArray 44) 25 [.slice P m c]).alloc (.cells (u8s z32).toArray 23));have Z0:=hid (blk_at (w:=(w.alloc (.cells (u8s I).toArray 44)).alloc (.cells #[.slice P m c] 25)) (g:=w.heap.size+1+1) (by simp) (.cells (u8s z32).toArray 23) 23 (u8s z32));have HN:=hid hn;clear hI hki hn
 go_enter Tryz.func81,Tryz.ntmps81
 go_wp2_with fail
 refine find_t n _ K0.out _ (λi' w1 hi' hn b1=>?_) (λ_ hn _=>absurd HN.out (hn i hi));obtain rfl:=kd_inj hi hi' (by have:=HN.out;omega);have B1:=hid (B0.out.trans (b1.mono B0.out.size));have I1:=hid (I0.out.below b1 I0.out.lt);have G1:=hid (G0.out.below b1 G0.out.lt);have Z1:=hid (Z0.out.below b1 Z0.out.lt);have R1:=hid (Blk.new w1 156 kz);have g1l:=Z1.out.lt;clear hn b1 hi' B0 K0 I0 G0 Z0
 go_upto_region 4 with(first
  |((with_reducible refine store_blk 156 (.tmp 12) (.tmp 20) w1.heap.size 156 kz (kv (kd i)) rfl rfl ?_ ?_ ?_ ?_ ?_ ?_ ?_);exact R1.out;exact rfl;exact kv_size _;exact kv_one _;exact rfl;exact rfl)
  |(go_at_call 113;refine(isLeaf_yes q _ hq).mono ?_;rintro e w2 ⟨rfl,rfl⟩))
 refine world_is (λW=>Blk W w.heap.size 44 (u8s I)∧Blk W (w.heap.size+1) 25 [.slice P m c]∧Blk W (w.heap.size+1+1) 23 (u8s z32)∧Blk W w1.heap.size 156 (kv (kd i))∧Below w.heap.size w W)
  ⟨(I1.out.alloc _).setRow_far (by omega) _,(G1.out.alloc _).setRow_far (by omega) _,(Z1.out.alloc _).setRow_far (by omega) _,R1.out.setRow _,below_setRow (B1.out.alloc B1.out.size _) B1.out.size _⟩ ?_
 rintro W ⟨i0,s0,z0',k0,bw⟩
 have I2:=hid i0;have G2:=hid s0;have Z2:=hid z0';have K2:=hid k0;have BW:=hid bw;obtain⟨gk,hgk⟩:∃ g,w1.heap.size=g:=⟨_,rfl⟩;rw[hgk] at K2 g1l ⊢;have gW:gk<W.heap.size:=K2.out.lt;have cs:W.cell? ⟨w.heap.size+1,0,none⟩=some (.slice P m c):=G2.out.cell 0;clear i0 s0 z0' k0 bw R1 I1 G1 Z1 B1 hgk
 go_wp2_with ((with_reducible refine load_blk 156 (.tmp 12) gk 156 (kv (kd i)) _ rfl rfl ?_ Tryz.underlying156 ?_ ?_ ?_ ?_);exact K2.out;exact rfl;exact kv_size _;exact rfl)
 clear cs;refine(fits_t xs P i m c W hi HX.out (HP.out.below BW.out) HXB.out HC.out HM.out).mono ?_
 rintro e w3 ⟨rfl,b3⟩
 rw[show decide (val (xs.take 4)=(kd i).code)=true from decide_eq_true HCO.out];have I3:=hid (I2.out.below b3 I2.out.lt);have G3:=hid (G2.out.below b3 G2.out.lt);have Z3:=hid (Z2.out.below b3 Z2.out.lt);have K3:=hid (K2.out.below b3 K2.out.lt);have B3:=hid (BW.out.trans (b3.mono BW.out.size));have l3:gk<w3.heap.size:=K3.out.lt;clear b3 I2 G2 Z2 K2 BW gW
 go_upto_region 7 with(first
  |((with_reducible refine load_blk 44 (.tmp 5) w.heap.size 44 (u8s I) _ rfl rfl ?_ Tryz.underlying44 ?_ ?_ ?_ ?_);exact I3.out;exact rfl;exact size16 _ HI.out;exact rfl)
  |((with_reducible refine build_two rfl 160 (.tmp 35) (.tmp 36) rfl (lf I q) (.agg (u8s I).toArray) (.int .i64 (q:Int)) ?_ ?_ ?_ ?_);exact rfl;exact rfl;exact built_leaf I q HI.out)
  |((with_reducible refine store_blk 160 (.tmp 14) (.tmp 37) w3.heap.size 160 (lf (List.replicate 16 0) 0) (lf I q) rfl rfl ?_ ?_ ?_ ?_ ?_ ?_ ?_);exact Blk.new w3 _ _;exact(by rw[lf_length _ _ HI.out];rfl);exact lf_size _ _ HI.out;exact lf_one _ _;exact rfl;exact rfl))
 refine world_is (λV=>ACap w V (w.heap.size+1) (w.heap.size+1+1) gk w3.heap.size I q i P m c)
  ⟨(G3.out.alloc _).setRow_far (by omega) _,(Z3.out.alloc _).setRow_far (by omega) _,(K3.out.alloc _).setRow_far (by omega) _,(Blk.new w3 160 (lf (List.replicate 16 0) 0)).setRow _,below_setRow (B3.out.alloc B3.out.size _) B3.out.size _⟩ ?_
 rintro W4 sc
 have SC:=hid sc;obtain⟨gl,hgl⟩:∃ g,w3.heap.size=g:=⟨_,rfl⟩;rw[hgl] at SC l3 ⊢;clear sc hgl I3 G3 Z3 K3 B3;have HQ1:=hid (show(msgN I q (piece xs 0) ys).length=32∧Bytes (msgN I q (piece xs 0) ys) from⟨rfl,sum_bytes _ (app_bytes (app_bytes (headN_bytes _ _ _ HIB.out) PC0.out.2) HYB.out)⟩);obtain⟨Q,hQ⟩:∃ Q,msgN I q (piece xs 0) ys=Q:=⟨_,rfl⟩;rw[hQ] at HQ1;have HQQ:=hid hQ;have HD1:=hid (digL_length i hi Q);have HD2:=hid (show ∀ j,j< (kd i).p→gt (digL i Q) j≤2 ^ (kd i).w-1 from λj hj=>by rw[digL_get i j hj];exact digN_le i j Q);obtain⟨D,hD⟩:∃ D,digL i Q=D:=⟨_,rfl⟩;rw[hD] at HD1 HD2;have HDD:=hid hD;have HZD:=hid (show(ints Z).length=(ints D).length by rw[ints_length,ints_length,HD1.out,←HZ.out,List.length_replicate]);clear hQ hD;have rs:∀ X,ACap w X (w.heap.size+1) (w.heap.size+1+1) gk gl I q i P m c→(X.rangeAt gk 0 (kv (kd i))∧X.rangeAt gl 0 (lf I q)∧X.cell? ⟨w.heap.size+1,0,none⟩=some (.slice P m c)):=λX h=>⟨range_of_blk h.kind,range_of_blk h.leaf,h.sig.cell 0⟩
 have RS:=hid rs;clear rs
 dsimp only[Act.put]
 go_cut [15] (λs15 wx=>∃ g:Nat,s15= .pointer (some ⟨g,0,none⟩)∧Blk wx g 161 (ints D)∧ACap w wx (w.heap.size+1) (w.heap.size+1+1) gk gl I q i P m c)
 case first=>
  have SC0:=hid (SC.out.below (show Below W4.heap.size W4 W4.drew from(Below.refl _ _).drew));have r1:=RS.out _ SC0.out;refine wp_region_held (S:=λX=>X.rangeAt gk 0 (kv (kd i))∧X.rangeAt gl 0 (lf I q)∧X.cell? ⟨w.heap.size+1,0,none⟩=some (.slice P m c)) (by kernel_rfl) ?_;change wpAnyH _ _ _ _ _ _ _ _ W4.drew;refine tkg9 0 (v:= .agg (kv (kd i)).toArray) (yieldsIf_load_mid (by kernel_rfl) 156 (.tmp 12) rfl gk 0 (by go_simp) (kv (kd i)) _ (λ_ h=>h.1) Tryz.underlying156 rfl (kv_size _)) r1 ?_;refine tkg9 1 (v:= .agg (lf I q).toArray) (yieldsIf_load_mid (by kernel_rfl) 160 (.tmp 14) rfl gl 0 (by go_simp) (lf I q) _ (λ_ h=>h.2.1) Tryz.underlying160 rfl (lf_size _ _ HI.out)) r1 ?_;refine tk9 2 ?_ ?_ r1 ?_;rotate_left 1
  ·(intro w hS;have hs:=hS.2.2;clear hS;go_simp;try (with_reducible rfl))
  refine tka9 4 r1 ?_;clear r1;refine wpAnyH_ready (rs:=[3,7]) (by kernel_rfl) (by simp) ?_;refine AllReadyH.cons rfl (λK hK=>?_) (AllReadyH.cons rfl (λK hK=>?_) AllReadyH.nil)
  ·skip
   go_simp;refine(hashAt_t xs P m c 0 W4.drew HX.out (HP.out.below SC0.out.bel) HC.out (by decide) (by omega)).mono ?_
   rintro e wa ⟨rfl,b⟩
   have SCa:=hid (SC0.out.below b);have r:=RS.out _ SCa.out
   skip
   clear b;refine hK.out _ _ r (λ_=>?_);clear hK K;refine wpAnyH_ready (rs:=[5,7]) (by kernel_rfl) (by simp) ?_;refine AllReadyH.cons rfl (λK hK=>?_) (AllReadyH.cons rfl (λK hK=>?_) AllReadyH.nil)
   ·skip
    go_simp;refine(message_t I (piece xs 0) ys q A ma ca wa HI.out HIB.out PC0.out.1 PC0.out.2 hq HY.out (HA.out.below SCa.out.bel) HYB.out HCA.out hma (HK.out.below SCa.out.bel HG.out)).mono ?_
    rintro e wb ⟨rfl,b⟩
    rw[HQQ.out];have SCb:=hid (SCa.out.below b);have r:=RS.out _ SCb.out
    skip
    clear b;refine hK.out _ _ r (λ_=>?_);clear hK K;refine wpAnyH_ready (rs:=[6,7]) (by kernel_rfl) (by simp) ?_;refine AllReadyH.cons rfl (λK hK=>?_) (AllReadyH.cons rfl (λK hK=>?_) AllReadyH.nil)
    ·skip
     go_simp;refine(digits_t i hi Q wb HQ1.out.1 HQ1.out.2).mono ?_
     rintro e wc ⟨rfl,b⟩
     rw[show dv (digN (kd i).w (kd i).ls Q) (kd i).p 265=digL i Q from rfl,HDD.out];have SCc:=hid (SCb.out.below b);have r:=RS.out _ SCc.out
     skip
     clear b;refine hK.out _ _ r (λ_=>?_);clear hK K;refine rd9 7 λK hK=>?_
     go_simp;have b:=(Below.refl (wc).heap.size wc).alloc (Nat.le_refl _) (.cells (ints Z).toArray 161);have SCd:=hid (SCc.out.below b);have D0:=hid (Blk.new wc 161 (ints Z));have n1:=SCc.out.sig.lt;have n2:=SCc.out.res.lt;have n3:=SCc.out.kind.lt;have n4:=SCc.out.leaf.lt;have n5:=SCc.out.bel.size;have r:=RS.out _ SCd.out;clear b;refine hK.out _ _ r (λ_=>?_);clear hK K;refine rdw9 8 λK hK=>?_
     refine wstore_part 161 (.tmp 15) (.tmp 44) wc.heap.size 0 161 [] (ints Z) [] (ints D) rfl (by rw[List.nil_append,List.append_nil];exact D0.out) rfl HZD.out (size265 _ HD1.out) (ints_one _) rfl rfl ?_;intro wz a1 a2 a3;have DZ0:=hid (show Blk wz wc.heap.size 161 (ints D) by have:=a1.out;rwa [List.nil_append,List.append_nil] at this);have CZ:=hid (show ACap w wz (w.heap.size+1) (w.heap.size+1+1) gk gl I q i P m c from⟨SCd.out.sig.but a2.out SCd.out.sig.lt (by omega),SCd.out.res.but a2.out SCd.out.res.lt (by omega),SCd.out.kind.but a2.out SCd.out.kind.lt (by omega),SCd.out.leaf.but a2.out SCd.out.leaf.lt (by omega),SCd.out.bel.trans (a2.out.below (by omega) SCd.out.bel.size)⟩);refine hK.out _ _ (RS.out _ CZ.out) (λ_=>?_);clear hK K;refine wpAnyH_done (by kernel_rfl) ?_ _;go_simp;go_wp2_with fail
     go_meet
     exact⟨wc.heap.size,rfl,DZ0.out,CZ.out⟩
    ·skip
     go_simp;have b:=(Below.refl (wb).heap.size wb).alloc (Nat.le_refl _) (.cells (ints Z).toArray 161);have SCc:=hid (SCb.out.below b);have D0:=hid (Blk.new wb 161 (ints Z));have n1:=SCb.out.sig.lt;have n2:=SCb.out.res.lt;have n3:=SCb.out.kind.lt;have n4:=SCb.out.leaf.lt;have n5:=SCb.out.bel.size;have r:=RS.out _ SCc.out;clear b;refine hK.out _ _ r (λ_=>?_);clear hK K;refine rd9 6 λK hK=>?_
     go_simp;refine(digits_t i hi Q _ HQ1.out.1 HQ1.out.2).mono ?_
     rintro e wd ⟨rfl,b⟩
     rw[show dv (digN (kd i).w (kd i).ls Q) (kd i).p 265=digL i Q from rfl,HDD.out];have SCd:=hid (SCc.out.below b);have r:=RS.out _ SCd.out;have D0:=hid (D0.out.below b D0.out.lt);clear b;refine hK.out _ _ r (λ_=>?_);clear hK K;refine rdw9 8 λK hK=>?_
     refine wstore_part 161 (.tmp 15) (.tmp 44) wb.heap.size 0 161 [] (ints Z) [] (ints D) rfl (by rw[List.nil_append,List.append_nil];exact D0.out) rfl HZD.out (size265 _ HD1.out) (ints_one _) rfl rfl ?_;intro wz a1 a2 a3;have DZ0:=hid (show Blk wz wb.heap.size 161 (ints D) by have:=a1.out;rwa [List.nil_append,List.append_nil] at this);have CZ:=hid (show ACap w wz (w.heap.size+1) (w.heap.size+1+1) gk gl I q i P m c from⟨SCd.out.sig.but a2.out SCd.out.sig.lt (by omega),SCd.out.res.but a2.out SCd.out.res.lt (by omega),SCd.out.kind.but a2.out SCd.out.kind.lt (by omega),SCd.out.leaf.but a2.out SCd.out.leaf.lt (by omega),SCd.out.bel.trans (a2.out.below (by omega) SCd.out.bel.size)⟩);refine hK.out _ _ (RS.out _ CZ.out) (λ_=>?_);clear hK K;refine wpAnyH_done (by kernel_rfl) ?_ _;go_simp;go_wp2_with fail
     go_meet
     exact⟨wb.heap.size,rfl,DZ0.out,CZ.out⟩
   ·skip
    go_simp;have b:=(Below.refl (wa).heap.size wa).alloc (Nat.le_refl _) (.cells (ints Z).toArray 161);have SCb:=hid (SCa.out.below b);have D0:=hid (Blk.new wa 161 (ints Z));have n1:=SCa.out.sig.lt;have n2:=SCa.out.res.lt;have n3:=SCa.out.kind.lt;have n4:=SCa.out.leaf.lt;have n5:=SCa.out.bel.size;have r:=RS.out _ SCb.out;clear b;refine hK.out _ _ r (λ_=>?_);clear hK K;refine rd9 5 λK hK=>?_
    go_simp;refine(message_t I (piece xs 0) ys q A ma ca _ HI.out HIB.out PC0.out.1 PC0.out.2 hq HY.out (HA.out.below SCb.out.bel) HYB.out HCA.out hma (HK.out.below SCb.out.bel HG.out)).mono ?_
    rintro e wc ⟨rfl,b⟩
    rw[HQQ.out];have SCc:=hid (SCb.out.below b);have r:=RS.out _ SCc.out;have D0:=hid (D0.out.below b D0.out.lt);clear b;refine hK.out _ _ r (λ_=>?_);clear hK K;refine rd9 6 λK hK=>?_
    go_simp;refine(digits_t i hi Q wc HQ1.out.1 HQ1.out.2).mono ?_
    rintro e wd ⟨rfl,b⟩
    rw[show dv (digN (kd i).w (kd i).ls Q) (kd i).p 265=digL i Q from rfl,HDD.out];have SCd:=hid (SCc.out.below b);have r:=RS.out _ SCd.out;have D0:=hid (D0.out.below b D0.out.lt);clear b;refine hK.out _ _ r (λ_=>?_);clear hK K;refine rdw9 8 λK hK=>?_
    refine wstore_part 161 (.tmp 15) (.tmp 44) wa.heap.size 0 161 [] (ints Z) [] (ints D) rfl (by rw[List.nil_append,List.append_nil];exact D0.out) rfl HZD.out (size265 _ HD1.out) (ints_one _) rfl rfl ?_;intro wz a1 a2 a3;have DZ0:=hid (show Blk wz wa.heap.size 161 (ints D) by have:=a1.out;rwa [List.nil_append,List.append_nil] at this);have CZ:=hid (show ACap w wz (w.heap.size+1) (w.heap.size+1+1) gk gl I q i P m c from⟨SCd.out.sig.but a2.out SCd.out.sig.lt (by omega),SCd.out.res.but a2.out SCd.out.res.lt (by omega),SCd.out.kind.but a2.out SCd.out.kind.lt (by omega),SCd.out.leaf.but a2.out SCd.out.leaf.lt (by omega),SCd.out.bel.trans (a2.out.below (by omega) SCd.out.bel.size)⟩);refine hK.out _ _ (RS.out _ CZ.out) (λ_=>?_);clear hK K;refine wpAnyH_done (by kernel_rfl) ?_ _;go_simp;go_wp2_with fail
    go_meet
    exact⟨wa.heap.size,rfl,DZ0.out,CZ.out⟩
  ·skip
   go_simp;have b:=(Below.refl (W4.drew).heap.size W4.drew).alloc (Nat.le_refl _) (.cells (ints Z).toArray 161);have SCa:=hid (SC0.out.below b);have D0:=hid (Blk.new W4.drew 161 (ints Z));have n1:=SC0.out.sig.lt;have n2:=SC0.out.res.lt;have n3:=SC0.out.kind.lt;have n4:=SC0.out.leaf.lt;have n5:=SC0.out.bel.size;have r:=RS.out _ SCa.out;clear b;refine hK.out _ _ r (λ_=>?_);clear hK K;refine rd9 3 λK hK=>?_
   go_simp;refine(hashAt_t xs P m c 0 _ HX.out (HP.out.below SCa.out.bel) HC.out (by decide) (by omega)).mono ?_
   rintro e wb ⟨rfl,b⟩
   have SCb:=hid (SCa.out.below b);have r:=RS.out _ SCb.out;have D0:=hid (D0.out.below b D0.out.lt);clear b;refine hK.out _ _ r (λ_=>?_);clear hK K;refine rd9 5 λK hK=>?_
   go_simp;refine(message_t I (piece xs 0) ys q A ma ca wb HI.out HIB.out PC0.out.1 PC0.out.2 hq HY.out (HA.out.below SCb.out.bel) HYB.out HCA.out hma (HK.out.below SCb.out.bel HG.out)).mono ?_
   rintro e wc ⟨rfl,b⟩
   rw[HQQ.out];have SCc:=hid (SCb.out.below b);have r:=RS.out _ SCc.out;have D0:=hid (D0.out.below b D0.out.lt);clear b;refine hK.out _ _ r (λ_=>?_);clear hK K;refine rd9 6 λK hK=>?_
   go_simp;refine(digits_t i hi Q wc HQ1.out.1 HQ1.out.2).mono ?_
   rintro e wd ⟨rfl,b⟩
   rw[show dv (digN (kd i).w (kd i).ls Q) (kd i).p 265=digL i Q from rfl,HDD.out];have SCd:=hid (SCc.out.below b);have r:=RS.out _ SCd.out;have D0:=hid (D0.out.below b D0.out.lt);clear b;refine hK.out _ _ r (λ_=>?_);clear hK K;refine rdw9 8 λK hK=>?_
   refine wstore_part 161 (.tmp 15) (.tmp 44) W4.drew.heap.size 0 161 [] (ints Z) [] (ints D) rfl (by rw[List.nil_append,List.append_nil];exact D0.out) rfl HZD.out (size265 _ HD1.out) (ints_one _) rfl rfl ?_;intro wz a1 a2 a3;have DZ0:=hid (show Blk wz W4.drew.heap.size 161 (ints D) by have:=a1.out;rwa [List.nil_append,List.append_nil] at this);have CZ:=hid (show ACap w wz (w.heap.size+1) (w.heap.size+1+1) gk gl I q i P m c from⟨SCd.out.sig.but a2.out SCd.out.sig.lt (by omega),SCd.out.res.but a2.out SCd.out.res.lt (by omega),SCd.out.kind.but a2.out SCd.out.kind.lt (by omega),SCd.out.leaf.but a2.out SCd.out.leaf.lt (by omega),SCd.out.bel.trans (a2.out.below (by omega) SCd.out.bel.size)⟩);refine hK.out _ _ (RS.out _ CZ.out) (λ_=>?_);clear hK K;refine wpAnyH_done (by kernel_rfl) ?_ _;go_simp;go_wp2_with fail
   go_meet
   exact⟨W4.drew.heap.size,rfl,DZ0.out,CZ.out⟩
 case rest=>
  obtain⟨gd,rfl,hd,sc⟩:=hcut;have SC1:=hid sc;have D1:=hid hd;clear hd sc SC HQ1
  go_wp2_with ((with_reducible refine load_blk 160 (.tmp 14) gl 160 (lf I q) _ rfl rfl ?_ Tryz.underlying160 ?_ ?_ ?_ ?_);exact SC1.out.leaf;exact rfl;exact lf_size _ _ HI.out;exact rfl)
  refine(walker_t I q _ HI.out hq).mono ?_
  rintro e w5 ⟨gB,rfl,bg,hgB,b5⟩
  have SC2:=hid (SC1.out.below b5);have D2:=hid (D1.out.below b5 D1.out.lt);have GB2:=hid bg;clear bg b5 SC1 D1 hgB;have hmf:∀ (fn:Fn) (first cap:Array Value) (w:World),(Instr.makeFunc fn first cap).run Tryz.prog w= .ok (.func fn first cap) w:=λ_ _ _ _=>rfl
  go_upto_region 9 with(fail)
  have b6:=(Below.refl w5.heap.size w5).alloc (Nat.le_refl _) (.cells #[.func (.func 143) #[] #[.pointer (some ⟨gB,0,none⟩)]] 165);refine world_is (λV=>CCap V w5.heap.size gd gk (w.heap.size+1) gB I q i D xs P m c∧ACap w V (w.heap.size+1) (w.heap.size+1+1) gk gl I q i P m c)
   ⟨⟨(Blk.new w5 _ [.func (.func 143) #[] #[.pointer (some ⟨gB,0,none⟩)]]).cell 0,D2.out.alloc _,SC2.out.kind.alloc _,SC2.out.sig.alloc _,GB2.out.alloc _,(HP.out.below SC2.out.bel).below b6,by simp⟩,SC2.out.below b6⟩ ?_
  clear b6
  rintro V6 ⟨pc,ac⟩
  have PC:=hid pc;have AC:=hid ac;obtain⟨gf,hgf⟩:∃ g,w5.heap.size=g:=⟨_,rfl⟩;rw[hgf] at PC ⊢;clear pc ac SC2 D2 GB2 hgf
  go_wp2_with (first
   |((with_reducible refine load_blk 160 (.tmp 14) gl 160 (lf I q) _ rfl rfl ?_ Tryz.underlying160 ?_ ?_ ?_ ?_);exact AC.out.leaf;exact rfl;exact lf_size _ _ HI.out;exact rfl)
   |((with_reducible refine load_blk 156 (.tmp 12) gk 156 (kv (kd i)) _ rfl rfl ?_ Tryz.underlying156 ?_ ?_ ?_ ?_);exact AC.out.kind;exact rfl;exact kv_size _;exact rfl))
  have HKV:=hid (HK.out.below AC.out.bel HG.out);refine(public_of 120 gf gd gk (w.heap.size+1) (candE I q i D xs) I q i V6 HI.out HIB.out hq hi (λj hj=>candE_ok I q i D xs j hi HIB.out HXB.out (by have:=HX.out;have:=HM.out;omega) (HD2.out j hj)) HKV.out (enters_of Tryz.func120 (by kernel_rfl) rfl) (λX j hX hj=>candEnd_t gf gd gk (w.heap.size+1) gB I q i j D xs P m c X (PC.out.below hX) HI.out HIB.out hi hj HX.out HXB.out HC.out HM.out HD1.out (HD2.out j hj) (HKV.out.below hX HKV.out.lt))).mono ?_
  rintro e w7 ⟨rfl,b7⟩
  have AC7:=hid (AC.out.below b7);clear b7 PC AC HKV;obtain⟨E,hE⟩:∃ E,pubOf I q (catN (candE I q i D xs) (kd i).p)=E:=⟨_,rfl⟩;have E1:=hid (show E.length=32 by rw[←hE];rfl);rw[hE];have HE:=hid (show candN I q i ys xs=E by rw[←hE,←HDD.out,←HQQ.out];rfl);clear hE;have HZE:=hid (show(u8s z32).length=(u8s E).length by rw[u8s_length,u8s_length,E1.out];rfl)
  go_wp2_with ((with_reducible refine store_blk 23 (.tmp 10) (.tmp 50) (w.heap.size+1+1) 23 (u8s z32) (u8s E) rfl rfl ?_ ?_ ?_ ?_ ?_ ?_ ?_);exact AC7.out.res;exact HZE.out;exact size32 _ E1.out;exact u8s_one _;exact rfl;exact rfl)
  refine ret_blk2 (p:=10) (u:=11) (ty:=23) rfl rfl (w.heap.size+1+1) 23 (u8s E) _ rfl (AC7.out.res.setRow _) Tryz.underlying23 rfl (size32 _ E1.out) (.int .i64 0) rfl ?_;exact⟨by rw[HE.out],below_setRow AC7.out.bel (by omega) _⟩
theorem catN_piece (E:Nat→List Nat):∀ (k:Nat),(∀ j,j<k→(E j).length=32)→∀ j,j<k→((catN E k).drop (32 * j)).take 32=E j
 |0,_,j,hj=>absurd hj (by omega)
 |k+1,h,j,hj=>by
  have hl:=catN_length E k (λj hj=>h j (by omega));rw[catN];rcases Nat.lt_or_ge j k with hlt |hge
  ·rw[List.drop_append_of_le_length (by omega),List.take_append_of_le_length (by rw[List.length_drop];omega)];exact catN_piece E k (λj hj=>h j (by omega)) j hlt
  ·obtain rfl:j=k:=by omega
   rw[←hl,List.drop_left,List.take_of_length_le (by rw[h j (by omega)];exact Nat.le_refl _)]
theorem sig_piece0 (I seed:List Nat) (q i:Nat) (msg:List Nat):piece (sigN I seed q i msg) 0=sigC I seed q:=by
 unfold piece sigN;rw[List.append_assoc,show 4+32 * 0=(beN (kd i).code 4).length from by rw[beN_length],List.drop_left];exact List.take_left' rfl
theorem sig_piece (I seed:List Nat) (q i:Nat) (msg:List Nat) (j:Nat) (hj:j< (kd i).p):piece (sigN I seed q i msg) (1+j)=sigE I seed q i (msgN I q (sigC I seed q) msg) j:=by
 unfold piece sigN;have hl:(beN (kd i).code 4++sigC I seed q).length=36:=by rw[List.length_append,beN_length];rfl
 rw[show 4+32 * (1+j)=(beN (kd i).code 4++sigC I seed q).length+32 * j from by rw[hl];omega,←List.drop_drop,List.drop_left];exact catN_piece _ _ (λ_ _=>walkN_length _ _ _ _ _ _ rfl) j hj
theorem sig_code (I seed:List Nat) (q i:Nat) (msg:List Nat) (hi:i<4):val ((sigN I seed q i msg).take 4)=(kd i).code:=by
 unfold sigN;rw[List.append_assoc,List.take_append_of_le_length (by rw[beN_length];exact Nat.le_refl _),List.take_of_length_le (by rw[beN_length];exact Nat.le_refl _),val_beN];have:i=0∨i=1∨i=2∨i=3:=by omega
 rcases this with rfl |rfl |rfl |rfl<;>decide
theorem cand_sign (I seed:List Nat) (q i:Nat) (msg:List Nat):candN I q i msg (sigN I seed q i msg)=pubN I seed q i:=by
 unfold candN pubN;rw[sig_piece0]
 congr 1
 refine catN_congr _ λj hj=>?_
 unfold candE tipN;rw[sig_piece I seed q i msg j hj,digL_get i j hj];unfold sigE;have h:=walkN_add I q j 0 (digN (kd i).w (kd i).ls (msgN I q (sigC I seed q) msg) j) (2 ^ (kd i).w-1-digN (kd i).w (kd i).ls (msgN I q (sigC I seed q) msg) j) (secN I seed q j);rw[Nat.zero_add] at h;rw[h]
 congr 1
 have:=digN_le i j (msgN I q (sigC I seed q) msg);omega
theorem pubN_length (I seed:List Nat) (q i:Nat):(pubN I seed q i).length=32:=rfl
end Go.Proofs.YtjlophplcmidlaaGreatDoor
