/-
  THE REFERENCE OF CHAPTER 3
-/
import Derived.Test.YtjlophplcmidlaaGreatDoorAd28
import Derived.Test.YtjlophplcmidlaaGreatDoorAd29
import Derived.Test.YtjlophplcmidlaaGreatDoorAd22
import Derived.Test.YtjlophplcmidlaaGreatDoorAd31
import Derived.Test.YtjlophplcmidlaaGreatDoorAd7
import Derived.Test.YtjlophplcmidlaaGreatDoorAd1
import Derived.Deep.DeepCutAuto
import Derived.Test.YtjlophplcmidlaaGreatDoorTk
open Go.Lib (hid)
set_option maxRecDepth 100000
namespace Go.Proofs.YtjlophplcmidlaaGreatDoor
open Go Go.RowKit Sh
theorem fresh_op {w w':World} {v:Value} {l:List Nat} (h:Fresh 5 w w' v l):∃ A c,v= .slice A l.length c∧l.length≤c∧Sr w' A l∧Below w.heap.size w w':=by
 obtain⟨A,c,rfl,hc⟩:=own_form h.1;exact⟨A,c,rfl,hc,Sr.of_own h.1,h.2⟩
structure Part where
 A:Option Addr
 c:Nat
 X:List Nat
def partsV (l:List Part):List Value:=l.map λx=> .slice x.A x.X.length x.c
def catX (l:List Part):List Nat:=l.flatMap (·.X)
theorem catX_le (l:List Part) (k:Nat):(catX (l.take k)).length≤(catX l).length:=by
 conv=>rhs;rw[←List.take_append_drop k l]
 unfold catX;rw[List.flatMap_append,List.length_append];omega
theorem catX_succ (l:List Part) (k:Nat) (x:Part) (h:l[k]? =some x):catX (l.take (k+1))=catX (l.take k)++x.X:=by
 obtain⟨hk,rfl⟩:=List.getElem?_eq_some_iff.1 h;unfold catX;rw[List.take_succ_eq_append_getElem hk,List.flatMap_append,List.flatMap_cons,List.flatMap_nil,List.append_nil]
set_option maxHeartbeats 400000 in
theorem cat_t (l:List Part) (g n c:Nat) (t:TypeId) (w:World) (hn:l.length=n) (hb:Blk w g t (partsV l)) (hr:∀ x,x∈l→Sr w x.A x.X) (hl:(catX l).length≤1000000) (hn2:n≤100):
  Calls Tryz.prog 33 #[.slice (some ⟨g,0,none⟩) n c] w λe w'=>∃ v,e= .returned v∧Fresh 5 w w' v (catX l):=by
 have HB:=hid hb;have HR:=hid hr;have HL:=hid hl;have HN:=hid hn;have n1:(n:Int)≤100:=by omega
 clear hb hr hl hn
 go_enter Tryz.func33,Tryz.ntmps33
 go_wp2_with fail
 go_loopw [3,4] (λo i wr=>∃ k:Nat,k≤n∧i= .int .i64 k∧wr.ownsRow w.heap.size 5 1 o (catX (l.take k)).length (u8s (catX (l.take k)))∧Below w.heap.size w wr) (λ_ i _=>n- (intOf i).toNat)
 case atStart=>exact⟨0,by omega,rfl,by simpa [catX] using nil_own _ _,Below.refl _ _⟩
 case round=>
  obtain⟨k,hk,rfl,ho,hb⟩:=hrel
  by_cases hlt:k<n
  ·obtain⟨x,hx⟩:∃ x,l[k]? =some x:=⟨_,List.getElem?_eq_getElem (by rw[HN.out];exact hlt)⟩;have hs:=(HR.out x (List.mem_of_getElem? hx)).below hb;have h1:=catX_succ l k x hx;have h2:(catX (l.take k)).length+x.X.length≤1000000:=by
    have:=catX_le l (k+1);rw[h1,List.length_append] at this;exact Nat.le_trans this HL.out
   have c0:wr.cell? ⟨g,k,none⟩=some (.slice x.A x.X.length x.c):=by
    refine(hb.cell (p:=⟨g,k,none⟩) HB.out.lt).trans ?_;rw[HB.out.cell];simp[partsV,hx]
   obtain⟨A,cx,X⟩:=x;simp only[] at hs h1 h2 c0;obtain⟨Y,hY⟩:∃ Y,catX (l.take k)=Y:=⟨_,rfl⟩;rw[hY] at ho h1 h2;have HO:=hid ho;have HW:=hid hb;have HS:=hid hs;have H1:=hid h1;clear ho hb hs h1 hx hY
   go_wp2_with ((with_reducible refine at_op (.call { callee:= .builtin .append,args:= #[.tmp 11,.tmp 15],argTypes:= #[25,25] }) rfl ?_);refine append_bytes (.tmp 11) (.tmp 15) 25 rfl rfl 5 Tryz.underlying25 byte_info w.heap.size _ Y.length Y X rfl HO.out A X.length cx rfl rfl HS.out (by omega) HW.out.size ?_;intro v2 w2 a1 a2 a3)
   go_roundw
   case rel=>
    refine⟨k+1,by omega,by go_num,?_,HW.out.grown a2.out HW.out.size λi e=>(HO.out.lt i e).1⟩;rw[H1.out,List.length_append];exact a1.out
   case measure=>simp[intOf];omega
  ·obtain rfl:k=n:=by omega
   rw[List.take_of_length_le (by rw[HN.out];exact Nat.le_refl _)] at ho;have HO:=hid ho;have HW:=hid hb;clear ho hb;go_wp2_with fail
   go_ret;exact⟨_,rfl,HO.out,HW.out⟩
def frontN (I:List Nat) (q:Nat):List Nat:=I++beN q 4
theorem frontN_length (I:List Nat) (q:Nat) (hI:I.length=16):(frontN I q).length=20:=by simp[frontN,beN_length,hI]
set_option maxHeartbeats 400000 in
theorem front_t (I:List Nat) (q:Nat) (w:World) (hI:I.length=16) (hq:q<1000):
  Calls Tryz.prog 60 #[.agg (u8s I).toArray,.int .i64 (q:Int)] w λe w'=>∃ v,e= .returned v∧Fresh 5 w w' v (frontN I q):=by
 have HI:=hid hI;have q1:(0:Int)≤q:=by omega
 have q2:(q:Int)<1000:=by omega
 have B0:=hid (((Below.refl w.heap.size w).alloc (Nat.le_refl _) (.cells (u8s I).toArray 44)).alloc (by simp) (.cells #[] 5));have SI:=hid (Sr.of_blk (xs:=I) (rest:=[]) ((Blk.new w 44 (u8s I)).alloc (.cells #[] 5)) (by simp));clear hI
 go_enter Tryz.func60,Tryz.ntmps60
 go_wp2_with ((with_reducible refine at_op (.call { callee:= .builtin .append,args:= #[.tmp 5,.tmp 6],argTypes:= #[25,25] }) rfl ?_);go_must (refine append_bytes (.tmp 5) (.tmp 6) 25 rfl rfl 5 Tryz.underlying25 byte_info w.heap.size (.slice (some ⟨w.heap.size+1,0,none⟩) 0 0) 0 [] I rfl (own_empty _ _ _ (by simp) (by simp)) (some ⟨w.heap.size,0,none⟩) 16 16 rfl HI.out SI.out (by omega) (by simp;omega) ?_);intro v1 w1 a1 a2 a3)
 have b1:Below w.heap.size w w1:=B0.out.grown a2.out B0.out.size (λk e=>by have:=Option.some.inj e;simp at this;omega);have o1:=a1.out;rw[List.nil_append,Nat.zero_add] at o1;have B1:=hid b1;have O1:=hid o1;clear b1 o1 a1 a2 a3 B0 SI;refine(refnum_t q 4 w1 (by decide) (by decide)).mono ?_
 rintro e w2 ⟨u,rfl,f2⟩
 obtain⟨A,c,rfl,hc,sr,b2⟩:=fresh_op f2;rw[beN_length] at hc ⊢;have O2:=hid (own_below O1.out b2);have S2:=hid sr;have B2:=hid (B1.out.trans (b2.mono B1.out.size));clear f2 hc sr b2 O1 B1
 go_wp2_with ((with_reducible refine at_op (.call { callee:= .builtin .append,args:= #[.tmp 7,.tmp 10],argTypes:= #[25,25] }) rfl ?_);refine append_bytes (.tmp 7) (.tmp 10) 25 rfl rfl 5 Tryz.underlying25 byte_info w.heap.size v1 16 I (beN q 4) rfl O2.out A 4 c rfl (beN_length _ _) S2.out (by omega) B2.out.size ?_;intro v3 w3 a1 a2 a3)
 go_ret;refine⟨v3,rfl,?_,B2.out.grown a2.out B2.out.size λk e=>(O2.out.lt k e).1⟩;rw[frontN_length I q HI.out];exact a1.out
theorem refchains_t (i:Nat) (hi:i<4) (w:World):Calls Tryz.prog 57 #[.int .i64 ((kd i).w:Int)] w λe w'=>e= .returned (.int .i64 ((kd i).p:Int))∧w=w':=by
 have:i=0∨i=1∨i=2∨i=3:=by omega
 rcases this with rfl |rfl |rfl |rfl
 ·change Calls Tryz.prog 57 #[.int .i64 1] w _
  go_enter Tryz.func57,Tryz.ntmps57
  go_wp2
  go_ret;exact⟨rfl,rfl⟩
 ·change Calls Tryz.prog 57 #[.int .i64 2] w _
  go_enter Tryz.func57,Tryz.ntmps57
  go_wp2
  go_ret;exact⟨rfl,rfl⟩
 ·change Calls Tryz.prog 57 #[.int .i64 4] w _
  go_enter Tryz.func57,Tryz.ntmps57
  go_wp2
  go_ret;exact⟨rfl,rfl⟩
 ·change Calls Tryz.prog 57 #[.int .i64 8] w _
  go_enter Tryz.func57,Tryz.ntmps57
  go_wp2
  go_ret;exact⟨rfl,rfl⟩
theorem refshift_t (i:Nat) (hi:i<4) (w:World):Calls Tryz.prog 94 #[.int .i64 ((kd i).w:Int)] w λe w'=>e= .returned (.int .u64 ((kd i).ls:Int))∧w=w':=by
 have:i=0∨i=1∨i=2∨i=3:=by omega
 rcases this with rfl |rfl |rfl |rfl
 ·change Calls Tryz.prog 94 #[.int .i64 1] w _
  go_enter Tryz.func94,Tryz.ntmps94
  go_wp2
  go_ret;exact⟨rfl,rfl⟩
 ·change Calls Tryz.prog 94 #[.int .i64 2] w _
  go_enter Tryz.func94,Tryz.ntmps94
  go_wp2
  go_ret;exact⟨rfl,rfl⟩
 ·change Calls Tryz.prog 94 #[.int .i64 4] w _
  go_enter Tryz.func94,Tryz.ntmps94
  go_wp2
  go_ret;exact⟨rfl,rfl⟩
 ·change Calls Tryz.prog 94 #[.int .i64 8] w _
  go_enter Tryz.func94,Tryz.ntmps94
  go_wp2
  go_ret;exact⟨rfl,rfl⟩
theorem refcode_t (i:Nat) (hi:i<4) (w:World):Calls Tryz.prog 35 #[.int .i64 ((kd i).w:Int)] w λe w'=>e= .returned (.int .u64 ((kd i).code:Int))∧w=w':=by
 have:i=0∨i=1∨i=2∨i=3:=by omega
 rcases this with rfl |rfl |rfl |rfl
 ·change Calls Tryz.prog 35 #[.int .i64 1] w _
  go_enter Tryz.func35,Tryz.ntmps35
  go_wp2
  go_ret;exact⟨rfl,rfl⟩
 ·change Calls Tryz.prog 35 #[.int .i64 2] w _
  go_enter Tryz.func35,Tryz.ntmps35
  go_wp2
  go_ret;exact⟨rfl,rfl⟩
 ·change Calls Tryz.prog 35 #[.int .i64 4] w _
  go_enter Tryz.func35,Tryz.ntmps35
  go_wp2
  go_ret;exact⟨rfl,rfl⟩
 ·change Calls Tryz.prog 35 #[.int .i64 8] w _
  go_enter Tryz.func35,Tryz.ntmps35
  go_wp2
  go_ret;exact⟨rfl,rfl⟩
set_option maxHeartbeats 1000000 in
theorem refcoef_0 (l:List Nat) (A:Option Addr) (n m c:Nat) (w:World) (hn:l.length=n) (hA:Sr w A l) (hb:Bytes l) (hm:m<n * (8 / 1)) (hn2:n≤34):
  Calls Tryz.prog 93 #[.slice A n c,.int .i64 (m:Int),.int .i64 1] w λe w'=>e= .returned (.int .i64 (coefN 1 l m:Nat))∧w=w':=by
 obtain⟨b,o,rfl,_,hc⟩:=hA (by simp at hm;omega);have hnp:m / (8 / 1)<n:=by simp at hm ⊢;omega
 have c0:=hc (m / (8 / 1)) (by rw[hn];exact hnp);have hx:=hb (m / (8 / 1));obtain⟨j,hj⟩:∃ j,m / (8 / 1)=j:=⟨_,rfl⟩;rw[hj] at c0 hx hnp;obtain⟨x,hxx⟩:∃ x,gt l j=x:=⟨_,rfl⟩;rw[hxx] at c0 hx;obtain⟨s,hs⟩:∃ s,8-1 * (m % (8 / 1)+1)=s:=⟨_,rfl⟩;have HE:=hid (show coefN 1 l m=x / 2 ^ s % 2 ^ 1 by unfold coefN;rw[hj,hxx,hs]);have m1:(m:Int)<300:=by simp at hm;omega
 have x1:(x:Int)<256:=by omega
 have s8:(s:Int)<8:=by simp at hs;omega
 have s0:(0:Int)≤(s:Int):=by omega
 have j1:(j:Int)< (n:Int):=by omega
 have HX:=hid hx;obtain⟨y,hy⟩:∃ y,x / 2 ^ s=y:=⟨_,rfl⟩;have hy2:y<256:=by rw[←hy];exact Nat.lt_of_le_of_lt (Nat.div_le_self _ _) hx
 have y1:(y:Int)<256:=by omega
 have HY:=hid hy2;have HYE:=hid hy;have e3:(x:Int) / 2 ^ s=(y:Int):=by rw[←hy,Int.natCast_ediv,Int.natCast_pow];rfl
 clear hy hy2;have e1:(m:Int) / 8=(j:Int):=by simp at hj;omega
 have e2:(7:Int) - (m:Int) % 8=(s:Int):=by simp at hs;omega
 clear hc hn hb hm hn2 hnp hj hxx hs hx
 go_enter Tryz.func93,Tryz.ntmps93
 go_wp2
 go_ret;refine⟨?_,rfl⟩;rw[HE.out]
 show Ending.returned (.int .i64 (bits .and .i64 (y:Int) 1))=_
 have h:=and_low 1 (by decide) y HY.out;rw[show((2 ^ 1-1:Nat):Int)=1 from rfl] at h;rw[h,HYE.out]
set_option maxHeartbeats 1000000 in
theorem refcoef_1 (l:List Nat) (A:Option Addr) (n m c:Nat) (w:World) (hn:l.length=n) (hA:Sr w A l) (hb:Bytes l) (hm:m<n * (8 / 2)) (hn2:n≤34):
  Calls Tryz.prog 93 #[.slice A n c,.int .i64 (m:Int),.int .i64 2] w λe w'=>e= .returned (.int .i64 (coefN 2 l m:Nat))∧w=w':=by
 obtain⟨b,o,rfl,_,hc⟩:=hA (by simp at hm;omega);have hnp:m / (8 / 2)<n:=by simp at hm ⊢;omega
 have c0:=hc (m / (8 / 2)) (by rw[hn];exact hnp);have hx:=hb (m / (8 / 2));obtain⟨j,hj⟩:∃ j,m / (8 / 2)=j:=⟨_,rfl⟩;rw[hj] at c0 hx hnp;obtain⟨x,hxx⟩:∃ x,gt l j=x:=⟨_,rfl⟩;rw[hxx] at c0 hx;obtain⟨s,hs⟩:∃ s,8-2 * (m % (8 / 2)+1)=s:=⟨_,rfl⟩;have HE:=hid (show coefN 2 l m=x / 2 ^ s % 2 ^ 2 by unfold coefN;rw[hj,hxx,hs]);have m1:(m:Int)<300:=by simp at hm;omega
 have x1:(x:Int)<256:=by omega
 have s8:(s:Int)<8:=by simp at hs;omega
 have s0:(0:Int)≤(s:Int):=by omega
 have j1:(j:Int)< (n:Int):=by omega
 have HX:=hid hx;obtain⟨y,hy⟩:∃ y,x / 2 ^ s=y:=⟨_,rfl⟩;have hy2:y<256:=by rw[←hy];exact Nat.lt_of_le_of_lt (Nat.div_le_self _ _) hx
 have y1:(y:Int)<256:=by omega
 have HY:=hid hy2;have HYE:=hid hy;have e3:(x:Int) / 2 ^ s=(y:Int):=by rw[←hy,Int.natCast_ediv,Int.natCast_pow];rfl
 clear hy hy2;have e1:(m:Int) * 2 / 8=(j:Int):=by simp at hj;omega
 have e2:(6:Int) - (m:Int) * 2 % 8=(s:Int):=by simp at hs;omega
 clear hc hn hb hm hn2 hnp hj hxx hs hx
 go_enter Tryz.func93,Tryz.ntmps93
 go_wp2
 go_ret;refine⟨?_,rfl⟩;rw[HE.out]
 show Ending.returned (.int .i64 (bits .and .i64 (y:Int) 3))=_
 have h:=and_low 2 (by decide) y HY.out;rw[show((2 ^ 2-1:Nat):Int)=3 from rfl] at h;rw[h,HYE.out]
set_option maxHeartbeats 1000000 in
theorem refcoef_2 (l:List Nat) (A:Option Addr) (n m c:Nat) (w:World) (hn:l.length=n) (hA:Sr w A l) (hb:Bytes l) (hm:m<n * (8 / 4)) (hn2:n≤34):
  Calls Tryz.prog 93 #[.slice A n c,.int .i64 (m:Int),.int .i64 4] w λe w'=>e= .returned (.int .i64 (coefN 4 l m:Nat))∧w=w':=by
 obtain⟨b,o,rfl,_,hc⟩:=hA (by simp at hm;omega);have hnp:m / (8 / 4)<n:=by simp at hm ⊢;omega
 have c0:=hc (m / (8 / 4)) (by rw[hn];exact hnp);have hx:=hb (m / (8 / 4));obtain⟨j,hj⟩:∃ j,m / (8 / 4)=j:=⟨_,rfl⟩;rw[hj] at c0 hx hnp;obtain⟨x,hxx⟩:∃ x,gt l j=x:=⟨_,rfl⟩;rw[hxx] at c0 hx;obtain⟨s,hs⟩:∃ s,8-4 * (m % (8 / 4)+1)=s:=⟨_,rfl⟩;have HE:=hid (show coefN 4 l m=x / 2 ^ s % 2 ^ 4 by unfold coefN;rw[hj,hxx,hs]);have m1:(m:Int)<300:=by simp at hm;omega
 have x1:(x:Int)<256:=by omega
 have s8:(s:Int)<8:=by simp at hs;omega
 have s0:(0:Int)≤(s:Int):=by omega
 have j1:(j:Int)< (n:Int):=by omega
 have HX:=hid hx;obtain⟨y,hy⟩:∃ y,x / 2 ^ s=y:=⟨_,rfl⟩;have hy2:y<256:=by rw[←hy];exact Nat.lt_of_le_of_lt (Nat.div_le_self _ _) hx
 have y1:(y:Int)<256:=by omega
 have HY:=hid hy2;have HYE:=hid hy;have e3:(x:Int) / 2 ^ s=(y:Int):=by rw[←hy,Int.natCast_ediv,Int.natCast_pow];rfl
 clear hy hy2;have e1:(m:Int) * 4 / 8=(j:Int):=by simp at hj;omega
 have e2:(4:Int) - (m:Int) * 4 % 8=(s:Int):=by simp at hs;omega
 clear hc hn hb hm hn2 hnp hj hxx hs hx
 go_enter Tryz.func93,Tryz.ntmps93
 go_wp2
 go_ret;refine⟨?_,rfl⟩;rw[HE.out]
 show Ending.returned (.int .i64 (bits .and .i64 (y:Int) 15))=_
 have h:=and_low 4 (by decide) y HY.out;rw[show((2 ^ 4-1:Nat):Int)=15 from rfl] at h;rw[h,HYE.out]
set_option maxHeartbeats 1000000 in
theorem refcoef_3 (l:List Nat) (A:Option Addr) (n m c:Nat) (w:World) (hn:l.length=n) (hA:Sr w A l) (hb:Bytes l) (hm:m<n * (8 / 8)) (hn2:n≤34):
  Calls Tryz.prog 93 #[.slice A n c,.int .i64 (m:Int),.int .i64 8] w λe w'=>e= .returned (.int .i64 (coefN 8 l m:Nat))∧w=w':=by
 obtain⟨b,o,rfl,_,hc⟩:=hA (by simp at hm;omega);have hnp:m / (8 / 8)<n:=by simp at hm ⊢;omega
 have c0:=hc (m / (8 / 8)) (by rw[hn];exact hnp);have hx:=hb (m / (8 / 8));obtain⟨j,hj⟩:∃ j,m / (8 / 8)=j:=⟨_,rfl⟩;rw[hj] at c0 hx hnp;obtain⟨x,hxx⟩:∃ x,gt l j=x:=⟨_,rfl⟩;rw[hxx] at c0 hx;obtain⟨s,hs⟩:∃ s,8-8 * (m % (8 / 8)+1)=s:=⟨_,rfl⟩;have HE:=hid (show coefN 8 l m=x / 2 ^ s % 2 ^ 8 by unfold coefN;rw[hj,hxx,hs]);have m1:(m:Int)<300:=by simp at hm;omega
 have x1:(x:Int)<256:=by omega
 have s8:(s:Int)<8:=by simp at hs;omega
 have s0:(0:Int)≤(s:Int):=by omega
 have j1:(j:Int)< (n:Int):=by omega
 have HX:=hid hx;obtain rfl:j=m:=by simp at hj;omega
 obtain rfl:s=0:=by simp at hs;omega
 clear hc hn hb hm hn2 hnp hj hxx hs hx
 go_enter Tryz.func93,Tryz.ntmps93
 go_wp2
 go_ret;refine⟨?_,rfl⟩;rw[HE.out]
 show Ending.returned (.int .i64 (bits .and .i64 (x:Int) 255))=_
 have h:=and_low 8 (by decide) x HX.out;rw[show((2 ^ 8-1:Nat):Int)=255 from rfl] at h;rw[h,Nat.pow_zero,Nat.div_one]
def digK (i:Nat) (h:List Nat) (k:Nat):List Nat:=(List.range k).map (digN (kd i).w (kd i).ls h)
theorem digK_succ (i:Nat) (h:List Nat) (k:Nat):digK i h (k+1)=digK i h k++[digN (kd i).w (kd i).ls h k]:=by
 unfold digK;rw[List.range_succ,List.map_append];rfl
theorem own_types {w:World} {base base':Nat} {e e':TypeId} {size size':Nat} {v v':Value} {n n':Nat} {xs xs':List Value} (h:w.ownsRow base e size v n xs) (h':w.ownsRow base' e' size' v' n' xs') (hne:e≠e') (k:Nat) (hk:v.ownBlock=some k):v'.ownBlock≠some k:=by
 rcases h.2 with⟨rfl,_⟩ |⟨g,cap,cur,rfl,_,hh,_⟩
 ·simp[Value.ownBlock] at hk
 ·rcases h'.2 with⟨rfl,_⟩ |⟨g',cap',cur',rfl,_,hh',_⟩
  ·simp[Value.ownBlock]
  ·intro he;have e1:g=k:=by simpa [Value.ownBlock] using hk
   have e2:g'=k:=by simpa [Value.ownBlock] using he
   subst e1;subst e2;rw[hh] at hh'
   injection hh' with hh'
   injection hh' with _ ht
   exact hne ht
set_option maxHeartbeats 1000000 in
theorem refdigits_0 (h:List Nat) (w:World) (hl:h.length=32) (hb:Bytes h):
  Calls Tryz.prog 65 #[.int .i64 1,.agg (u8s h).toArray] w λe w'=>∃ v,e= .returned v∧FreshI w w' v (digs 0 h):=by
 have HL:=hid hl;have HB:=hid hb;have B0:=hid (((Below.refl w.heap.size w).alloc (Nat.le_refl _) (.cells (u8s h).toArray 23)).alloc (by simp) (.cells #[] 5));have SI:=hid (Sr.of_blk (xs:=h) (rest:=[]) ((Blk.new w 23 (u8s h)).alloc (.cells #[] 5)) (by simp));clear hl hb
 go_enter Tryz.func65,Tryz.ntmps65
 go_wp2_with ((with_reducible refine at_op (.call { callee:= .builtin .append,args:= #[.tmp 10,.tmp 11],argTypes:= #[25,25] }) rfl ?_);go_must (refine append_bytes (.tmp 10) (.tmp 11) 25 rfl rfl 5 Tryz.underlying25 byte_info w.heap.size (.slice (some ⟨w.heap.size+1,0,none⟩) 0 0) 0 [] h rfl (own_empty _ _ _ (by simp) (by simp)) (some ⟨w.heap.size,0,none⟩) 32 32 rfl HL.out SI.out (by omega) (by simp;omega) ?_);intro v1 w1 a1 a2 a3)
 have b1:Below w.heap.size w w1:=B0.out.grown a2.out B0.out.size (λk e=>by have:=Option.some.inj e;simp at this;omega);have o1:=a1.out;rw[List.nil_append,Nat.zero_add] at o1;obtain⟨A,c,rfl,hc⟩:=own_form o1;have B1:=hid b1;have O1:=hid o1;have S1:=hid (Sr.of_own o1);clear b1 o1 a1 a2 a3 B0 SI hc
 go_loopw [6,7] (λs i wr=>∃ k:Nat,k≤256∧i= .int .i64 k∧s= .int .i64 ((sumN 1 h k:Nat):Int)∧wr=w1) (λ_ i _=>256- (intOf i).toNat)
 case atStart=>exact⟨0,by omega,rfl,rfl,by first |rfl |trivial⟩
 case round=>
  obtain⟨k,hk,rfl,rfl,rfl⟩:=hrel;have hsu:=sumN_le 1 h k
  by_cases hlt:k<256
  ·have i1:(k:Int)<256:=by omega
   have hc:=coefN_lt 1 h k;have HSU:=hid (show sumN 1 h (k+1)=sumN 1 h k+(2 ^ 1-1-coefN 1 h k) from rfl);have CO:=hid (refcoef_0 h A 32 k c wr HL.out S1.out HB.out (by simp;omega) (by decide));obtain⟨d,hd⟩:∃ d,coefN 1 h k=d:=⟨_,rfl⟩;obtain⟨s,hs⟩:∃ s,sumN 1 h k=s:=⟨_,rfl⟩;rw[hd] at hc HSU CO;rw[hs] at hsu HSU ⊢;have d1:(d:Int)<2:=by simp at hc;omega
   have s1:(s:Int)≤8160:=by simp at hsu;omega
   clear hd hs hc hsu;go_wp2_with fail
   refine CO.out.mono ?_
   rintro e w2 ⟨rfl,rfl⟩
   go_wp2_with fail
   go_roundw
   case rel=>
    refine⟨k+1,by omega,by go_num,?_,by first |rfl |trivial⟩;rw[HSU.out];exact congrArg (Value.int .i64) (by omega)
   case measure=>simp[intOf];omega
  ·obtain rfl:k=256:=by omega
   rw[show((256:Nat):Int)=256 from rfl];have SH:=hid (refshift_t 0 (by decide) wr);obtain⟨s,hs⟩:∃ s,sumN 1 h 256=s:=⟨_,rfl⟩;rw[hs] at hsu ⊢;have s1:(s:Int)≤8160:=by simp at hsu;omega
   have HSS:=hid hs;have HSL:=hid hsu;have HCC:=hid (show cksN 1 7 h=s * 2 ^ 7 by unfold cksN;rw[show 256 / 1=256 from rfl,hs]);clear hs hsu hlt hk;go_wp2_with fail
   refine SH.out.mono ?_
   rintro e w2 ⟨rfl,rfl⟩
   rw[show(kd 0).ls=7 from rfl]
   go_upto_region 8 with(fail)
   obtain⟨C,hC⟩:∃ C,s * 2 ^ 7=C:=⟨_,rfl⟩;rw[show(s:Int) * 128=(C:Int) from by simp at hC;omega];have hC2:C<65536:=by rw[←hC];have:=HSL.out;simp at this ⊢;omega
   rw[hC] at HCC;obtain⟨x,hx⟩:∃ x,C / 256=x:=⟨_,rfl⟩;obtain⟨y,hy⟩:∃ y,C % 256=y:=⟨_,rfl⟩;have q1:(C:Int) / 256=(x:Int):=by omega
   have q2:(C:Int) % 256=(y:Int):=by omega
   have x1:(x:Int)<256:=by omega
   have y1:(y:Int)<256:=by omega
   have HXT:=hid (show h++[x,y]=extN 1 7 h by unfold extN;rw[HCC.out,hx,hy,Nat.mod_eq_of_lt (show x<256 by omega)]);have BA:=hid ((Below.refl wr.heap.size wr).alloc (Nat.le_refl _) (.cells (u8s [x,y]).toArray 5));clear hC hC2 hx hy
   go_wp2_with ((with_reducible refine at_op (.call { callee:= .builtin .append,args:= #[.tmp 34,.tmp 40],argTypes:= #[25,25] }) rfl ?_);go_must (refine append_bytes (.tmp 34) (.tmp 40) 25 rfl rfl 5 Tryz.underlying25 byte_info w.heap.size (.slice A 32 c) 32 h [x,y] rfl (own_below O1.out BA.out) (some ⟨wr.heap.size,0,none⟩) 2 2 rfl rfl (Sr.made [x,y] wr _ _) (by omega) (by have:=B1.out.size;simp;omega) ?_);intro v3 w3 e1 e2 e3)
   have b3:Below w.heap.size w w3:=(B1.out.alloc B1.out.size _).grown e2.out (by have:=B1.out.size;simp;omega) (λk e=>(O1.out.lt k e).1);have o3:=e1.out;rw[HXT.out,show 32+2=34 from rfl] at o3;obtain⟨A3,c3,rfl,hc3⟩:=own_form o3;have HE:=hid (show(extN 1 7 h).length=34 from extN_length _ _ _ HL.out);have HEB:=hid (extN_bytes 1 7 h HB.out);have B3:=hid b3;have O3:=hid o3;clear b3 o3 e1 e2 e3 hc3 q1 q2 x1 y1
   go_loopw [8,9] (λo i wx=>∃ k:Nat,k≤265∧i= .int .i64 k∧wx.ownsRow w.heap.size 3 1 o k (ints (digK 0 h k))∧wx.ownsRow w.heap.size 5 1 (.slice A3 34 c3) 34 (u8s (extN 1 7 h))∧Below w.heap.size w wx) (λ_ i _=>265- (intOf i).toNat)
   case atStart=>exact⟨0,by omega,rfl,int_nil_own _ _,O3.out,B3.out⟩
   case round=>
    clear B3 O3;obtain⟨k,hk,rfl,oo,ob,bw⟩:=hrel;have OO:=hid oo;have OB:=hid ob;have BW:=hid bw;have CH:=hid (refchains_t 0 (by decide) wr);clear oo ob bw
    by_cases hlt:k<265
    ·have i1:(k:Int)<265:=by omega
     have CO:=hid (refcoef_0 (extN 1 7 h) A3 34 k c3 wr HE.out (Sr.of_own OB.out) HEB.out (by simp;omega) (by decide));have HD:=hid (show coefN 1 (extN 1 7 h) k=digN (kd 0).w (kd 0).ls h k from rfl);obtain⟨d,hd⟩:∃ d,coefN 1 (extN 1 7 h) k=d:=⟨_,rfl⟩;rw[hd] at CO HD;clear hd;go_wp2_with fail
     refine CH.out.mono ?_
     rintro e w4 ⟨rfl,rfl⟩
     rw[show(kd 0).p=265 from rfl];go_wp2_with fail
     refine CO.out.mono ?_
     rintro e w5 ⟨rfl,rfl⟩
     have BB:=hid ((Below.refl wr.heap.size wr).alloc (Nat.le_refl _) (.cells #[.int .i64 (d:Int)] 3))
     go_wp2_with ((with_reducible refine at_op (.call { callee:= .builtin .append,args:= #[.tmp 48,.tmp 53],argTypes:= #[37,37] }) rfl ?_);go_must (refine append_cells (.tmp 48) (.tmp 53) 37 rfl rfl 3 (.int .i64 0) 8 Tryz.underlying37 int_info rfl w.heap.size _ k _ (ints [d]) rfl (own_below OO.out BB.out) ⟨wr.heap.size,0,none⟩ 1 1 rfl rfl (λj u hu=>by rw[Addr.add_mid,Nat.zero_add];exact((Blk.new wr 3 (ints [d])).cell j).trans hu) (ints_each _) (by unfold maxLen;omega) (by omega) (by have:=BW.out.size;simp;omega) ?_);intro v6 w6 a1 a2 a3)
     go_roundw
     case rel=>
      refine⟨k+1,by omega,by go_num,?_,?_,?_⟩
      ·have h:=a1.out;rw[←ints_app] at h;rw[digK_succ,←HD.out];exact h
      ·have h:=own_below OB.out BB.out;exact own_kept (F:=λq=>_=some q) h ((Kept.refl (λq=>_=some q) _).grown a2.out (λq e=> .inl e)) (λq e he=>own_types h (own_below OO.out BB.out) (by decide) q e he)
      ·exact(BW.out.alloc BW.out.size _).grown a2.out (by have:=BW.out.size;simp;omega) (λi e=>(OO.out.lt i e).1)
     case measure=>simp[intOf];omega
    ·obtain rfl:k=265:=by omega
     go_wp2_with fail
     refine CH.out.mono ?_
     rintro e w4 ⟨rfl,rfl⟩
     rw[show(kd 0).p=265 from rfl];go_wp2_with fail
     go_ret;refine⟨_,rfl,?_,BW.out⟩;rw[digs_length];exact OO.out
set_option maxHeartbeats 1000000 in
theorem refdigits_1 (h:List Nat) (w:World) (hl:h.length=32) (hb:Bytes h):
  Calls Tryz.prog 65 #[.int .i64 2,.agg (u8s h).toArray] w λe w'=>∃ v,e= .returned v∧FreshI w w' v (digs 1 h):=by
 have HL:=hid hl;have HB:=hid hb;have B0:=hid (((Below.refl w.heap.size w).alloc (Nat.le_refl _) (.cells (u8s h).toArray 23)).alloc (by simp) (.cells #[] 5));have SI:=hid (Sr.of_blk (xs:=h) (rest:=[]) ((Blk.new w 23 (u8s h)).alloc (.cells #[] 5)) (by simp));clear hl hb
 go_enter Tryz.func65,Tryz.ntmps65
 go_wp2_with ((with_reducible refine at_op (.call { callee:= .builtin .append,args:= #[.tmp 10,.tmp 11],argTypes:= #[25,25] }) rfl ?_);go_must (refine append_bytes (.tmp 10) (.tmp 11) 25 rfl rfl 5 Tryz.underlying25 byte_info w.heap.size (.slice (some ⟨w.heap.size+1,0,none⟩) 0 0) 0 [] h rfl (own_empty _ _ _ (by simp) (by simp)) (some ⟨w.heap.size,0,none⟩) 32 32 rfl HL.out SI.out (by omega) (by simp;omega) ?_);intro v1 w1 a1 a2 a3)
 have b1:Below w.heap.size w w1:=B0.out.grown a2.out B0.out.size (λk e=>by have:=Option.some.inj e;simp at this;omega);have o1:=a1.out;rw[List.nil_append,Nat.zero_add] at o1;obtain⟨A,c,rfl,hc⟩:=own_form o1;have B1:=hid b1;have O1:=hid o1;have S1:=hid (Sr.of_own o1);clear b1 o1 a1 a2 a3 B0 SI hc
 go_loopw [6,7] (λs i wr=>∃ k:Nat,k≤128∧i= .int .i64 k∧s= .int .i64 ((sumN 2 h k:Nat):Int)∧wr=w1) (λ_ i _=>128- (intOf i).toNat)
 case atStart=>exact⟨0,by omega,rfl,rfl,by first |rfl |trivial⟩
 case round=>
  obtain⟨k,hk,rfl,rfl,rfl⟩:=hrel;have hsu:=sumN_le 2 h k
  by_cases hlt:k<128
  ·have i1:(k:Int)<128:=by omega
   have hc:=coefN_lt 2 h k;have HSU:=hid (show sumN 2 h (k+1)=sumN 2 h k+(2 ^ 2-1-coefN 2 h k) from rfl);have CO:=hid (refcoef_1 h A 32 k c wr HL.out S1.out HB.out (by simp;omega) (by decide));obtain⟨d,hd⟩:∃ d,coefN 2 h k=d:=⟨_,rfl⟩;obtain⟨s,hs⟩:∃ s,sumN 2 h k=s:=⟨_,rfl⟩;rw[hd] at hc HSU CO;rw[hs] at hsu HSU ⊢;have d1:(d:Int)<4:=by simp at hc;omega
   have s1:(s:Int)≤8160:=by simp at hsu;omega
   clear hd hs hc hsu;go_wp2_with fail
   refine CO.out.mono ?_
   rintro e w2 ⟨rfl,rfl⟩
   go_wp2_with fail
   go_roundw
   case rel=>
    refine⟨k+1,by omega,by go_num,?_,by first |rfl |trivial⟩;rw[HSU.out];exact congrArg (Value.int .i64) (by omega)
   case measure=>simp[intOf];omega
  ·obtain rfl:k=128:=by omega
   rw[show((128:Nat):Int)=128 from rfl];have SH:=hid (refshift_t 1 (by decide) wr);obtain⟨s,hs⟩:∃ s,sumN 2 h 128=s:=⟨_,rfl⟩;rw[hs] at hsu ⊢;have s1:(s:Int)≤8160:=by simp at hsu;omega
   have HSS:=hid hs;have HSL:=hid hsu;have HCC:=hid (show cksN 2 6 h=s * 2 ^ 6 by unfold cksN;rw[show 256 / 2=128 from rfl,hs]);clear hs hsu hlt hk;go_wp2_with fail
   refine SH.out.mono ?_
   rintro e w2 ⟨rfl,rfl⟩
   rw[show(kd 1).ls=6 from rfl]
   go_upto_region 8 with(fail)
   obtain⟨C,hC⟩:∃ C,s * 2 ^ 6=C:=⟨_,rfl⟩;rw[show(s:Int) * 64=(C:Int) from by simp at hC;omega];have hC2:C<65536:=by rw[←hC];have:=HSL.out;simp at this ⊢;omega
   rw[hC] at HCC;obtain⟨x,hx⟩:∃ x,C / 256=x:=⟨_,rfl⟩;obtain⟨y,hy⟩:∃ y,C % 256=y:=⟨_,rfl⟩;have q1:(C:Int) / 256=(x:Int):=by omega
   have q2:(C:Int) % 256=(y:Int):=by omega
   have x1:(x:Int)<256:=by omega
   have y1:(y:Int)<256:=by omega
   have HXT:=hid (show h++[x,y]=extN 2 6 h by unfold extN;rw[HCC.out,hx,hy,Nat.mod_eq_of_lt (show x<256 by omega)]);have BA:=hid ((Below.refl wr.heap.size wr).alloc (Nat.le_refl _) (.cells (u8s [x,y]).toArray 5));clear hC hC2 hx hy
   go_wp2_with ((with_reducible refine at_op (.call { callee:= .builtin .append,args:= #[.tmp 34,.tmp 40],argTypes:= #[25,25] }) rfl ?_);go_must (refine append_bytes (.tmp 34) (.tmp 40) 25 rfl rfl 5 Tryz.underlying25 byte_info w.heap.size (.slice A 32 c) 32 h [x,y] rfl (own_below O1.out BA.out) (some ⟨wr.heap.size,0,none⟩) 2 2 rfl rfl (Sr.made [x,y] wr _ _) (by omega) (by have:=B1.out.size;simp;omega) ?_);intro v3 w3 e1 e2 e3)
   have b3:Below w.heap.size w w3:=(B1.out.alloc B1.out.size _).grown e2.out (by have:=B1.out.size;simp;omega) (λk e=>(O1.out.lt k e).1);have o3:=e1.out;rw[HXT.out,show 32+2=34 from rfl] at o3;obtain⟨A3,c3,rfl,hc3⟩:=own_form o3;have HE:=hid (show(extN 2 6 h).length=34 from extN_length _ _ _ HL.out);have HEB:=hid (extN_bytes 2 6 h HB.out);have B3:=hid b3;have O3:=hid o3;clear b3 o3 e1 e2 e3 hc3 q1 q2 x1 y1
   go_loopw [8,9] (λo i wx=>∃ k:Nat,k≤133∧i= .int .i64 k∧wx.ownsRow w.heap.size 3 1 o k (ints (digK 1 h k))∧wx.ownsRow w.heap.size 5 1 (.slice A3 34 c3) 34 (u8s (extN 2 6 h))∧Below w.heap.size w wx) (λ_ i _=>133- (intOf i).toNat)
   case atStart=>exact⟨0,by omega,rfl,int_nil_own _ _,O3.out,B3.out⟩
   case round=>
    clear B3 O3;obtain⟨k,hk,rfl,oo,ob,bw⟩:=hrel;have OO:=hid oo;have OB:=hid ob;have BW:=hid bw;have CH:=hid (refchains_t 1 (by decide) wr);clear oo ob bw
    by_cases hlt:k<133
    ·have i1:(k:Int)<133:=by omega
     have CO:=hid (refcoef_1 (extN 2 6 h) A3 34 k c3 wr HE.out (Sr.of_own OB.out) HEB.out (by simp;omega) (by decide));have HD:=hid (show coefN 2 (extN 2 6 h) k=digN (kd 1).w (kd 1).ls h k from rfl);obtain⟨d,hd⟩:∃ d,coefN 2 (extN 2 6 h) k=d:=⟨_,rfl⟩;rw[hd] at CO HD;clear hd;go_wp2_with fail
     refine CH.out.mono ?_
     rintro e w4 ⟨rfl,rfl⟩
     rw[show(kd 1).p=133 from rfl];go_wp2_with fail
     refine CO.out.mono ?_
     rintro e w5 ⟨rfl,rfl⟩
     have BB:=hid ((Below.refl wr.heap.size wr).alloc (Nat.le_refl _) (.cells #[.int .i64 (d:Int)] 3))
     go_wp2_with ((with_reducible refine at_op (.call { callee:= .builtin .append,args:= #[.tmp 48,.tmp 53],argTypes:= #[37,37] }) rfl ?_);go_must (refine append_cells (.tmp 48) (.tmp 53) 37 rfl rfl 3 (.int .i64 0) 8 Tryz.underlying37 int_info rfl w.heap.size _ k _ (ints [d]) rfl (own_below OO.out BB.out) ⟨wr.heap.size,0,none⟩ 1 1 rfl rfl (λj u hu=>by rw[Addr.add_mid,Nat.zero_add];exact((Blk.new wr 3 (ints [d])).cell j).trans hu) (ints_each _) (by unfold maxLen;omega) (by omega) (by have:=BW.out.size;simp;omega) ?_);intro v6 w6 a1 a2 a3)
     go_roundw
     case rel=>
      refine⟨k+1,by omega,by go_num,?_,?_,?_⟩
      ·have h:=a1.out;rw[←ints_app] at h;rw[digK_succ,←HD.out];exact h
      ·have h:=own_below OB.out BB.out;exact own_kept (F:=λq=>_=some q) h ((Kept.refl (λq=>_=some q) _).grown a2.out (λq e=> .inl e)) (λq e he=>own_types h (own_below OO.out BB.out) (by decide) q e he)
      ·exact(BW.out.alloc BW.out.size _).grown a2.out (by have:=BW.out.size;simp;omega) (λi e=>(OO.out.lt i e).1)
     case measure=>simp[intOf];omega
    ·obtain rfl:k=133:=by omega
     go_wp2_with fail
     refine CH.out.mono ?_
     rintro e w4 ⟨rfl,rfl⟩
     rw[show(kd 1).p=133 from rfl];go_wp2_with fail
     go_ret;refine⟨_,rfl,?_,BW.out⟩;rw[digs_length];exact OO.out
set_option maxHeartbeats 1000000 in
theorem refdigits_2 (h:List Nat) (w:World) (hl:h.length=32) (hb:Bytes h):
  Calls Tryz.prog 65 #[.int .i64 4,.agg (u8s h).toArray] w λe w'=>∃ v,e= .returned v∧FreshI w w' v (digs 2 h):=by
 have HL:=hid hl;have HB:=hid hb;have B0:=hid (((Below.refl w.heap.size w).alloc (Nat.le_refl _) (.cells (u8s h).toArray 23)).alloc (by simp) (.cells #[] 5));have SI:=hid (Sr.of_blk (xs:=h) (rest:=[]) ((Blk.new w 23 (u8s h)).alloc (.cells #[] 5)) (by simp));clear hl hb
 go_enter Tryz.func65,Tryz.ntmps65
 go_wp2_with ((with_reducible refine at_op (.call { callee:= .builtin .append,args:= #[.tmp 10,.tmp 11],argTypes:= #[25,25] }) rfl ?_);go_must (refine append_bytes (.tmp 10) (.tmp 11) 25 rfl rfl 5 Tryz.underlying25 byte_info w.heap.size (.slice (some ⟨w.heap.size+1,0,none⟩) 0 0) 0 [] h rfl (own_empty _ _ _ (by simp) (by simp)) (some ⟨w.heap.size,0,none⟩) 32 32 rfl HL.out SI.out (by omega) (by simp;omega) ?_);intro v1 w1 a1 a2 a3)
 have b1:Below w.heap.size w w1:=B0.out.grown a2.out B0.out.size (λk e=>by have:=Option.some.inj e;simp at this;omega);have o1:=a1.out;rw[List.nil_append,Nat.zero_add] at o1;obtain⟨A,c,rfl,hc⟩:=own_form o1;have B1:=hid b1;have O1:=hid o1;have S1:=hid (Sr.of_own o1);clear b1 o1 a1 a2 a3 B0 SI hc
 go_loopw [6,7] (λs i wr=>∃ k:Nat,k≤64∧i= .int .i64 k∧s= .int .i64 ((sumN 4 h k:Nat):Int)∧wr=w1) (λ_ i _=>64- (intOf i).toNat)
 case atStart=>exact⟨0,by omega,rfl,rfl,by first |rfl |trivial⟩
 case round=>
  obtain⟨k,hk,rfl,rfl,rfl⟩:=hrel;have hsu:=sumN_le 4 h k
  by_cases hlt:k<64
  ·have i1:(k:Int)<64:=by omega
   have hc:=coefN_lt 4 h k;have HSU:=hid (show sumN 4 h (k+1)=sumN 4 h k+(2 ^ 4-1-coefN 4 h k) from rfl);have CO:=hid (refcoef_2 h A 32 k c wr HL.out S1.out HB.out (by simp;omega) (by decide));obtain⟨d,hd⟩:∃ d,coefN 4 h k=d:=⟨_,rfl⟩;obtain⟨s,hs⟩:∃ s,sumN 4 h k=s:=⟨_,rfl⟩;rw[hd] at hc HSU CO;rw[hs] at hsu HSU ⊢;have d1:(d:Int)<16:=by simp at hc;omega
   have s1:(s:Int)≤8160:=by simp at hsu;omega
   clear hd hs hc hsu;go_wp2_with fail
   refine CO.out.mono ?_
   rintro e w2 ⟨rfl,rfl⟩
   go_wp2_with fail
   go_roundw
   case rel=>
    refine⟨k+1,by omega,by go_num,?_,by first |rfl |trivial⟩;rw[HSU.out];exact congrArg (Value.int .i64) (by omega)
   case measure=>simp[intOf];omega
  ·obtain rfl:k=64:=by omega
   rw[show((64:Nat):Int)=64 from rfl];have SH:=hid (refshift_t 2 (by decide) wr);obtain⟨s,hs⟩:∃ s,sumN 4 h 64=s:=⟨_,rfl⟩;rw[hs] at hsu ⊢;have s1:(s:Int)≤8160:=by simp at hsu;omega
   have HSS:=hid hs;have HSL:=hid hsu;have HCC:=hid (show cksN 4 4 h=s * 2 ^ 4 by unfold cksN;rw[show 256 / 4=64 from rfl,hs]);clear hs hsu hlt hk;go_wp2_with fail
   refine SH.out.mono ?_
   rintro e w2 ⟨rfl,rfl⟩
   rw[show(kd 2).ls=4 from rfl]
   go_upto_region 8 with(fail)
   obtain⟨C,hC⟩:∃ C,s * 2 ^ 4=C:=⟨_,rfl⟩;rw[show(s:Int) * 16=(C:Int) from by simp at hC;omega];have hC2:C<65536:=by rw[←hC];have:=HSL.out;simp at this ⊢;omega
   rw[hC] at HCC;obtain⟨x,hx⟩:∃ x,C / 256=x:=⟨_,rfl⟩;obtain⟨y,hy⟩:∃ y,C % 256=y:=⟨_,rfl⟩;have q1:(C:Int) / 256=(x:Int):=by omega
   have q2:(C:Int) % 256=(y:Int):=by omega
   have x1:(x:Int)<256:=by omega
   have y1:(y:Int)<256:=by omega
   have HXT:=hid (show h++[x,y]=extN 4 4 h by unfold extN;rw[HCC.out,hx,hy,Nat.mod_eq_of_lt (show x<256 by omega)]);have BA:=hid ((Below.refl wr.heap.size wr).alloc (Nat.le_refl _) (.cells (u8s [x,y]).toArray 5));clear hC hC2 hx hy
   go_wp2_with ((with_reducible refine at_op (.call { callee:= .builtin .append,args:= #[.tmp 34,.tmp 40],argTypes:= #[25,25] }) rfl ?_);go_must (refine append_bytes (.tmp 34) (.tmp 40) 25 rfl rfl 5 Tryz.underlying25 byte_info w.heap.size (.slice A 32 c) 32 h [x,y] rfl (own_below O1.out BA.out) (some ⟨wr.heap.size,0,none⟩) 2 2 rfl rfl (Sr.made [x,y] wr _ _) (by omega) (by have:=B1.out.size;simp;omega) ?_);intro v3 w3 e1 e2 e3)
   have b3:Below w.heap.size w w3:=(B1.out.alloc B1.out.size _).grown e2.out (by have:=B1.out.size;simp;omega) (λk e=>(O1.out.lt k e).1);have o3:=e1.out;rw[HXT.out,show 32+2=34 from rfl] at o3;obtain⟨A3,c3,rfl,hc3⟩:=own_form o3;have HE:=hid (show(extN 4 4 h).length=34 from extN_length _ _ _ HL.out);have HEB:=hid (extN_bytes 4 4 h HB.out);have B3:=hid b3;have O3:=hid o3;clear b3 o3 e1 e2 e3 hc3 q1 q2 x1 y1
   go_loopw [8,9] (λo i wx=>∃ k:Nat,k≤67∧i= .int .i64 k∧wx.ownsRow w.heap.size 3 1 o k (ints (digK 2 h k))∧wx.ownsRow w.heap.size 5 1 (.slice A3 34 c3) 34 (u8s (extN 4 4 h))∧Below w.heap.size w wx) (λ_ i _=>67- (intOf i).toNat)
   case atStart=>exact⟨0,by omega,rfl,int_nil_own _ _,O3.out,B3.out⟩
   case round=>
    clear B3 O3;obtain⟨k,hk,rfl,oo,ob,bw⟩:=hrel;have OO:=hid oo;have OB:=hid ob;have BW:=hid bw;have CH:=hid (refchains_t 2 (by decide) wr);clear oo ob bw
    by_cases hlt:k<67
    ·have i1:(k:Int)<67:=by omega
     have CO:=hid (refcoef_2 (extN 4 4 h) A3 34 k c3 wr HE.out (Sr.of_own OB.out) HEB.out (by simp;omega) (by decide));have HD:=hid (show coefN 4 (extN 4 4 h) k=digN (kd 2).w (kd 2).ls h k from rfl);obtain⟨d,hd⟩:∃ d,coefN 4 (extN 4 4 h) k=d:=⟨_,rfl⟩;rw[hd] at CO HD;clear hd;go_wp2_with fail
     refine CH.out.mono ?_
     rintro e w4 ⟨rfl,rfl⟩
     rw[show(kd 2).p=67 from rfl];go_wp2_with fail
     refine CO.out.mono ?_
     rintro e w5 ⟨rfl,rfl⟩
     have BB:=hid ((Below.refl wr.heap.size wr).alloc (Nat.le_refl _) (.cells #[.int .i64 (d:Int)] 3))
     go_wp2_with ((with_reducible refine at_op (.call { callee:= .builtin .append,args:= #[.tmp 48,.tmp 53],argTypes:= #[37,37] }) rfl ?_);go_must (refine append_cells (.tmp 48) (.tmp 53) 37 rfl rfl 3 (.int .i64 0) 8 Tryz.underlying37 int_info rfl w.heap.size _ k _ (ints [d]) rfl (own_below OO.out BB.out) ⟨wr.heap.size,0,none⟩ 1 1 rfl rfl (λj u hu=>by rw[Addr.add_mid,Nat.zero_add];exact((Blk.new wr 3 (ints [d])).cell j).trans hu) (ints_each _) (by unfold maxLen;omega) (by omega) (by have:=BW.out.size;simp;omega) ?_);intro v6 w6 a1 a2 a3)
     go_roundw
     case rel=>
      refine⟨k+1,by omega,by go_num,?_,?_,?_⟩
      ·have h:=a1.out;rw[←ints_app] at h;rw[digK_succ,←HD.out];exact h
      ·have h:=own_below OB.out BB.out;exact own_kept (F:=λq=>_=some q) h ((Kept.refl (λq=>_=some q) _).grown a2.out (λq e=> .inl e)) (λq e he=>own_types h (own_below OO.out BB.out) (by decide) q e he)
      ·exact(BW.out.alloc BW.out.size _).grown a2.out (by have:=BW.out.size;simp;omega) (λi e=>(OO.out.lt i e).1)
     case measure=>simp[intOf];omega
    ·obtain rfl:k=67:=by omega
     go_wp2_with fail
     refine CH.out.mono ?_
     rintro e w4 ⟨rfl,rfl⟩
     rw[show(kd 2).p=67 from rfl];go_wp2_with fail
     go_ret;refine⟨_,rfl,?_,BW.out⟩;rw[digs_length];exact OO.out
set_option maxHeartbeats 1000000 in
theorem refdigits_3 (h:List Nat) (w:World) (hl:h.length=32) (hb:Bytes h):
  Calls Tryz.prog 65 #[.int .i64 8,.agg (u8s h).toArray] w λe w'=>∃ v,e= .returned v∧FreshI w w' v (digs 3 h):=by
 have HL:=hid hl;have HB:=hid hb;have B0:=hid (((Below.refl w.heap.size w).alloc (Nat.le_refl _) (.cells (u8s h).toArray 23)).alloc (by simp) (.cells #[] 5));have SI:=hid (Sr.of_blk (xs:=h) (rest:=[]) ((Blk.new w 23 (u8s h)).alloc (.cells #[] 5)) (by simp));clear hl hb
 go_enter Tryz.func65,Tryz.ntmps65
 go_wp2_with ((with_reducible refine at_op (.call { callee:= .builtin .append,args:= #[.tmp 10,.tmp 11],argTypes:= #[25,25] }) rfl ?_);go_must (refine append_bytes (.tmp 10) (.tmp 11) 25 rfl rfl 5 Tryz.underlying25 byte_info w.heap.size (.slice (some ⟨w.heap.size+1,0,none⟩) 0 0) 0 [] h rfl (own_empty _ _ _ (by simp) (by simp)) (some ⟨w.heap.size,0,none⟩) 32 32 rfl HL.out SI.out (by omega) (by simp;omega) ?_);intro v1 w1 a1 a2 a3)
 have b1:Below w.heap.size w w1:=B0.out.grown a2.out B0.out.size (λk e=>by have:=Option.some.inj e;simp at this;omega);have o1:=a1.out;rw[List.nil_append,Nat.zero_add] at o1;obtain⟨A,c,rfl,hc⟩:=own_form o1;have B1:=hid b1;have O1:=hid o1;have S1:=hid (Sr.of_own o1);clear b1 o1 a1 a2 a3 B0 SI hc
 go_loopw [6,7] (λs i wr=>∃ k:Nat,k≤32∧i= .int .i64 k∧s= .int .i64 ((sumN 8 h k:Nat):Int)∧wr=w1) (λ_ i _=>32- (intOf i).toNat)
 case atStart=>exact⟨0,by omega,rfl,rfl,by first |rfl |trivial⟩
 case round=>
  obtain⟨k,hk,rfl,rfl,rfl⟩:=hrel;have hsu:=sumN_le 8 h k
  by_cases hlt:k<32
  ·have i1:(k:Int)<32:=by omega
   have hc:=coefN_lt 8 h k;have HSU:=hid (show sumN 8 h (k+1)=sumN 8 h k+(2 ^ 8-1-coefN 8 h k) from rfl);have CO:=hid (refcoef_3 h A 32 k c wr HL.out S1.out HB.out (by simp;omega) (by decide));obtain⟨d,hd⟩:∃ d,coefN 8 h k=d:=⟨_,rfl⟩;obtain⟨s,hs⟩:∃ s,sumN 8 h k=s:=⟨_,rfl⟩;rw[hd] at hc HSU CO;rw[hs] at hsu HSU ⊢;have d1:(d:Int)<256:=by simp at hc;omega
   have s1:(s:Int)≤8160:=by simp at hsu;omega
   clear hd hs hc hsu;go_wp2_with fail
   refine CO.out.mono ?_
   rintro e w2 ⟨rfl,rfl⟩
   go_wp2_with fail
   go_roundw
   case rel=>
    refine⟨k+1,by omega,by go_num,?_,by first |rfl |trivial⟩;rw[HSU.out];exact congrArg (Value.int .i64) (by omega)
   case measure=>simp[intOf];omega
  ·obtain rfl:k=32:=by omega
   rw[show((32:Nat):Int)=32 from rfl];have SH:=hid (refshift_t 3 (by decide) wr);obtain⟨s,hs⟩:∃ s,sumN 8 h 32=s:=⟨_,rfl⟩;rw[hs] at hsu ⊢;have s1:(s:Int)≤8160:=by simp at hsu;omega
   have HSS:=hid hs;have HSL:=hid hsu;have HCC:=hid (show cksN 8 0 h=s * 2 ^ 0 by unfold cksN;rw[show 256 / 8=32 from rfl,hs]);clear hs hsu hlt hk;go_wp2_with fail
   refine SH.out.mono ?_
   rintro e w2 ⟨rfl,rfl⟩
   rw[show(kd 3).ls=0 from rfl]
   go_upto_region 8 with(fail)
   obtain⟨C,hC⟩:∃ C,s * 2 ^ 0=C:=⟨_,rfl⟩;rw[show(s:Int)=(C:Int) from by simp at hC;omega];have hC2:C<65536:=by rw[←hC];have:=HSL.out;simp at this ⊢;omega
   rw[hC] at HCC;obtain⟨x,hx⟩:∃ x,C / 256=x:=⟨_,rfl⟩;obtain⟨y,hy⟩:∃ y,C % 256=y:=⟨_,rfl⟩;have q1:(C:Int) / 256=(x:Int):=by omega
   have q2:(C:Int) % 256=(y:Int):=by omega
   have x1:(x:Int)<256:=by omega
   have y1:(y:Int)<256:=by omega
   have HXT:=hid (show h++[x,y]=extN 8 0 h by unfold extN;rw[HCC.out,hx,hy,Nat.mod_eq_of_lt (show x<256 by omega)]);have BA:=hid ((Below.refl wr.heap.size wr).alloc (Nat.le_refl _) (.cells (u8s [x,y]).toArray 5));clear hC hC2 hx hy
   go_wp2_with ((with_reducible refine at_op (.call { callee:= .builtin .append,args:= #[.tmp 34,.tmp 40],argTypes:= #[25,25] }) rfl ?_);go_must (refine append_bytes (.tmp 34) (.tmp 40) 25 rfl rfl 5 Tryz.underlying25 byte_info w.heap.size (.slice A 32 c) 32 h [x,y] rfl (own_below O1.out BA.out) (some ⟨wr.heap.size,0,none⟩) 2 2 rfl rfl (Sr.made [x,y] wr _ _) (by omega) (by have:=B1.out.size;simp;omega) ?_);intro v3 w3 e1 e2 e3)
   have b3:Below w.heap.size w w3:=(B1.out.alloc B1.out.size _).grown e2.out (by have:=B1.out.size;simp;omega) (λk e=>(O1.out.lt k e).1);have o3:=e1.out;rw[HXT.out,show 32+2=34 from rfl] at o3;obtain⟨A3,c3,rfl,hc3⟩:=own_form o3;have HE:=hid (show(extN 8 0 h).length=34 from extN_length _ _ _ HL.out);have HEB:=hid (extN_bytes 8 0 h HB.out);have B3:=hid b3;have O3:=hid o3;clear b3 o3 e1 e2 e3 hc3 q1 q2 x1 y1
   go_loopw [8,9] (λo i wx=>∃ k:Nat,k≤34∧i= .int .i64 k∧wx.ownsRow w.heap.size 3 1 o k (ints (digK 3 h k))∧wx.ownsRow w.heap.size 5 1 (.slice A3 34 c3) 34 (u8s (extN 8 0 h))∧Below w.heap.size w wx) (λ_ i _=>34- (intOf i).toNat)
   case atStart=>exact⟨0,by omega,rfl,int_nil_own _ _,O3.out,B3.out⟩
   case round=>
    clear B3 O3;obtain⟨k,hk,rfl,oo,ob,bw⟩:=hrel;have OO:=hid oo;have OB:=hid ob;have BW:=hid bw;have CH:=hid (refchains_t 3 (by decide) wr);clear oo ob bw
    by_cases hlt:k<34
    ·have i1:(k:Int)<34:=by omega
     have CO:=hid (refcoef_3 (extN 8 0 h) A3 34 k c3 wr HE.out (Sr.of_own OB.out) HEB.out (by simp;omega) (by decide));have HD:=hid (show coefN 8 (extN 8 0 h) k=digN (kd 3).w (kd 3).ls h k from rfl);obtain⟨d,hd⟩:∃ d,coefN 8 (extN 8 0 h) k=d:=⟨_,rfl⟩;rw[hd] at CO HD;clear hd;go_wp2_with fail
     refine CH.out.mono ?_
     rintro e w4 ⟨rfl,rfl⟩
     rw[show(kd 3).p=34 from rfl];go_wp2_with fail
     refine CO.out.mono ?_
     rintro e w5 ⟨rfl,rfl⟩
     have BB:=hid ((Below.refl wr.heap.size wr).alloc (Nat.le_refl _) (.cells #[.int .i64 (d:Int)] 3))
     go_wp2_with ((with_reducible refine at_op (.call { callee:= .builtin .append,args:= #[.tmp 48,.tmp 53],argTypes:= #[37,37] }) rfl ?_);go_must (refine append_cells (.tmp 48) (.tmp 53) 37 rfl rfl 3 (.int .i64 0) 8 Tryz.underlying37 int_info rfl w.heap.size _ k _ (ints [d]) rfl (own_below OO.out BB.out) ⟨wr.heap.size,0,none⟩ 1 1 rfl rfl (λj u hu=>by rw[Addr.add_mid,Nat.zero_add];exact((Blk.new wr 3 (ints [d])).cell j).trans hu) (ints_each _) (by unfold maxLen;omega) (by omega) (by have:=BW.out.size;simp;omega) ?_);intro v6 w6 a1 a2 a3)
     go_roundw
     case rel=>
      refine⟨k+1,by omega,by go_num,?_,?_,?_⟩
      ·have h:=a1.out;rw[←ints_app] at h;rw[digK_succ,←HD.out];exact h
      ·have h:=own_below OB.out BB.out;exact own_kept (F:=λq=>_=some q) h ((Kept.refl (λq=>_=some q) _).grown a2.out (λq e=> .inl e)) (λq e he=>own_types h (own_below OO.out BB.out) (by decide) q e he)
      ·exact(BW.out.alloc BW.out.size _).grown a2.out (by have:=BW.out.size;simp;omega) (λi e=>(OO.out.lt i e).1)
     case measure=>simp[intOf];omega
    ·obtain rfl:k=34:=by omega
     go_wp2_with fail
     refine CH.out.mono ?_
     rintro e w4 ⟨rfl,rfl⟩
     rw[show(kd 3).p=34 from rfl];go_wp2_with fail
     go_ret;refine⟨_,rfl,?_,BW.out⟩;rw[digs_length];exact OO.out
theorem refdigits_t (i:Nat) (hi:i<4) (h:List Nat) (w:World) (hl:h.length=32) (hb:Bytes h):
  Calls Tryz.prog 65 #[.int .i64 ((kd i).w:Int),.agg (u8s h).toArray] w λe w'=>∃ v,e= .returned v∧FreshI w w' v (digs i h):=by
 have:i=0∨i=1∨i=2∨i=3:=by omega
 rcases this with rfl |rfl |rfl |rfl
 ·exact refdigits_0 h w hl hb
 ·exact refdigits_1 h w hl hb
 ·exact refdigits_2 h w hl hb
 ·exact refdigits_3 h w hl hb
theorem row_open {w:World} {base:Nat} {v:Value} {l:List Nat} {n:Nat} (h:w.ownsRow base 5 1 v n (u8s l)) (hn:0<n):∃ g c,v= .slice (some ⟨g,0,none⟩) n c∧n≤c∧base≤g∧g<w.heap.size:=by
 obtain⟨g,cap,rfl,hb,hlt⟩:=h.form hn;obtain⟨_,_,e,hc⟩:=own_form h
 injection e with _ _ e
 subst e;exact⟨g,cap,rfl,hc,hb,hlt⟩
theorem hash_len (l:List Nat) (h:l.length=32):(u8s z32).length=(u8s l).length:=by rw[u8s_length,u8s_length,h];rfl
theorem cat_msg (I C M:List Nat) (q:Nat) (A B P R:Option Addr) (a b c d:Nat):catX [⟨A,a,frontN I q⟩,⟨B,b,[129,129]⟩,⟨P,c,C⟩,⟨R,d,M⟩]=headN I q 33153++C++M:=by
 simp[catX,headN,frontN,show beN 33153 2=[129,129] from by decide]
theorem cat_ends (I L:List Nat) (q:Nat) (A B P:Option Addr) (a b c:Nat):catX [⟨A,a,frontN I q⟩,⟨B,b,[128,128]⟩,⟨P,c,L⟩]=headN I q 32896++L:=by
 simp[catX,headN,frontN,show beN 32896 2=[128,128] from by decide]
set_option maxHeartbeats 1000000 in
theorem refmsg_t (I C M:List Nat) (q:Nat) (P R:Option Addr) (c d:Nat) (w:World) (hI:I.length=16) (hIb:Bytes I) (hq:q<1000) (hC:Sr w P C) (hCb:Bytes C) (hCl:C.length≤1000) (hM:Sr w R M) (hMb:Bytes M) (hMl:M.length≤100000):
  Calls Tryz.prog 66 #[.agg (u8s I).toArray,.int .i64 (q:Int),.slice P C.length c,.slice R M.length d] w λe w'=>e= .returned (.agg (u8s (msgN I q C M)).toArray)∧Below w.heap.size w w':=by
 have HI:=hid hI;have HIB:=hid hIb;have HC:=hid hC;have HCB0:=hid hCb;have HM:=hid hM;have HMB:=hid hMb;have HCL:=hid hCl;have HML:=hid hMl;have I0:=hid ((Blk.new w 44 (u8s I)).alloc (.cells (u8s z32).toArray 23));have R0:=hid (Blk.new2 w (.cells (u8s I).toArray 44) 23 (u8s z32));have B0:=hid (((Below.refl w.heap.size w).alloc (Nat.le_refl _) (.cells (u8s I).toArray 44)).alloc (by simp) (.cells (u8s z32).toArray 23));clear hI hIb hC hCb hM hMb hCl hMl
 go_enter Tryz.func66,Tryz.ntmps66
 go_wp2_with ((with_reducible refine load_blk 44 (.tmp 4) w.heap.size 44 (u8s I) _ rfl rfl ?_ Tryz.underlying44 ?_ ?_ ?_ ?_);exact I0.out;exact rfl;exact size16 _ HI.out;exact rfl)
 refine(front_t I q _ HI.out hq).mono ?_
 rintro e w1 ⟨v,rfl,f1⟩
 obtain⟨A,a,rfl,ha,s1,b1⟩:=fresh_op f1;have B1:=hid (B0.out.trans (b1.mono B0.out.size));have R1:=hid (R0.out.below b1 R0.out.lt);have S1:=hid s1;clear f1 ha s1 b1 B0 R0 I0;have B2:=hid ((B1.out.alloc B1.out.size (.cells (u8s [129,129]).toArray 5)).alloc (by have:=B1.out.size;simp;omega) (.cells (partsV [⟨A,a,frontN I q⟩,⟨some ⟨w1.heap.size,0,none⟩,2,[129,129]⟩,⟨P,c,C⟩,⟨R,d,M⟩]).toArray 25));have R2:=hid ((R1.out.alloc (.cells (u8s [129,129]).toArray 5)).alloc (.cells (partsV [⟨A,a,frontN I q⟩,⟨some ⟨w1.heap.size,0,none⟩,2,[129,129]⟩,⟨P,c,C⟩,⟨R,d,M⟩]).toArray 25));have bx:=((Below.refl w1.heap.size w1).alloc (Nat.le_refl _) (.cells (u8s [129,129]).toArray 5)).alloc (by simp) (.cells (partsV [⟨A,a,frontN I q⟩,⟨some ⟨w1.heap.size,0,none⟩,2,[129,129]⟩,⟨P,c,C⟩,⟨R,d,M⟩]).toArray 25);have SX:=hid (show ∀ x∈([⟨A,a,frontN I q⟩,⟨some ⟨w1.heap.size,0,none⟩,2,[129,129]⟩,⟨P,c,C⟩,⟨R,d,M⟩]:List Part),Sr ((w1.alloc (.cells (u8s [129,129]).toArray 5)).alloc (.cells (partsV [⟨A,a,frontN I q⟩,⟨some ⟨w1.heap.size,0,none⟩,2,[129,129]⟩,⟨P,c,C⟩,⟨R,d,M⟩]).toArray 25)) x.A x.X by
  intro x hx;simp only[List.mem_cons,List.not_mem_nil,or_false] at hx;rcases hx with rfl |rfl |rfl |rfl
  ·exact S1.out.below bx
  ·exact(Sr.made [129,129] w1 _ _).below ((Below.refl _ _).alloc (Nat.le_refl _) _)
  ·exact(HC.out.below B1.out).below bx
  ·exact(HM.out.below B1.out).below bx)
 clear bx;go_wp2_with fail
 refine(cat_t [⟨A,a,frontN I q⟩,⟨some ⟨w1.heap.size,0,none⟩,2,[129,129]⟩,⟨P,c,C⟩,⟨R,d,M⟩] (w1.heap.size+1) 4 4 25 _ rfl ?_ ?_ ?_ (by decide)).mono ?_
 ·exact Blk.new2 w1 _ _ (partsV [⟨A,a,frontN I q⟩,⟨some ⟨w1.heap.size,0,none⟩,2,[129,129]⟩,⟨P,c,C⟩,⟨R,d,M⟩])
 ·exact SX.out
 ·(rw[cat_msg,List.length_append,List.length_append,headN_length I q _ HI.out];have:=HCL.out;have:=HML.out;omega)
 rintro e wc ⟨vc,rfl,fc⟩
 obtain⟨Ac,cc,rfl,hcc,src,bc⟩:=fresh_op fc;have BC:=hid (B2.out.trans (bc.mono B2.out.size));have RC:=hid (R2.out.below bc R2.out.lt);have SC:=hid src;clear fc hcc src bc;have HCB:=hid (show Bytes (catX [⟨A,a,frontN I q⟩,⟨some ⟨w1.heap.size,0,none⟩,2,[129,129]⟩,⟨P,c,C⟩,⟨R,d,M⟩])∧(catX [⟨A,a,frontN I q⟩,⟨some ⟨w1.heap.size,0,none⟩,2,[129,129]⟩,⟨P,c,C⟩,⟨R,d,M⟩]).length≤200000 by rw[cat_msg];exact⟨app_bytes (app_bytes (headN_bytes _ _ _ HIB.out) HCB0.out) HMB.out,by rw[List.length_append,List.length_append,headN_length I q _ HI.out];have:=HCL.out;have:=HML.out;omega⟩);obtain⟨X,hX⟩:∃ X,catX [⟨A,a,frontN I q⟩,⟨some ⟨w1.heap.size,0,none⟩,2,[129,129]⟩,⟨P,c,C⟩,⟨R,d,M⟩]=X:=⟨_,rfl⟩;rw[hX] at SC HCB ⊢;have HXX:=hid hX;clear hX;go_wp2_with fail
 refine(refsum_t X Ac X.length cc wc rfl SC.out HCB.out.1 (by have:=HCB.out.2;omega)).mono ?_
 rintro e wd ⟨rfl,bd⟩
 have BD:=hid (BC.out.trans (bd.mono BC.out.size));have RD:=hid (RC.out.below bd RC.out.lt);have HSL:=hid (show(sum X).length=32 from rfl);obtain⟨S,hS⟩:∃ S,sum X=S:=⟨_,rfl⟩;rw[hS] at HSL ⊢;have HSS:=hid hS;clear bd hS BC RC
 go_wp2_with ((with_reducible refine store_blk 23 (.tmp 8) (.tmp 17) (w.heap.size+1) 23 (u8s z32) (u8s S) rfl rfl ?_ ?_ ?_ ?_ ?_ ?_ ?_);exact RD.out;exact hash_len _ HSL.out;exact size32 _ HSL.out;exact u8s_one _;exact rfl;exact rfl)
 exact ret_blk (p:=8) (ty:=23) rfl rfl (w.heap.size+1) 23 _ _ rfl (RD.out.setRow _) Tryz.underlying23 rfl (size32 _ HSL.out) ⟨by rw[←HSS.out,←HXX.out,cat_msg];rfl,below_setRow BD.out (by omega) _⟩
set_option maxHeartbeats 1000000 in
theorem refends_t (I L:List Nat) (q n:Nat) (P:Option Addr) (c:Nat) (w:World) (hn:L.length=n) (hI:I.length=16) (hIb:Bytes I) (hq:q<1000) (hL:Sr w P L) (hLb:Bytes L) (hLl:L.length≤100000):
  Calls Tryz.prog 63 #[.agg (u8s I).toArray,.int .i64 (q:Int),.slice P n c] w λe w'=>e= .returned (.agg (u8s (pubOf I q L)).toArray)∧Below w.heap.size w w':=by
 subst hn;have HI:=hid hI;have HIB:=hid hIb;have HL:=hid hL;have HLB:=hid hLb;have HLL:=hid hLl;have I0:=hid ((Blk.new w 44 (u8s I)).alloc (.cells (u8s z32).toArray 23));have R0:=hid (Blk.new2 w (.cells (u8s I).toArray 44) 23 (u8s z32));have B0:=hid (((Below.refl w.heap.size w).alloc (Nat.le_refl _) (.cells (u8s I).toArray 44)).alloc (by simp) (.cells (u8s z32).toArray 23));clear hI hIb hL hLb hLl
 go_enter Tryz.func63,Tryz.ntmps63
 go_wp2_with ((with_reducible refine load_blk 44 (.tmp 3) w.heap.size 44 (u8s I) _ rfl rfl ?_ Tryz.underlying44 ?_ ?_ ?_ ?_);exact I0.out;exact rfl;exact size16 _ HI.out;exact rfl)
 refine(front_t I q _ HI.out hq).mono ?_
 rintro e w1 ⟨v,rfl,f1⟩
 obtain⟨A,a,rfl,ha,s1,b1⟩:=fresh_op f1;have B1:=hid (B0.out.trans (b1.mono B0.out.size));have R1:=hid (R0.out.below b1 R0.out.lt);have S1:=hid s1;clear f1 ha s1 b1 B0 R0 I0;have B2:=hid ((B1.out.alloc B1.out.size (.cells (u8s [128,128]).toArray 5)).alloc (by have:=B1.out.size;simp;omega) (.cells (partsV [⟨A,a,frontN I q⟩,⟨some ⟨w1.heap.size,0,none⟩,2,[128,128]⟩,⟨P,c,L⟩]).toArray 25));have R2:=hid ((R1.out.alloc (.cells (u8s [128,128]).toArray 5)).alloc (.cells (partsV [⟨A,a,frontN I q⟩,⟨some ⟨w1.heap.size,0,none⟩,2,[128,128]⟩,⟨P,c,L⟩]).toArray 25));have bx:=((Below.refl w1.heap.size w1).alloc (Nat.le_refl _) (.cells (u8s [128,128]).toArray 5)).alloc (by simp) (.cells (partsV [⟨A,a,frontN I q⟩,⟨some ⟨w1.heap.size,0,none⟩,2,[128,128]⟩,⟨P,c,L⟩]).toArray 25);have SX:=hid (show ∀ x∈([⟨A,a,frontN I q⟩,⟨some ⟨w1.heap.size,0,none⟩,2,[128,128]⟩,⟨P,c,L⟩]:List Part),Sr ((w1.alloc (.cells (u8s [128,128]).toArray 5)).alloc (.cells (partsV [⟨A,a,frontN I q⟩,⟨some ⟨w1.heap.size,0,none⟩,2,[128,128]⟩,⟨P,c,L⟩]).toArray 25)) x.A x.X by
  intro x hx;simp only[List.mem_cons,List.not_mem_nil,or_false] at hx;rcases hx with rfl |rfl |rfl
  ·exact S1.out.below bx
  ·exact(Sr.made [128,128] w1 _ _).below ((Below.refl _ _).alloc (Nat.le_refl _) _)
  ·exact(HL.out.below B1.out).below bx)
 clear bx;go_wp2_with fail
 refine(cat_t [⟨A,a,frontN I q⟩,⟨some ⟨w1.heap.size,0,none⟩,2,[128,128]⟩,⟨P,c,L⟩] (w1.heap.size+1) 3 3 25 _ rfl ?_ ?_ ?_ (by decide)).mono ?_
 ·exact Blk.new2 w1 _ _ (partsV [⟨A,a,frontN I q⟩,⟨some ⟨w1.heap.size,0,none⟩,2,[128,128]⟩,⟨P,c,L⟩])
 ·exact SX.out
 ·(rw[cat_ends,List.length_append,headN_length I q _ HI.out];have:=HLL.out;omega)
 rintro e wc ⟨vc,rfl,fc⟩
 obtain⟨Ac,cc,rfl,hcc,src,bc⟩:=fresh_op fc;have BC:=hid (B2.out.trans (bc.mono B2.out.size));have RC:=hid (R2.out.below bc R2.out.lt);have SC:=hid src;clear fc hcc src bc;have HCB:=hid (show Bytes (catX [⟨A,a,frontN I q⟩,⟨some ⟨w1.heap.size,0,none⟩,2,[128,128]⟩,⟨P,c,L⟩])∧(catX [⟨A,a,frontN I q⟩,⟨some ⟨w1.heap.size,0,none⟩,2,[128,128]⟩,⟨P,c,L⟩]).length≤200000 by rw[cat_ends];exact⟨app_bytes (headN_bytes _ _ _ HIB.out) HLB.out,by rw[List.length_append,headN_length I q _ HI.out];have:=HLL.out;omega⟩);obtain⟨X,hX⟩:∃ X,catX [⟨A,a,frontN I q⟩,⟨some ⟨w1.heap.size,0,none⟩,2,[128,128]⟩,⟨P,c,L⟩]=X:=⟨_,rfl⟩;rw[hX] at SC HCB ⊢;have HXX:=hid hX;clear hX;go_wp2_with fail
 refine(refsum_t X Ac X.length cc wc rfl SC.out HCB.out.1 (by have:=HCB.out.2;omega)).mono ?_
 rintro e wd ⟨rfl,bd⟩
 have BD:=hid (BC.out.trans (bd.mono BC.out.size));have RD:=hid (RC.out.below bd RC.out.lt);have HSL:=hid (show(sum X).length=32 from rfl);obtain⟨S,hS⟩:∃ S,sum X=S:=⟨_,rfl⟩;rw[hS] at HSL ⊢;have HSS:=hid hS;clear bd hS BC RC
 go_wp2_with ((with_reducible refine store_blk 23 (.tmp 6) (.tmp 14) (w.heap.size+1) 23 (u8s z32) (u8s S) rfl rfl ?_ ?_ ?_ ?_ ?_ ?_ ?_);exact RD.out;exact hash_len _ HSL.out;exact size32 _ HSL.out;exact u8s_one _;exact rfl;exact rfl)
 exact ret_blk (p:=6) (ty:=23) rfl rfl (w.heap.size+1) 23 _ _ rfl (RD.out.setRow _) Tryz.underlying23 rfl (size32 _ HSL.out) ⟨by rw[←HSS.out,←HXX.out,cat_ends];rfl,below_setRow BD.out (by omega) _⟩
theorem Sr.setRow_far {w:World} {p:Option Addr} {xs:List Nat} {g:Nat} (h:Sr w p xs) (hf:∀ a:Addr,p=some a→a.block≠g) (c:Array Value):Sr (w.setRow g c) p xs:=λhx=>by
 obtain⟨b,o,rfl,h1,h2⟩:=h hx;exact⟨b,o,rfl,by simpa using h1,λj hj=>(World.cell?_of_block (w:=w) (setRow_other w g b c (hf _ rfl))).trans (h2 j hj)⟩
theorem cat_step (I X:List Nat) (q n j:Nat) (A B P:Option Addr) (a b c:Nat):catX [⟨A,a,headN I q n⟩,⟨B,b,[j]⟩,⟨P,c,X⟩]=headN I q n++[j]++X:=by simp[catX]
theorem cat_sec (I X:List Nat) (q n:Nat) (A B C P:Option Addr) (a b c d:Nat):catX [⟨A,a,frontN I q⟩,⟨B,b,beN n 2⟩,⟨C,c,[255]⟩,⟨P,d,X⟩]=headN I q n++[255]++X:=by simp[catX,headN,frontN]
set_option maxHeartbeats 1000000 in
theorem along_t (I x:List Nat) (q n a b:Nat) (w:World) (hI:I.length=16) (hIb:Bytes I) (hq:q<1000) (hn:n<65536) (hx:x.length=32) (hxb:Bytes x) (hab:a≤b) (hb:b<256):
  Calls Tryz.prog 61 #[.agg (u8s I).toArray,.int .i64 (q:Int),.int .i64 (n:Int),.int .i64 (a:Int),.int .i64 (b:Int),.agg (u8s x).toArray] w λe w'=>e= .returned (.agg (u8s (walkN I q n a (b-a) x)).toArray)∧Below w.heap.size w w':=by
 have HI:=hid hI;have HIB:=hid hIb;have HX:=hid hx;have HXB:=hid hxb;have I0:=hid (((Blk.new w 44 (u8s I)).alloc (.cells (u8s x).toArray 23)).alloc (.cells (u8s z32).toArray 23));have X0:=hid ((Blk.new2 w (.cells (u8s I).toArray 44) 23 (u8s x)).alloc (.cells (u8s z32).toArray 23));have R0:=hid (blk_at (w:=(w.alloc (.cells (u8s I).toArray 44)).alloc (.cells (u8s x).toArray 23)) (g:=w.heap.size+1+1) (by simp) (.cells (u8s z32).toArray 23) 23 (u8s z32));have B0:=hid ((((Below.refl w.heap.size w).alloc (Nat.le_refl _) (.cells (u8s I).toArray 44)).alloc (by simp) (.cells (u8s x).toArray 23)).alloc (by simp;omega) (.cells (u8s z32).toArray 23));have n1:(0:Int)≤n:=by omega
 have n2:(n:Int)<65536:=by omega
 have a1:(a:Int)≤b:=by omega
 have b1:(b:Int)<256:=by omega
 clear hI hIb hx hxb
 go_enter Tryz.func61,Tryz.ntmps61
 go_wp2_with ((with_reducible refine load_blk 44 (.tmp 6) w.heap.size 44 (u8s I) _ rfl rfl ?_ Tryz.underlying44 ?_ ?_ ?_ ?_);exact I0.out;exact rfl;exact size16 _ HI.out;exact rfl)
 refine(front_t I q _ HI.out hq).mono ?_
 rintro e w1 ⟨v,rfl,f1,b1'⟩
 have s1:w.heap.size+3≤w1.heap.size:=by have:=b1'.size;simp at this;omega
 have O1:=hid (own_base f1 (base':=w.heap.size+1+1+1) (λk e=>by have:=(f1.lt k e).1;simpa using this));have B1:=hid (B0.out.trans (b1'.mono B0.out.size));have R1:=hid (R0.out.below b1' R0.out.lt);have X1:=hid (X0.out.below b1' X0.out.lt);clear f1 b1' B0 R0 X0 I0;go_wp2_with fail
 refine(refnum_t n 2 w1 (by decide) (by decide)).mono ?_
 rintro e w2 ⟨u,rfl,f2⟩
 obtain⟨A,c,rfl,hc,sr,b2⟩:=fresh_op f2;rw[beN_length] at hc ⊢;have O2:=hid (own_below O1.out b2);have S2:=hid sr;have B2:=hid (B1.out.trans (b2.mono B1.out.size));have R2:=hid (R1.out.below b2 R1.out.lt);have X2:=hid (X1.out.below b2 X1.out.lt);have s2:w.heap.size+3≤w2.heap.size:=Nat.le_trans s1 b2.size;clear f2 hc sr b2 O1 B1 R1 X1
 go_wp2_with ((with_reducible refine at_op (.call { callee:= .builtin .append,args:= #[.tmp 17,.tmp 20],argTypes:= #[25,25] }) rfl ?_);go_must (refine append_bytes (.tmp 17) (.tmp 20) 25 rfl rfl 5 Tryz.underlying25 byte_info (w.heap.size+1+1+1) v (frontN I q).length (frontN I q) (beN n 2) rfl O2.out A 2 c rfl (beN_length _ _) S2.out (by rw[frontN_length I q HI.out];omega) (by omega) ?_);intro v3 w3 e1 e2 e3)
 have ow:=e1.out;have bk:Below (w.heap.size+1+1+1) w2 w3:=(Below.refl _ w2).grown e2.out (by omega) (λk e=>(O2.out.lt k e).1);rw[frontN_length I q HI.out,show frontN I q++beN n 2=headN I q n from rfl,show 20+2=22 from rfl] at ow;obtain⟨g5,c5,rfl,hc5,lb5,lt5⟩:=row_open ow (by decide);have HH:=hid (headN_length I q n HI.out);have P3:=hid (show Sr w3 (some ⟨g5,0,none⟩) (headN I q n) from Sr.of_own ow);have B3:=hid (B2.out.trans (bk.mono (by omega)));have R3:=hid (R2.out.below bk (by omega));have X3:=hid (X2.out.below bk (by omega));clear ow bk e1 e2 e3 B2 R2 X2 O2 S2
 go_upto_region 3 with(fail)
 go_loopw [14] (λs wr=>∃ k:Nat,a+k≤b∧s= .int .i64 ((a+k:Nat):Int)∧Blk wr (w.heap.size+1) 23 (u8s (walkN I q n a k x))∧Blk wr (w.heap.size+1+1) 23 (u8s z32)∧Sr wr (some ⟨g5,0,none⟩) (headN I q n)∧Below w.heap.size w wr) (λs _=>b- (intOf s).toNat)
 case atStart=>exact⟨0,by omega,rfl,X3.out,R3.out,P3.out,B3.out⟩
 case round=>
  clear X3 R3 P3 B3;obtain⟨k,hk,rfl,x1,r1,p1,bw⟩:=hrel;obtain⟨j,hj⟩:∃ j,a+k=j:=⟨_,rfl⟩;have hjb:j≤b:=by omega
  rw[hj];have Y1:=hid (walkN_length I q n a k x HX.out);have Y2:=hid (walkN_bytes I q n a k x HIB.out HXB.out (by omega));have XS:=hid (show walkN I q n a (k+1) x=sum (headN I q n++[j]++walkN I q n a k x) by rw[walkN,hj,stepN]);have XE:=hid (λ(h:a+k=b)=>show walkN I q n a (b-a) x=walkN I q n a k x by rw[show b-a=k from by omega]);obtain⟨X,hX⟩:∃ X,walkN I q n a k x=X:=⟨_,rfl⟩;rw[hX] at Y1 Y2 XS x1;simp only[hX] at XE;have HJ:=hid hj;clear hX hk hj
  by_cases hlt:j<b
  ·have j1:(j:Int)<b:=by omega
   have j2:(j:Int)<256:=by omega
   have X4:=hid x1;have R4:=hid r1;have P4:=hid p1;have B4:=hid bw;clear x1 r1 p1 bw XE;have bx:=((Below.refl wr.heap.size wr).alloc (Nat.le_refl _) (.cells (u8s [j]).toArray 5)).alloc (by simp) (.cells (partsV [⟨some ⟨g5,0,none⟩,c5,headN I q n⟩,⟨some ⟨wr.heap.size,0,none⟩,1,[j]⟩,⟨some ⟨w.heap.size+1,0,none⟩,32,X⟩]).toArray 25);have B5:=hid (B4.out.trans (bx.mono B4.out.size));have R5:=hid (R4.out.below bx R4.out.lt);have X5:=hid (X4.out.below bx X4.out.lt);have P5:=hid (P4.out.below bx);have SX:=hid (show ∀ x∈([⟨some ⟨g5,0,none⟩,c5,headN I q n⟩,⟨some ⟨wr.heap.size,0,none⟩,1,[j]⟩,⟨some ⟨w.heap.size+1,0,none⟩,32,X⟩]:List Part),Sr ((wr.alloc (.cells (u8s [j]).toArray 5)).alloc (.cells (partsV [⟨some ⟨g5,0,none⟩,c5,headN I q n⟩,⟨some ⟨wr.heap.size,0,none⟩,1,[j]⟩,⟨some ⟨w.heap.size+1,0,none⟩,32,X⟩]).toArray 25)) x.A x.X by
    intro y hy;simp only[List.mem_cons,List.not_mem_nil,or_false] at hy;rcases hy with rfl |rfl |rfl
    ·exact P5.out
    ·exact(Sr.made [j] wr _ _).below ((Below.refl _ _).alloc (Nat.le_refl _) _)
    ·exact Sr.of_blk (rest:=[]) X5.out (by simp))
   clear bx;have LL:=hid (show Bytes (catX [⟨some ⟨g5,0,none⟩,c5,headN I q n⟩,⟨some ⟨wr.heap.size,0,none⟩,1,[j]⟩,⟨some ⟨w.heap.size+1,0,none⟩,32,X⟩])∧(catX [⟨some ⟨g5,0,none⟩,c5,headN I q n⟩,⟨some ⟨wr.heap.size,0,none⟩,1,[j]⟩,⟨some ⟨w.heap.size+1,0,none⟩,32,X⟩]).length≤200 by
    rw[cat_step];exact⟨app_bytes (app_bytes (headN_bytes _ _ _ HIB.out) (sl_bytes (by simp;omega))) Y2.out,by rw[List.length_append,List.length_append,HH.out,Y1.out,List.length_singleton];decide⟩)
   have HPV:=hid (show partsV [⟨some ⟨g5,0,none⟩,c5,headN I q n⟩,⟨some ⟨wr.heap.size,0,none⟩,1,[j]⟩,⟨some ⟨w.heap.size+1,0,none⟩,32,X⟩]=[.slice (some ⟨g5,0,none⟩) 22 c5,.slice (some ⟨wr.heap.size,0,none⟩) 1 1,.slice (some ⟨w.heap.size+1,0,none⟩) 32 32] by simp only[partsV,List.map_cons,List.map_nil,HH.out,Y1.out];rfl);rw[HPV.out] at B5 R5 X5 P5 SX;go_wp2_with fail
   refine(cat_t [⟨some ⟨g5,0,none⟩,c5,headN I q n⟩,⟨some ⟨wr.heap.size,0,none⟩,1,[j]⟩,⟨some ⟨w.heap.size+1,0,none⟩,32,X⟩] (wr.heap.size+1) 3 3 25 _ rfl ?_ ?_ ?_ (by decide)).mono ?_
   ·rw[HPV.out];exact Blk.new2 wr _ _ _
   ·exact SX.out
   ·exact Nat.le_trans LL.out.2 (by decide)
   rintro e wc ⟨vc,rfl,fc⟩
   obtain⟨Ac,cc,rfl,hcc,src,bc⟩:=fresh_op fc;have B6:=hid (B5.out.trans (bc.mono B5.out.size));have R6:=hid (R5.out.below bc R5.out.lt);have X6:=hid (X5.out.below bc X5.out.lt);have P6:=hid (P5.out.below bc);have SC:=hid src;clear fc hcc src bc B5 R5 X5 P5 SX B4 R4 X4 P4;have HCE:=hid (cat_step I X q n j (some ⟨g5,0,none⟩) (some ⟨wr.heap.size,0,none⟩) (some ⟨w.heap.size+1,0,none⟩) c5 1 32);obtain⟨T,hT⟩:∃ T,catX [⟨some ⟨g5,0,none⟩,c5,headN I q n⟩,⟨some ⟨wr.heap.size,0,none⟩,1,[j]⟩,⟨some ⟨w.heap.size+1,0,none⟩,32,X⟩]=T:=⟨_,rfl⟩;rw[hT] at SC LL HCE ⊢;clear hT;go_wp2_with fail
   refine(refsum_t T Ac T.length cc wc rfl SC.out LL.out.1 (by have:=LL.out.2;omega)).mono ?_
   rintro e wd ⟨rfl,bd⟩
   have B7:=hid (B6.out.trans (bd.mono B6.out.size));have R7:=hid (R6.out.below bd R6.out.lt);have X7:=hid (X6.out.below bd X6.out.lt);have P7:=hid (P6.out.below bd);have HSL:=hid (show(sum T).length=32 from rfl);rw[HCE.out,←XS.out] at HSL ⊢;obtain⟨S,hS⟩:∃ S,walkN I q n a (k+1) x=S:=⟨_,rfl⟩;rw[hS] at HSL ⊢;have HSS:=hid hS;have HXSL:=hid (show(u8s X).length=(u8s S).length by rw[u8s_length,u8s_length,Y1.out,HSL.out]);clear bd hS B6 R6 X6 P6
   go_wp2_with ((with_reducible refine store_blk 23 (.tmp 11) (.tmp 35) (w.heap.size+1) 23 (u8s X) (u8s S) rfl rfl ?_ ?_ ?_ ?_ ?_ ?_ ?_);exact X7.out;exact HXSL.out;exact size32 _ HSL.out;exact u8s_one _;exact rfl;exact rfl)
   go_roundw
   case rel=>
    refine⟨k+1,by have:=HJ.out;omega,?_,?_,R7.out.setRow_far (by omega) _,P7.out.setRow_far (λa e=>?_) _,below_setRow B7.out (by omega) _⟩
    ·rw[show a+(k+1)=j+1 from by have:=HJ.out;omega];go_num
    ·rw[HSS.out];exact X7.out.setRow _
    ·injection e with e;subst e;show g5≠w.heap.size+1;omega
   case measure=>simp[intOf];omega
  ·have hjb2:a+k=b:=by have:=HJ.out;omega
   have XE2:=hid (XE hjb2);have X4:=hid x1;have R4:=hid r1;have B4:=hid bw;have j1:¬ ((j:Int)<b):=by omega
   clear x1 r1 p1 bw hlt hjb2 XE XS
   go_wp2_with (first
    |((with_reducible refine load_blk 23 (.tmp 11) (w.heap.size+1) 23 (u8s X) _ rfl rfl ?_ Tryz.underlying23 ?_ ?_ ?_ ?_);exact X4.out;exact rfl;exact size32 _ Y1.out;exact rfl)
    |((with_reducible refine store_blk 23 (.tmp 12) (.tmp 36) (w.heap.size+1+1) 23 (u8s z32) (u8s X) rfl rfl ?_ ?_ ?_ ?_ ?_ ?_ ?_);exact R4.out;exact hash_len _ Y1.out;exact size32 _ Y1.out;exact u8s_one _;exact rfl;exact rfl))
   exact ret_blk (p:=12) (ty:=23) rfl rfl (w.heap.size+1+1) 23 _ _ rfl (R4.out.setRow _) Tryz.underlying23 rfl (size32 _ Y1.out) ⟨by rw[XE2.out],below_setRow B4.out (by omega) _⟩
set_option maxHeartbeats 4000000 in
theorem refsec_t (I seed:List Nat) (q n:Nat) (w:World) (hI:I.length=16) (hIb:Bytes I) (hs:seed.length=32) (hsb:Bytes seed) (hq:q<1000) (hn:n<65536):
  Calls Tryz.prog 62 #[.agg (u8s (I++seed)).toArray,.int .i64 (q:Int),.int .i64 (n:Int)] w λe w'=>e= .returned (.agg (u8s (secN I seed q n)).toArray)∧Below w.heap.size w w':=by
 have HI:=hid hI;have HIB:=hid hIb;have HS:=hid hs;have HSB:=hid hsb;have n1:(0:Int)≤n:=by omega
 have n2:(n:Int)<65536:=by omega
 have nw:IntKind.u64.wrap (n:Int)=(n:Int):=IntWalk.u64_in _ (by omega);clear hI hIb hs hsb
 go_enter Tryz.func62,Tryz.ntmps62
 go_upto_region 1 with(fail)
 refine world_is (λW=>Blk W w.heap.size 46 (u8s (I++seed))∧Blk W (w.heap.size+1) 23 (u8s z32)∧Below w.heap.size w W) ⟨(Blk.new w _ (u8s (I++seed))).alloc _,Blk.new2 w _ _ (u8s z32),((Below.refl _ _).alloc (Nat.le_refl _) _).alloc (by simp) _⟩ ?_
 rintro W ⟨k0,k1,bw⟩
 have SEC0:=hid k0.drew;have R0:=hid k1.drew;have B0:=hid bw.drew;have RT:=hid (λ(X:World) (h:X.rangeAt w.heap.size 0 (u8s (I++seed)))=>show X.rangeAt w.heap.size 0 (u8s I) from λj v hv=>h j v (by rw[u8s_app,List.getElem?_append_left (List.getElem?_eq_some_iff.1 hv).1];exact hv));have RS:=hid (λ(X:World) (h:Below W.drew.heap.size W.drew X)=>RT.out X (range_of_blk (SEC0.out.below h SEC0.out.lt)));have C0:=hid (Below.refl W.drew.heap.size W.drew);have r1:=RS.out _ C0.out;clear k0 k1 bw;refine wp_region_held (S:=λX=>X.rangeAt w.heap.size 0 (u8s I)) (by kernel_rfl) ?_;change wpAnyH _ _ _ _ _ _ _ _ W.drew
 generalize W.drew=V at *
 refine tka9 0 r1 ?_;refine tkg9 1 (v:= .agg (u8s I).toArray) (yieldsIf_load_mid (by kernel_rfl) 44 (.tmp 7) rfl w.heap.size 0 (by go_simp) (u8s I) _ (λ_ h=>h) Tryz.underlying44 rfl (size16 _ HI.out)) r1 ?_;refine tka9 2 r1 ?_;refine tka9 4 r1 ?_;refine tka9 5 r1 ?_;refine tka9 8 r1 ?_;refine tka9 9 r1 ?_;clear r1;refine wpAnyH_ready (rs:=[3,7]) (by kernel_rfl) (by simp) ?_;refine AllReadyH.cons rfl (λK hK=>?_) (AllReadyH.cons rfl (λK hK=>?_) AllReadyH.nil)
 ·skip
  go_simp;refine(front_t I q _ HI.out hq).mono ?_
  rintro e wa ⟨v,rfl,f1⟩
  obtain⟨A,a,rfl,ha,s1,bq⟩:=fresh_op f1;rw[frontN_length I q HI.out] at ha ⊢;have S1:=hid s1;have Ca:=hid (C0.out.trans (bq.mono C0.out.size))
  skip
  clear f1 ha s1 bq;refine hK.out _ _ (RS.out _ Ca.out) (λ_=>?_);clear hK K;refine wpAnyH_ready (rs:=[6,7]) (by kernel_rfl) (by simp) ?_;refine AllReadyH.cons rfl (λK hK=>?_) (AllReadyH.cons rfl (λK hK=>?_) AllReadyH.nil)
  ·skip
   go_simp;refine(refnum_t n 2 _ (by decide) (by decide)).mono ?_
   rintro e wb ⟨v,rfl,f1⟩
   obtain⟨D,d,rfl,hd,s2,bq⟩:=fresh_op f1;rw[beN_length] at hd ⊢;have S2:=hid s2;have Cb:=hid (Ca.out.trans (bq.mono Ca.out.size));have S1':=hid (S1.out.below bq)
   skip
   clear f1 hd s2 bq S1;have S1:=S1';clear S1';refine hK.out _ _ (RS.out _ Cb.out) (λ_=>?_);clear hK K;refine rd9 7 λK hK=>?_
   go_simp;have bq:=(Below.refl (wb).heap.size wb).alloc (Nat.le_refl _) (.cells #[.int .u8 255] 5);have S3:=hid (Sr.one 255 255 rfl wb 5 (0,0));have Cc:=hid (Cb.out.trans (bq.mono Cb.out.size));have S1':=hid (S1.out.below bq);have S2':=hid (S2.out.below bq);clear S1 S2;have S1:=S1';have S2:=S2';clear S1' S2';obtain⟨g7,hg7⟩:∃ g,(wb).heap.size=g:=⟨_,rfl⟩;rw[hg7] at S3 ⊢;clear bq hg7;refine hK.out _ _ (RS.out _ Cc.out) (λ_=>?_);clear hK K;refine rd9 10 λK hK=>?_
   go_simp;have bq:=(Below.refl ((wb.alloc (.cells #[.int .u8 255] 5))).heap.size (wb.alloc (.cells #[.int .u8 255] 5))).alloc (Nat.le_refl _) (.cells (partsV [⟨A,a,frontN I q⟩,⟨D,d,beN n 2⟩,⟨some ⟨g7,0,none⟩,1,[255]⟩,⟨some ⟨w.heap.size,16,none⟩,32,seed⟩]).toArray 25);have B9:=hid (Cc.out.trans (bq.mono Cc.out.size));have SEC9:=hid (SEC0.out.below B9.out SEC0.out.lt);have SX:=hid (show ∀ x∈([⟨A,a,frontN I q⟩,⟨D,d,beN n 2⟩,⟨some ⟨g7,0,none⟩,1,[255]⟩,⟨some ⟨w.heap.size,16,none⟩,32,seed⟩]:List Part),Sr (((wb.alloc (.cells #[.int .u8 255] 5))).alloc (.cells (partsV [⟨A,a,frontN I q⟩,⟨D,d,beN n 2⟩,⟨some ⟨g7,0,none⟩,1,[255]⟩,⟨some ⟨w.heap.size,16,none⟩,32,seed⟩]).toArray 25)) x.A x.X by
    intro y hy;simp only[List.mem_cons,List.not_mem_nil,or_false] at hy;rcases hy with rfl |rfl |rfl |rfl
    ·exact S1.out.below bq
    ·exact S2.out.below bq
    ·exact S3.out.below bq
    ·intro _;refine⟨w.heap.size,16,rfl,SEC9.out.lt,λq' hq'=>?_⟩;rw[SEC9.out.cell,u8s_app,List.getElem?_append_right (by rw[u8s_length,HI.out];omega),u8s_length,HI.out,show 16+q'-16=q' from by omega,u8s_get _ _ hq'])
   have HPV:=hid (show partsV [⟨A,a,frontN I q⟩,⟨D,d,beN n 2⟩,⟨some ⟨g7,0,none⟩,1,[255]⟩,⟨some ⟨w.heap.size,16,none⟩,32,seed⟩]=[.slice A 20 a,.slice D 2 d,.slice (some ⟨g7,0,none⟩) 1 1,.slice (some ⟨w.heap.size,16,none⟩) 32 32] by simp only[partsV,List.map_cons,List.map_nil,frontN_length I q HI.out,beN_length,HS.out];rfl);have BKP:=hid (blk_at (w:=(wb.alloc (.cells #[.int .u8 255] 5))) (g:=wb.heap.size+1) (by simp) (.cells (partsV [⟨A,a,frontN I q⟩,⟨D,d,beN n 2⟩,⟨some ⟨g7,0,none⟩,1,[255]⟩,⟨some ⟨w.heap.size,16,none⟩,32,seed⟩]).toArray 25) 25 (partsV [⟨A,a,frontN I q⟩,⟨D,d,beN n 2⟩,⟨some ⟨g7,0,none⟩,1,[255]⟩,⟨some ⟨w.heap.size,16,none⟩,32,seed⟩]));rw[HPV.out] at B9 SX BKP;clear bq;refine hK.out _ _ (RS.out _ B9.out) (λ_=>?_);clear hK K;refine rd9 11 λK hK=>?_
   go_simp;refine(cat_t [⟨A,a,frontN I q⟩,⟨D,d,beN n 2⟩,⟨some ⟨g7,0,none⟩,1,[255]⟩,⟨some ⟨w.heap.size,16,none⟩,32,seed⟩] (wb.heap.size+1) 4 4 25 _ rfl ?_ ?_ ?_ (by decide)).mono ?_
   ·rw[HPV.out];exact BKP.out
   ·exact SX.out
   ·rw[cat_sec,List.length_append,List.length_append,headN_length I q _ HI.out,HS.out];simp
   rintro e wc ⟨vc,rfl,fc⟩
   obtain⟨Ac,cc,rfl,hcc,src,bc⟩:=fresh_op fc;have BC:=hid (B9.out.trans (bc.mono B9.out.size));have SC:=hid src;clear fc hcc src bc;have HCE:=hid (cat_sec I seed q n A D (some ⟨g7,0,none⟩) (some ⟨w.heap.size,16,none⟩) a d 1 32);obtain⟨T,hT⟩:∃ T,catX [⟨A,a,frontN I q⟩,⟨D,d,beN n 2⟩,⟨some ⟨g7,0,none⟩,1,[255]⟩,⟨some ⟨w.heap.size,16,none⟩,32,seed⟩]=T:=⟨_,rfl⟩;rw[hT] at SC HCE ⊢;clear hT;have HTB:=hid (show Bytes T∧T.length≤200 by rw[HCE.out];exact⟨app_bytes (app_bytes (headN_bytes _ _ _ HIB.out) (sl_bytes (by decide))) HSB.out,by rw[List.length_append,List.length_append,headN_length I q _ HI.out,HS.out];simp⟩);refine hK.out _ _ (RS.out _ BC.out) (λ_=>?_);clear hK K;refine rd9 12 λK hK=>?_
   go_simp;refine(refsum_t T Ac T.length cc wc rfl SC.out HTB.out.1 (by have:=HTB.out.2;omega)).mono ?_
   rintro e wd ⟨rfl,bd⟩
   have BD:=hid (BC.out.trans (bd.mono BC.out.size));have HSL:=hid (show(sum T).length=32 from rfl);have HE:=hid (show sum T=secN I seed q n by rw[HCE.out];rfl);rw[HE.out] at HSL ⊢;obtain⟨S,hS⟩:∃ S,secN I seed q n=S:=⟨_,rfl⟩;rw[hS] at HSL ⊢;have HSS:=hid hS;clear bd hS;refine hK.out _ _ (RS.out _ BD.out) (λ_=>?_);clear hK K;refine rdw9 13 λK hK=>?_
   have RD:=hid (R0.out.below BD.out R0.out.lt);refine wstore_part 23 (.tmp 6) (.tmp 19) (w.heap.size+1) 0 23 [] (u8s z32) [] (u8s S) rfl (by rw[List.nil_append,List.append_nil];exact RD.out) rfl (hash_len _ HSL.out) (size32 _ HSL.out) (u8s_one _) rfl rfl ?_;intro wz a1 a2 a3;have RZ:=hid (show Blk wz (w.heap.size+1) 23 (u8s S) by have:=a1.out;rwa [List.nil_append,List.append_nil] at this);have bz:=B0.out.trans (BD.out.mono B0.out.size);have BZ:=hid (bz.trans (a2.out.below (by omega) bz.size));have sz:=range_of_blk ((SEC0.out.below BD.out SEC0.out.lt).but a2.out (by have:=RD.out.lt;omega) (by omega));refine hK.out _ _ (RT.out _ sz) (λ_=>?_);clear hK K;refine wpAnyH_done (by kernel_rfl) ?_ _;go_simp;go_wp2_with fail
   exact ret_blk (p:=6) (ty:=23) rfl rfl (w.heap.size+1) 23 _ _ rfl RZ.out Tryz.underlying23 rfl (size32 _ HSL.out) ⟨by rw[HSS.out],BZ.out⟩
  ·skip
   go_simp;have bq:=(Below.refl (wa).heap.size wa).alloc (Nat.le_refl _) (.cells #[.int .u8 255] 5);have S3:=hid (Sr.one 255 255 rfl wa 5 (0,0));have Cb:=hid (Ca.out.trans (bq.mono Ca.out.size));have S1':=hid (S1.out.below bq);clear S1;have S1:=S1';clear S1';obtain⟨g7,hg7⟩:∃ g,(wa).heap.size=g:=⟨_,rfl⟩;rw[hg7] at S3 ⊢;clear bq hg7;refine hK.out _ _ (RS.out _ Cb.out) (λ_=>?_);clear hK K;refine rd9 6 λK hK=>?_
   go_simp;refine(refnum_t n 2 _ (by decide) (by decide)).mono ?_
   rintro e wc' ⟨v,rfl,f1⟩
   obtain⟨D,d,rfl,hd,s2,bq⟩:=fresh_op f1;rw[beN_length] at hd ⊢;have S2:=hid s2;have Cc:=hid (Cb.out.trans (bq.mono Cb.out.size));have S1':=hid (S1.out.below bq);have S3':=hid (S3.out.below bq);clear S3;have S3:=S3';clear S3';clear f1 hd s2 bq S1;have S1:=S1';clear S1';refine hK.out _ _ (RS.out _ Cc.out) (λ_=>?_);clear hK K;refine rd9 10 λK hK=>?_
   go_simp;have bq:=(Below.refl (wc').heap.size wc').alloc (Nat.le_refl _) (.cells (partsV [⟨A,a,frontN I q⟩,⟨D,d,beN n 2⟩,⟨some ⟨g7,0,none⟩,1,[255]⟩,⟨some ⟨w.heap.size,16,none⟩,32,seed⟩]).toArray 25);have B9:=hid (Cc.out.trans (bq.mono Cc.out.size));have SEC9:=hid (SEC0.out.below B9.out SEC0.out.lt);have SX:=hid (show ∀ x∈([⟨A,a,frontN I q⟩,⟨D,d,beN n 2⟩,⟨some ⟨g7,0,none⟩,1,[255]⟩,⟨some ⟨w.heap.size,16,none⟩,32,seed⟩]:List Part),Sr ((wc').alloc (.cells (partsV [⟨A,a,frontN I q⟩,⟨D,d,beN n 2⟩,⟨some ⟨g7,0,none⟩,1,[255]⟩,⟨some ⟨w.heap.size,16,none⟩,32,seed⟩]).toArray 25)) x.A x.X by
    intro y hy;simp only[List.mem_cons,List.not_mem_nil,or_false] at hy;rcases hy with rfl |rfl |rfl |rfl
    ·exact S1.out.below bq
    ·exact S2.out.below bq
    ·exact S3.out.below bq
    ·intro _;refine⟨w.heap.size,16,rfl,SEC9.out.lt,λq' hq'=>?_⟩;rw[SEC9.out.cell,u8s_app,List.getElem?_append_right (by rw[u8s_length,HI.out];omega),u8s_length,HI.out,show 16+q'-16=q' from by omega,u8s_get _ _ hq'])
   have HPV:=hid (show partsV [⟨A,a,frontN I q⟩,⟨D,d,beN n 2⟩,⟨some ⟨g7,0,none⟩,1,[255]⟩,⟨some ⟨w.heap.size,16,none⟩,32,seed⟩]=[.slice A 20 a,.slice D 2 d,.slice (some ⟨g7,0,none⟩) 1 1,.slice (some ⟨w.heap.size,16,none⟩) 32 32] by simp only[partsV,List.map_cons,List.map_nil,frontN_length I q HI.out,beN_length,HS.out];rfl);have BKP:=hid (blk_at (w:=wc') (g:=wc'.heap.size) (by simp) (.cells (partsV [⟨A,a,frontN I q⟩,⟨D,d,beN n 2⟩,⟨some ⟨g7,0,none⟩,1,[255]⟩,⟨some ⟨w.heap.size,16,none⟩,32,seed⟩]).toArray 25) 25 (partsV [⟨A,a,frontN I q⟩,⟨D,d,beN n 2⟩,⟨some ⟨g7,0,none⟩,1,[255]⟩,⟨some ⟨w.heap.size,16,none⟩,32,seed⟩]));rw[HPV.out] at B9 SX BKP;clear bq;refine hK.out _ _ (RS.out _ B9.out) (λ_=>?_);clear hK K;refine rd9 11 λK hK=>?_
   go_simp;refine(cat_t [⟨A,a,frontN I q⟩,⟨D,d,beN n 2⟩,⟨some ⟨g7,0,none⟩,1,[255]⟩,⟨some ⟨w.heap.size,16,none⟩,32,seed⟩] (wc'.heap.size) 4 4 25 _ rfl ?_ ?_ ?_ (by decide)).mono ?_
   ·rw[HPV.out];exact BKP.out
   ·exact SX.out
   ·rw[cat_sec,List.length_append,List.length_append,headN_length I q _ HI.out,HS.out];simp
   rintro e wc ⟨vc,rfl,fc⟩
   obtain⟨Ac,cc,rfl,hcc,src,bc⟩:=fresh_op fc;have BC:=hid (B9.out.trans (bc.mono B9.out.size));have SC:=hid src;clear fc hcc src bc;have HCE:=hid (cat_sec I seed q n A D (some ⟨g7,0,none⟩) (some ⟨w.heap.size,16,none⟩) a d 1 32);obtain⟨T,hT⟩:∃ T,catX [⟨A,a,frontN I q⟩,⟨D,d,beN n 2⟩,⟨some ⟨g7,0,none⟩,1,[255]⟩,⟨some ⟨w.heap.size,16,none⟩,32,seed⟩]=T:=⟨_,rfl⟩;rw[hT] at SC HCE ⊢;clear hT;have HTB:=hid (show Bytes T∧T.length≤200 by rw[HCE.out];exact⟨app_bytes (app_bytes (headN_bytes _ _ _ HIB.out) (sl_bytes (by decide))) HSB.out,by rw[List.length_append,List.length_append,headN_length I q _ HI.out,HS.out];simp⟩);refine hK.out _ _ (RS.out _ BC.out) (λ_=>?_);clear hK K;refine rd9 12 λK hK=>?_
   go_simp;refine(refsum_t T Ac T.length cc wc rfl SC.out HTB.out.1 (by have:=HTB.out.2;omega)).mono ?_
   rintro e wd ⟨rfl,bd⟩
   have BD:=hid (BC.out.trans (bd.mono BC.out.size));have HSL:=hid (show(sum T).length=32 from rfl);have HE:=hid (show sum T=secN I seed q n by rw[HCE.out];rfl);rw[HE.out] at HSL ⊢;obtain⟨S,hS⟩:∃ S,secN I seed q n=S:=⟨_,rfl⟩;rw[hS] at HSL ⊢;have HSS:=hid hS;clear bd hS;refine hK.out _ _ (RS.out _ BD.out) (λ_=>?_);clear hK K;refine rdw9 13 λK hK=>?_
   have RD:=hid (R0.out.below BD.out R0.out.lt);refine wstore_part 23 (.tmp 6) (.tmp 19) (w.heap.size+1) 0 23 [] (u8s z32) [] (u8s S) rfl (by rw[List.nil_append,List.append_nil];exact RD.out) rfl (hash_len _ HSL.out) (size32 _ HSL.out) (u8s_one _) rfl rfl ?_;intro wz a1 a2 a3;have RZ:=hid (show Blk wz (w.heap.size+1) 23 (u8s S) by have:=a1.out;rwa [List.nil_append,List.append_nil] at this);have bz:=B0.out.trans (BD.out.mono B0.out.size);have BZ:=hid (bz.trans (a2.out.below (by omega) bz.size));have sz:=range_of_blk ((SEC0.out.below BD.out SEC0.out.lt).but a2.out (by have:=RD.out.lt;omega) (by omega));refine hK.out _ _ (RT.out _ sz) (λ_=>?_);clear hK K;refine wpAnyH_done (by kernel_rfl) ?_ _;go_simp;go_wp2_with fail
   exact ret_blk (p:=6) (ty:=23) rfl rfl (w.heap.size+1) 23 _ _ rfl RZ.out Tryz.underlying23 rfl (size32 _ HSL.out) ⟨by rw[HSS.out],BZ.out⟩
 ·skip
  go_simp;have bq:=(Below.refl (V).heap.size V).alloc (Nat.le_refl _) (.cells #[.int .u8 255] 5);have S3:=hid (Sr.one 255 255 rfl V 5 (0,0));have Ca:=hid (C0.out.trans (bq.mono C0.out.size))
  skip
  obtain⟨g7,hg7⟩:∃ g,(V).heap.size=g:=⟨_,rfl⟩;rw[hg7] at S3 ⊢;clear bq hg7;refine hK.out _ _ (RS.out _ Ca.out) (λ_=>?_);clear hK K;refine rd9 3 λK hK=>?_
  go_simp;refine(front_t I q _ HI.out hq).mono ?_
  rintro e wb ⟨v,rfl,f1⟩
  obtain⟨A,a,rfl,ha,s1,bq⟩:=fresh_op f1;rw[frontN_length I q HI.out] at ha ⊢;have S1:=hid s1;have Cb:=hid (Ca.out.trans (bq.mono Ca.out.size));have S3':=hid (S3.out.below bq);clear S3;have S3:=S3';clear S3';clear f1 ha s1 bq;refine hK.out _ _ (RS.out _ Cb.out) (λ_=>?_);clear hK K;refine rd9 6 λK hK=>?_
  go_simp;refine(refnum_t n 2 _ (by decide) (by decide)).mono ?_
  rintro e wc' ⟨v,rfl,f1⟩
  obtain⟨D,d,rfl,hd,s2,bq⟩:=fresh_op f1;rw[beN_length] at hd ⊢;have S2:=hid s2;have Cc:=hid (Cb.out.trans (bq.mono Cb.out.size));have S1':=hid (S1.out.below bq);have S3':=hid (S3.out.below bq);clear S3;have S3:=S3';clear S3';clear f1 hd s2 bq S1;have S1:=S1';clear S1';refine hK.out _ _ (RS.out _ Cc.out) (λ_=>?_);clear hK K;refine rd9 10 λK hK=>?_
  go_simp;have bq:=(Below.refl (wc').heap.size wc').alloc (Nat.le_refl _) (.cells (partsV [⟨A,a,frontN I q⟩,⟨D,d,beN n 2⟩,⟨some ⟨g7,0,none⟩,1,[255]⟩,⟨some ⟨w.heap.size,16,none⟩,32,seed⟩]).toArray 25);have B9:=hid (Cc.out.trans (bq.mono Cc.out.size));have SEC9:=hid (SEC0.out.below B9.out SEC0.out.lt);have SX:=hid (show ∀ x∈([⟨A,a,frontN I q⟩,⟨D,d,beN n 2⟩,⟨some ⟨g7,0,none⟩,1,[255]⟩,⟨some ⟨w.heap.size,16,none⟩,32,seed⟩]:List Part),Sr ((wc').alloc (.cells (partsV [⟨A,a,frontN I q⟩,⟨D,d,beN n 2⟩,⟨some ⟨g7,0,none⟩,1,[255]⟩,⟨some ⟨w.heap.size,16,none⟩,32,seed⟩]).toArray 25)) x.A x.X by
   intro y hy;simp only[List.mem_cons,List.not_mem_nil,or_false] at hy;rcases hy with rfl |rfl |rfl |rfl
   ·exact S1.out.below bq
   ·exact S2.out.below bq
   ·exact S3.out.below bq
   ·intro _;refine⟨w.heap.size,16,rfl,SEC9.out.lt,λq' hq'=>?_⟩;rw[SEC9.out.cell,u8s_app,List.getElem?_append_right (by rw[u8s_length,HI.out];omega),u8s_length,HI.out,show 16+q'-16=q' from by omega,u8s_get _ _ hq'])
  have HPV:=hid (show partsV [⟨A,a,frontN I q⟩,⟨D,d,beN n 2⟩,⟨some ⟨g7,0,none⟩,1,[255]⟩,⟨some ⟨w.heap.size,16,none⟩,32,seed⟩]=[.slice A 20 a,.slice D 2 d,.slice (some ⟨g7,0,none⟩) 1 1,.slice (some ⟨w.heap.size,16,none⟩) 32 32] by simp only[partsV,List.map_cons,List.map_nil,frontN_length I q HI.out,beN_length,HS.out];rfl);have BKP:=hid (blk_at (w:=wc') (g:=wc'.heap.size) (by simp) (.cells (partsV [⟨A,a,frontN I q⟩,⟨D,d,beN n 2⟩,⟨some ⟨g7,0,none⟩,1,[255]⟩,⟨some ⟨w.heap.size,16,none⟩,32,seed⟩]).toArray 25) 25 (partsV [⟨A,a,frontN I q⟩,⟨D,d,beN n 2⟩,⟨some ⟨g7,0,none⟩,1,[255]⟩,⟨some ⟨w.heap.size,16,none⟩,32,seed⟩]));rw[HPV.out] at B9 SX BKP;clear bq;refine hK.out _ _ (RS.out _ B9.out) (λ_=>?_);clear hK K;refine rd9 11 λK hK=>?_
  go_simp;refine(cat_t [⟨A,a,frontN I q⟩,⟨D,d,beN n 2⟩,⟨some ⟨g7,0,none⟩,1,[255]⟩,⟨some ⟨w.heap.size,16,none⟩,32,seed⟩] (wc'.heap.size) 4 4 25 _ rfl ?_ ?_ ?_ (by decide)).mono ?_
  ·rw[HPV.out];exact BKP.out
  ·exact SX.out
  ·rw[cat_sec,List.length_append,List.length_append,headN_length I q _ HI.out,HS.out];simp
  rintro e wc ⟨vc,rfl,fc⟩
  obtain⟨Ac,cc,rfl,hcc,src,bc⟩:=fresh_op fc;have BC:=hid (B9.out.trans (bc.mono B9.out.size));have SC:=hid src;clear fc hcc src bc;have HCE:=hid (cat_sec I seed q n A D (some ⟨g7,0,none⟩) (some ⟨w.heap.size,16,none⟩) a d 1 32);obtain⟨T,hT⟩:∃ T,catX [⟨A,a,frontN I q⟩,⟨D,d,beN n 2⟩,⟨some ⟨g7,0,none⟩,1,[255]⟩,⟨some ⟨w.heap.size,16,none⟩,32,seed⟩]=T:=⟨_,rfl⟩;rw[hT] at SC HCE ⊢;clear hT;have HTB:=hid (show Bytes T∧T.length≤200 by rw[HCE.out];exact⟨app_bytes (app_bytes (headN_bytes _ _ _ HIB.out) (sl_bytes (by decide))) HSB.out,by rw[List.length_append,List.length_append,headN_length I q _ HI.out,HS.out];simp⟩);refine hK.out _ _ (RS.out _ BC.out) (λ_=>?_);clear hK K;refine rd9 12 λK hK=>?_
  go_simp;refine(refsum_t T Ac T.length cc wc rfl SC.out HTB.out.1 (by have:=HTB.out.2;omega)).mono ?_
  rintro e wd ⟨rfl,bd⟩
  have BD:=hid (BC.out.trans (bd.mono BC.out.size));have HSL:=hid (show(sum T).length=32 from rfl);have HE:=hid (show sum T=secN I seed q n by rw[HCE.out];rfl);rw[HE.out] at HSL ⊢;obtain⟨S,hS⟩:∃ S,secN I seed q n=S:=⟨_,rfl⟩;rw[hS] at HSL ⊢;have HSS:=hid hS;clear bd hS;refine hK.out _ _ (RS.out _ BD.out) (λ_=>?_);clear hK K;refine rdw9 13 λK hK=>?_
  have RD:=hid (R0.out.below BD.out R0.out.lt);refine wstore_part 23 (.tmp 6) (.tmp 19) (w.heap.size+1) 0 23 [] (u8s z32) [] (u8s S) rfl (by rw[List.nil_append,List.append_nil];exact RD.out) rfl (hash_len _ HSL.out) (size32 _ HSL.out) (u8s_one _) rfl rfl ?_;intro wz a1 a2 a3;have RZ:=hid (show Blk wz (w.heap.size+1) 23 (u8s S) by have:=a1.out;rwa [List.nil_append,List.append_nil] at this);have bz:=B0.out.trans (BD.out.mono B0.out.size);have BZ:=hid (bz.trans (a2.out.below (by omega) bz.size));have sz:=range_of_blk ((SEC0.out.below BD.out SEC0.out.lt).but a2.out (by have:=RD.out.lt;omega) (by omega));refine hK.out _ _ (RT.out _ sz) (λ_=>?_);clear hK K;refine wpAnyH_done (by kernel_rfl) ?_ _;go_simp;go_wp2_with fail
  exact ret_blk (p:=6) (ty:=23) rfl rfl (w.heap.size+1) 23 _ _ rfl RZ.out Tryz.underlying23 rfl (size32 _ HSL.out) ⟨by rw[HSS.out],BZ.out⟩
theorem kd_w8b (i:Nat):(kd i).w≤8∧1≤(kd i).w:=by
 rcases i with _ |_ |_ |i<;>simp[kd]
theorem own_kept_blk {w w':World} {base:Nat} {e t:TypeId} {size n g:Nat} {v:Value} {xs cs:List Value} (h:w.ownsRow base e size v n xs) (hg:w.grownBy w' v.ownBlock) (hb:Blk w g t cs) (hne:e≠t):Blk w' g t cs:=
 (hg.block _ hb.lt (λq=>own_apart h hb hne q.symm)).trans hb
theorem tip_of (I seed:List Nat) (q i k:Nat):walkN I q k 0 (2 ^ (kd i).w-1-0) (secN I seed q k)=tipN I seed q i k:=rfl
set_option maxHeartbeats 4000000 in
theorem refpub_t (I seed:List Nat) (q i:Nat) (w:World) (hI:I.length=16) (hIb:Bytes I) (hs:seed.length=32) (hsb:Bytes seed) (hq:q<1000) (hi:i<4):
  Calls Tryz.prog 30 #[.agg (u8s (I++seed)).toArray,.int .i64 (q:Int),.int .i64 ((kd i).w:Int)] w λe w'=>e= .returned (.agg (u8s (pubN I seed q i)).toArray)∧Below w.heap.size w w':=by
 have HI:=hid hI;have HIB:=hid hIb;have HS:=hid hs;have HSB:=hid hsb;have HIS:=hid (show(I++seed).length=48 by rw[List.length_append,hI,hs]);have hp9:=kd_p i hi;have hw8:=kd_w8b i;have htop:=top_lt i hi;have CH:=hid (λW=>refchains_t i hi W);have TOK:=hid (λj=>tipN_ok I seed q i j hi hIb hsb);have PUB:=hid (show pubN I seed q i=pubOf I q (catN (tipN I seed q i) (kd i).p) from rfl);have ALO0:=hid (λk (hk:k<65536) W=>along_t I (secN I seed q k) q k 0 (2 ^ (kd i).w-1) W hI hIb hq hk rfl (secN_bytes I seed q k hIb hsb) (Nat.zero_le _) htop);have TIP:=hid (λk=>tip_of I seed q i k);obtain⟨p,hpp⟩:∃ p,(kd i).p=p:=⟨_,rfl⟩;obtain⟨v,hv⟩:∃ v,(kd i).w=v:=⟨_,rfl⟩;rw[hpp] at hp9 CH PUB;rw[hv] at hw8 CH htop ALO0 TIP;rw[hv];obtain⟨top,htp⟩:∃ t,2 ^ v-1=t:=⟨_,rfl⟩;rw[htp] at htop ALO0 TIP;have hpos:1≤2 ^ v:=Nat.one_le_two_pow;have e0:IntKind.u64.wrap (v:Int)=(v:Int):=IntWalk.u64_in _ (by omega);have e1:IntKind.i64.wrap ((2:Int) ^ v)=((top+1:Nat):Int):=by
  rw[show(2:Int) ^ v=((top+1:Nat):Int) from by rw[←htp,Nat.sub_add_cancel hpos];simp];exact IntWalk.i64_in _ (by omega)
 have e2:IntKind.i64.wrap (top:Int)=(top:Int):=IntWalk.i64_in _ (by omega);have E0:=hid e0;have E1:=hid e1;have E2:=hid e2;have RT:=hid (λ(X:World) (h:X.rangeAt w.heap.size 0 (u8s (I++seed)))=>show X.rangeAt w.heap.size 0 (u8s I) from λj v hv=>h j v (by rw[u8s_app,List.getElem?_append_left (List.getElem?_eq_some_iff.1 hv).1];exact hv));clear hI hIb hs hsb hpp hv htp hpos e0 e1 e2
 go_enter Tryz.func30,Tryz.ntmps30
 go_upto_region 3 with(fail)
 refine world_is (λW=>Blk W w.heap.size 46 (u8s (I++seed))∧Blk W (w.heap.size+1) 23 (u8s z32)∧Below w.heap.size w W) ⟨(Blk.new w _ (u8s (I++seed))).alloc _,Blk.new2 w _ _ (u8s z32),((Below.refl _ _).alloc (Nat.le_refl _) _).alloc (by simp) _⟩ ?_
 rintro W ⟨k0,k1,bw⟩
 have K0:=hid k0;have K1:=hid k1;have BW:=hid bw;clear k0 k1 bw
 go_loopw [7,8] (λs x wr=>∃ (k:Nat) (A:Option Addr) (c:Nat),k≤p∧x= .int .i64 k∧s= .slice A (32 * k) c∧wr.ownsRow w.heap.size 5 1 s (32 * k) (u8s (catN (tipN I seed q i) k))∧Blk wr w.heap.size 46 (u8s (I++seed))∧Blk wr (w.heap.size+1) 23 (u8s z32)∧Below w.heap.size w wr) (λ_ x _=>p- (intOf x).toNat)
 case atStart=>exact⟨0,none,0,by omega,rfl,rfl,nil_own _ _,K0.out,K1.out,BW.out⟩
 case round=>
  clear K0 K1 BW;obtain⟨k,A,c,hk,rfl,rfl,oo,k0,k1,bw⟩:=hrel
  by_cases hlt:k<p
  ·have i1:(k:Int)< (p:Int):=by omega
   have SEC:=hid (λW=>refsec_t I seed q k W HI.out HIB.out HS.out HSB.out hq (by omega));have ALO:=hid (λW=>ALO0.out k (by omega) W);have TI:=hid (TIP.out k);have TK:=hid (TOK.out k);obtain⟨X,hX⟩:∃ X,secN I seed q k=X:=⟨_,rfl⟩;rw[hX] at SEC ALO TI;simp only[Nat.sub_zero] at ALO TI;obtain⟨T,hT⟩:∃ T,walkN I q k 0 top X=T:=⟨_,rfl⟩;rw[hT] at ALO TI;have HT32:=hid (show T.length=32 by rw[TI.out];exact TK.out.1);have OO:=hid oo;have K0:=hid k0;have K1:=hid k1;have BW:=hid bw;clear oo k0 k1 bw hX hT;go_wp2_with fail
   refine(CH.out _).mono ?_
   rintro e w2 ⟨rfl,rfl⟩
   go_upto_region 5 with(fail)
   go_cut [9] (λs9 wx=>∃ g:Nat,s9= .pointer (some ⟨g,0,none⟩)∧Blk wx g 23 (u8s T)∧Below wr.heap.size wr wx)
   case first=>
    have e0:=E0.out;have e1:=E1.out;have e2:=E2.out;have V0:=hid (K0.out.below (Below.refl _ _).drew K0.out.lt);refine wp_region_held (S:=λX=>X.rangeAt w.heap.size 0 (u8s (I++seed))) (by kernel_rfl) ?_;change wpAnyH _ _ _ _ _ _ _ _ wr.drew;have BV:=hid ((Below.refl wr.heap.size wr).drew);obtain⟨V,hV⟩:∃ V,wr.drew=V:=⟨_,rfl⟩;rw[hV] at V0 BV ⊢;have HVS:=hid (show V.heap.size=wr.heap.size by rw[←hV];rfl);clear hV;have RS:=hid (λ(X:World) (h:Below V.heap.size V X)=>range_of_blk (V0.out.below h V0.out.lt));have C0:=hid (Below.refl V.heap.size V);have r1:=RS.out _ C0.out;refine tka9 0 r1 ?_;refine tkg9 1 (v:= .agg (u8s I).toArray) (yieldsIf_load_mid (by kernel_rfl) 44 (.tmp 16) rfl w.heap.size 0 (by go_simp) (u8s I) _ (λ_ h=>RT.out _ h) Tryz.underlying44 rfl (size16 _ HI.out)) r1 ?_;refine tka9 2 r1 ?_;refine tka9 3 r1 ?_;refine tka9 4 r1 ?_;refine tka9 5 r1 ?_;refine tka9 6 r1 ?_;refine tka9 7 r1 ?_;refine tkg9 8 (v:= .agg (u8s (I++seed)).toArray) (yieldsIf_load_mid (by kernel_rfl) 46 (.tmp 3) rfl w.heap.size 0 (by go_simp) (u8s (I++seed)) _ (λ_ h=>h) Tryz.underlying46 rfl (size48 _ HIS.out)) r1 ?_;refine tka9 9 r1 ?_;refine tka9 10 r1 ?_;clear r1;refine wpAnyH_ready (rs:=[11,13]) (by kernel_rfl) (by simp) ?_;refine AllReadyH.cons rfl (λK hK=>?_) (AllReadyH.cons rfl (λK hK=>?_) AllReadyH.nil)
    ·skip
     go_simp;refine(SEC.out _).mono ?_
     rintro e wa ⟨rfl,bq⟩
     have Ca:=hid (C0.out.trans (bq.mono C0.out.size))
     skip
     clear bq;refine hK.out _ _ (RS.out _ Ca.out) (λ_=>?_);clear hK K;refine wpAnyH_ready (rs:=[12,13]) (by kernel_rfl) (by simp) ?_;refine AllReadyH.cons rfl (λK hK=>?_) (AllReadyH.cons rfl (λK hK=>?_) AllReadyH.nil)
     ·skip
      go_simp;refine(ALO.out _).mono ?_
      rintro e wb ⟨rfl,bq⟩
      have Cb:=hid (Ca.out.trans (bq.mono Ca.out.size))
      skip
      clear bq;refine hK.out _ _ (RS.out _ Cb.out) (λ_=>?_);clear hK K;refine rd9 13 λK hK=>?_
      go_simp;have bq:=(Below.refl (wb).heap.size wb).alloc (Nat.le_refl _) (.cells (u8s z32).toArray 23);have Z0:=hid (Blk.new wb 23 (u8s z32));have Cc:=hid (Cb.out.trans (bq.mono Cb.out.size));have gz0:V.heap.size≤(wb).heap.size:=Cb.out.size;obtain⟨gz,hgz⟩:∃ g,(wb).heap.size=g:=⟨_,rfl⟩;have gz1:V.heap.size≤gz:=by rw[←hgz];exact gz0
      rw[hgz] at Z0 ⊢;clear bq hgz gz0;refine hK.out _ _ (RS.out _ Cc.out) (λ_=>?_);clear hK K;refine rdw9 14 λK hK=>?_
      refine wstore_part 23 (.tmp 9) (.tmp 28) gz 0 23 [] (u8s z32) [] (u8s T) rfl (by rw[List.nil_append,List.append_nil];exact Z0.out) rfl (hash_len _ HT32.out) (size32 _ HT32.out) (u8s_one _) rfl rfl ?_;intro wz a1 a2 a3;have DZ0:=hid (show Blk wz gz 23 (u8s T) by have:=a1.out;rwa [List.nil_append,List.append_nil] at this);have CZ:=hid (show Below V.heap.size V wz from Cc.out.trans (a2.out.below gz1 Cc.out.size));refine hK.out _ _ (RS.out _ CZ.out) (λ_=>?_);clear hK K;refine wpAnyH_done (by kernel_rfl) ?_ _;go_simp;go_wp2_with fail
      go_meet
      exact⟨gz,rfl,DZ0.out,BV.out.trans (CZ.out.mono BV.out.size)⟩
     ·skip
      go_simp;have bq:=(Below.refl (wa).heap.size wa).alloc (Nat.le_refl _) (.cells (u8s z32).toArray 23);have Z0:=hid (Blk.new wa 23 (u8s z32));have Cb:=hid (Ca.out.trans (bq.mono Ca.out.size));have gz0:V.heap.size≤(wa).heap.size:=Ca.out.size;obtain⟨gz,hgz⟩:∃ g,(wa).heap.size=g:=⟨_,rfl⟩;have gz1:V.heap.size≤gz:=by rw[←hgz];exact gz0
      rw[hgz] at Z0 ⊢;clear bq hgz gz0;refine hK.out _ _ (RS.out _ Cb.out) (λ_=>?_);clear hK K;refine rd9 12 λK hK=>?_
      go_simp;refine(ALO.out _).mono ?_
      rintro e wb ⟨rfl,bq⟩
      have Cc:=hid (Cb.out.trans (bq.mono Cb.out.size));have Z1:=hid (Z0.out.below bq Z0.out.lt);clear Z0;have Z0:=Z1;clear Z1;clear bq;refine hK.out _ _ (RS.out _ Cc.out) (λ_=>?_);clear hK K;refine rdw9 14 λK hK=>?_
      refine wstore_part 23 (.tmp 9) (.tmp 28) gz 0 23 [] (u8s z32) [] (u8s T) rfl (by rw[List.nil_append,List.append_nil];exact Z0.out) rfl (hash_len _ HT32.out) (size32 _ HT32.out) (u8s_one _) rfl rfl ?_;intro wz a1 a2 a3;have DZ0:=hid (show Blk wz gz 23 (u8s T) by have:=a1.out;rwa [List.nil_append,List.append_nil] at this);have CZ:=hid (show Below V.heap.size V wz from Cc.out.trans (a2.out.below gz1 Cc.out.size));refine hK.out _ _ (RS.out _ CZ.out) (λ_=>?_);clear hK K;refine wpAnyH_done (by kernel_rfl) ?_ _;go_simp;go_wp2_with fail
      go_meet
      exact⟨gz,rfl,DZ0.out,BV.out.trans (CZ.out.mono BV.out.size)⟩
    ·skip
     go_simp;have bq:=(Below.refl (V).heap.size V).alloc (Nat.le_refl _) (.cells (u8s z32).toArray 23);have Z0:=hid (Blk.new V 23 (u8s z32));have Ca:=hid (C0.out.trans (bq.mono C0.out.size));have gz0:V.heap.size≤(V).heap.size:=C0.out.size;obtain⟨gz,hgz⟩:∃ g,(V).heap.size=g:=⟨_,rfl⟩;have gz1:V.heap.size≤gz:=by rw[←hgz];exact gz0
     rw[hgz] at Z0 ⊢;clear bq hgz gz0;refine hK.out _ _ (RS.out _ Ca.out) (λ_=>?_);clear hK K;refine rd9 11 λK hK=>?_
     go_simp;refine(SEC.out _).mono ?_
     rintro e wb ⟨rfl,bq⟩
     have Cb:=hid (Ca.out.trans (bq.mono Ca.out.size));have Z1:=hid (Z0.out.below bq Z0.out.lt);clear Z0;have Z0:=Z1;clear Z1;clear bq;refine hK.out _ _ (RS.out _ Cb.out) (λ_=>?_);clear hK K;refine rd9 12 λK hK=>?_
     go_simp;refine(ALO.out _).mono ?_
     rintro e wd ⟨rfl,bq⟩
     have Cc:=hid (Cb.out.trans (bq.mono Cb.out.size));have Z1:=hid (Z0.out.below bq Z0.out.lt);clear Z0;have Z0:=Z1;clear Z1;clear bq;refine hK.out _ _ (RS.out _ Cc.out) (λ_=>?_);clear hK K;refine rdw9 14 λK hK=>?_
     refine wstore_part 23 (.tmp 9) (.tmp 28) gz 0 23 [] (u8s z32) [] (u8s T) rfl (by rw[List.nil_append,List.append_nil];exact Z0.out) rfl (hash_len _ HT32.out) (size32 _ HT32.out) (u8s_one _) rfl rfl ?_;intro wz a1 a2 a3;have DZ0:=hid (show Blk wz gz 23 (u8s T) by have:=a1.out;rwa [List.nil_append,List.append_nil] at this);have CZ:=hid (show Below V.heap.size V wz from Cc.out.trans (a2.out.below gz1 Cc.out.size));refine hK.out _ _ (RS.out _ CZ.out) (λ_=>?_);clear hK K;refine wpAnyH_done (by kernel_rfl) ?_ _;go_simp;go_wp2_with fail
     go_meet
     exact⟨gz,rfl,DZ0.out,BV.out.trans (CZ.out.mono BV.out.size)⟩
   case rest=>
    obtain⟨g,rfl,dz,bz⟩:=hcut;have O2:=hid (own_below OO.out bz);have J0:=hid (K0.out.below bz K0.out.lt);have J1:=hid (K1.out.below bz K1.out.lt);have B2:=hid (BW.out.trans (bz.mono BW.out.size));have SZ:=hid (Sr.of_blk (xs:=T) (rest:=[]) dz (by simp));have HCL:=hid (catN_length (tipN I seed q i) k (λj _=>(TOK.out j).1));have HCS:=hid (show catN (tipN I seed q i) (k+1)=catN (tipN I seed q i) k++T by rw[catN,TI.out]);obtain⟨Y,hY⟩:∃ Y,catN (tipN I seed q i) k=Y:=⟨_,rfl⟩;rw[hY] at O2 HCL HCS;clear dz bz OO K0 K1 BW hY
    go_wp2_with ((with_reducible refine at_op (.call { callee:= .builtin .append,args:= #[.tmp 29,.tmp 30],argTypes:= #[25,25] }) rfl ?_);go_must (refine append_bytes (.tmp 29) (.tmp 30) 25 rfl rfl 5 Tryz.underlying25 byte_info w.heap.size (.slice A (32 * k) c) (32 * k) Y T rfl O2.out (some ⟨g,0,none⟩) 32 32 rfl HT32.out SZ.out (by omega) B2.out.size ?_);intro v3 w3 a1 a2 a3)
    obtain⟨A3,c3,rfl,hc3⟩:=own_form a1.out;have hK2:=own_kept_blk O2.out a2.out J0.out (by decide);have hK3:=own_kept_blk O2.out a2.out J1.out (by decide);have Q0:=hid hK2;have Q1:=hid hK3;have B3:=hid (B2.out.grown a2.out B2.out.size (λi e=>(O2.out.lt i e).1));clear hK2 hK3 hc3
    go_roundw
    case rel=>
     refine⟨k+1,A3,c3,by omega,by go_num,rfl,?_,Q0.out,Q1.out,B3.out⟩;rw[HCS.out];exact a1.out
    case measure=>simp[intOf];omega
  ·obtain rfl:k=p:=by omega
   have HCL:=hid (catN_length (tipN I seed q i) k (λj _=>(TOK.out j).1));have HCB:=hid (catN_bytes (tipN I seed q i) k (λj _=>(TOK.out j).2));obtain⟨Y,hY⟩:∃ Y,catN (tipN I seed q i) k=Y:=⟨_,rfl⟩;rw[hY] at oo HCL HCB PUB;have SY:=hid (Sr.of_own oo);have K0:=hid k0;have K1:=hid k1;have BW:=hid bw;have KP:=hid (show Blk wr w.heap.size 46 ([]++(u8s I++u8s seed)) by rw[List.nil_append,←u8s_app];exact k0);clear oo k0 k1 bw hY;go_wp2_with fail
   refine(CH.out _).mono ?_
   rintro e w2 ⟨rfl,rfl⟩
   go_wp2_with ((with_reducible refine load_part 44 (.tmp 32) w.heap.size 0 46 [] (u8s I) (u8s seed) _ rfl rfl ?_ rfl Tryz.underlying44 ?_ ?_ ?_ ?_);exact KP.out;exact rfl;exact size16 _ HI.out;exact rfl)
   refine(refends_t I Y q (32 * k) A c wr HCL.out HI.out HIB.out hq SY.out HCB.out (by rw[HCL.out];omega)).mono ?_
   rintro e w3 ⟨rfl,b3⟩
   rw[←PUB.out];have HPL:=hid (show(pubN I seed q i).length=32 from rfl);obtain⟨S,hS⟩:∃ S,pubN I seed q i=S:=⟨_,rfl⟩;rw[hS] at HPL ⊢;have HSS:=hid hS;have R3:=hid (K1.out.below b3 K1.out.lt);have B3:=hid (BW.out.trans (b3.mono BW.out.size));clear b3 hS
   go_wp2_with ((with_reducible refine store_blk 23 (.tmp 6) (.tmp 36) (w.heap.size+1) 23 (u8s z32) (u8s S) rfl rfl ?_ ?_ ?_ ?_ ?_ ?_ ?_);exact R3.out;exact hash_len _ HPL.out;exact size32 _ HPL.out;exact u8s_one _;exact rfl;exact rfl)
   exact ret_blk (p:=6) (ty:=23) rfl rfl (w.heap.size+1) 23 _ _ rfl (R3.out.setRow _) Tryz.underlying23 rfl (size32 _ HPL.out) ⟨by rw[HSS.out],below_setRow B3.out (by omega) _⟩
theorem kd_pos' (i:Nat):0< (kd i).p:=by
 rcases i with _ |_ |_ |i<;>simp[kd]
theorem own_at {w:World} {base gd n c:Nat} {l:List Nat} (h:w.ownsRow base 3 1 (.slice (some ⟨gd,0,none⟩) n c) n (ints l)) (hn:0<n):(∀ j,j<n→w.cell? ⟨gd,j,none⟩=some (.int .i64 ((gt l j:Nat):Int)))∧gd<w.heap.size:=by
 obtain⟨g,c',e,_,hv,lg⟩:=own_cell h hn
 injection e with e1 _ _
 injection e1 with e1
 injection e1 with e1 _ _
 subst e1;exact⟨hv,lg⟩
theorem refmsg_n (I C M:List Nat) (q n m:Nat) (P R:Option Addr) (c d:Nat) (w:World) (hn:C.length=n) (hm:M.length=m) (hI:I.length=16) (hIb:Bytes I) (hq:q<1000) (hC:Sr w P C) (hCb:Bytes C) (hCl:C.length≤1000) (hM:Sr w R M) (hMb:Bytes M) (hMl:M.length≤100000):
  Calls Tryz.prog 66 #[.agg (u8s I).toArray,.int .i64 (q:Int),.slice P n c,.slice R m d] w λe w'=>e= .returned (.agg (u8s (msgN I q C M)).toArray)∧Below w.heap.size w w':=by
 subst hn;subst hm;exact refmsg_t I C M q P R c d w hI hIb hq hC hCb hCl hM hMb hMl
set_option maxHeartbeats 4000000 in
theorem refsign_t (I seed xs:List Nat) (q i:Nat) (P:Option Addr) (m cc:Nat) (w:World) (hI:I.length=16) (hIb:Bytes I) (hs:seed.length=32) (hsb:Bytes seed) (hq:q<1000) (hi:i<4) (hx:xs.length=m) (hp:Sr w P xs) (hxb:Bytes xs) (hml:m≤100000):
  Calls Tryz.prog 36 #[.agg (u8s (I++seed)).toArray,.int .i64 (q:Int),.int .i64 ((kd i).w:Int),.slice P m cc] w λe w'=>∃ v,e= .returned v∧Fresh 5 w w' v (sigN I seed q i xs):=by
 have HI:=hid hI;have HIB:=hid hIb;have HS:=hid hs;have HSB:=hid hsb;have HX:=hid hx;have HP:=hid hp;have HXB:=hid hxb;have HIS:=hid (show(I++seed).length=48 by rw[List.length_append,hI,hs]);have hp9:=kd_p i hi;have htop:=top_lt i hi;have CH:=hid (λW=>refchains_t i hi W);have CO:=hid (λW=>refcode_t i hi W);have RT:=hid (λ(X:World) (h:X.rangeAt w.heap.size 0 (u8s (I++seed)))=>show X.rangeAt w.heap.size 0 (u8s I) from λj v hv=>h j v (by rw[u8s_app,List.getElem?_append_left (List.getElem?_eq_some_iff.1 hv).1];exact hv));have HSG:=hid (show sigN I seed q i xs=beN (kd i).code 4++sigC I seed q++catN (sigE I seed q i (msgN I q (sigC I seed q) xs)) (kd i).p from rfl);have HSL:=hid (sigN_length I seed q i xs);have HC32:=hid (show(sigC I seed q).length=32∧Bytes (sigC I seed q) from⟨rfl,secN_bytes I seed q 65533 hIb hsb⟩);have SEC0:=hid (λW=>refsec_t I seed q 65533 W hI hIb hs hsb hq (by decide));obtain⟨C,hC⟩:∃ C,sigC I seed q=C:=⟨_,rfl⟩;have SECC:=hid (λW=>show Calls Tryz.prog 62 #[.agg (u8s (I++seed)).toArray,.int .i64 (q:Int),.int .i64 65533] W λe w'=>e= .returned (.agg (u8s C).toArray)∧Below W.heap.size W w' by rw[←hC];exact SEC0.out W);rw[hC] at HSG HC32;have HQ1:=hid (show(msgN I q C xs).length=32∧Bytes (msgN I q C xs) from⟨rfl,sum_bytes _ (app_bytes (app_bytes (headN_bytes _ _ _ hIb) HC32.out.2) hxb)⟩);have MSG:=hid (λW (g:Nat) (hc:Sr W (some ⟨g,0,none⟩) C) (hb:Below w.heap.size w W)=>refmsg_n I C xs q 32 m (some ⟨g,0,none⟩) P 32 cc W HC32.out.1 hx hI hIb hq hc HC32.out.2 (by rw[HC32.out.1];decide) (hp.below hb) hxb (by rw[hx];exact hml));obtain⟨Q,hQ⟩:∃ Q,msgN I q C xs=Q:=⟨_,rfl⟩;rw[hQ] at HSG HQ1 MSG;have EOK:=hid (λj=>sigE_ok I seed q i Q j hi hIb hsb);have DIG:=hid (λW=>refdigits_t i hi Q W HQ1.out.1 HQ1.out.2);have HDL:=hid (digs_length i Q);have DGL:=hid (λj (hj:j< (kd i).p)=>show gt (digs i Q) j=digN (kd i).w (kd i).ls Q j by unfold digs;simp[gt,List.getD_eq_getElem?_getD,hj]);have DLE:=hid (λj=>digN_le i j Q);have ALO0:=hid (λk (hk:k<65536) d (hd:d<256) W=>along_t I (secN I seed q k) q k 0 d W hI hIb hq hk rfl (secN_bytes I seed q k hIb hsb) (Nat.zero_le _) hd);have EDF:=hid (λk=>show walkN I q k 0 (digN (kd i).w (kd i).ls Q k) (secN I seed q k)=sigE I seed q i Q k from rfl);have hcode:(kd i).code≤4:=by rcases i with _ |_ |_ |i<;>simp[kd]
 obtain⟨p,hpp⟩:∃ p,(kd i).p=p:=⟨_,rfl⟩;obtain⟨co,hco⟩:∃ c,(kd i).code=c:=⟨_,rfl⟩;rw[hpp] at hp9 CH HSG HDL DGL HSL;rw[hco] at CO HSG hcode;obtain⟨v,hv⟩:∃ v,(kd i).w=v:=⟨_,rfl⟩;obtain⟨D,hD⟩:∃ D,digs i Q=D:=⟨_,rfl⟩;have HDK:=hid (λk (hk:k<p)=>show gt D k≤255∧digN (kd i).w (kd i).ls Q k=gt D k by rw[←hD,DGL.out k hk];exact⟨by have:=DLE.out k;omega,rfl⟩);rw[hD] at HDL DIG;rw[hv] at CH CO DIG;rw[hv];have HPOS:=kd_pos' i;rw[hpp] at HPOS;clear hI hIb hs hsb hpp hv hx hp hxb hC hQ hco hD SEC0 DGL DLE htop
 go_enter Tryz.func36,Tryz.ntmps36
 have B0:=hid ((Below.refl w.heap.size w).alloc (Nat.le_refl _) (.cells (u8s (I++seed)).toArray 46));have S0:=hid (Blk.new w 46 (u8s (I++seed)))
 go_wp2_with ((with_reducible refine load_blk 46 (.tmp 4) w.heap.size 46 (u8s (I++seed)) _ rfl rfl ?_ Tryz.underlying46 ?_ ?_ ?_ ?_);exact S0.out;exact rfl;exact size48 _ HIS.out;exact rfl)
 refine(SECC.out _).mono ?_
 rintro e w1 ⟨rfl,b1⟩
 have S1:=hid (S0.out.below b1 S0.out.lt);have B1:=hid (B0.out.trans (b1.mono B0.out.size));have R1:=hid (Blk.new w1 23 (u8s z32));have g1l:=S1.out.lt;clear b1 B0 S0
 go_upto_region 2 with((with_reducible refine store_blk 23 (.tmp 9) (.tmp 16) w1.heap.size 23 (u8s z32) (u8s C) rfl rfl ?_ ?_ ?_ ?_ ?_ ?_ ?_);exact R1.out;exact hash_len _ HC32.out.1;exact size32 _ HC32.out.1;exact u8s_one _;exact rfl;exact rfl)
 refine world_is (λW=>Blk W w.heap.size 46 (u8s (I++seed))∧Blk W w1.heap.size 23 (u8s C)∧Below w.heap.size w W) ⟨(S1.out.alloc _).setRow_far (by omega) _,R1.out.setRow _,below_setRow (B1.out.alloc B1.out.size _) B1.out.size _⟩ ?_
 rintro W ⟨s0,c0,bw⟩
 obtain⟨gc,hgc⟩:∃ g,w1.heap.size=g:=⟨_,rfl⟩;rw[hgc] at c0 ⊢;have S2:=hid s0.drew;have C2:=hid c0.drew;have B2:=hid bw.drew;clear s0 c0 bw S1 B1 R1 hgc;have RS:=hid (λ(X:World) (h:Below W.drew.heap.size W.drew X)=>range_of_blk (S2.out.below h S2.out.lt));have K0:=hid (Below.refl W.drew.heap.size W.drew);have r1:=RS.out _ K0.out;refine wp_region_held (S:=λX=>X.rangeAt w.heap.size 0 (u8s (I++seed))) (by kernel_rfl) ?_;change wpAnyH _ _ _ _ _ _ _ _ W.drew;refine tka9 0 r1 ?_;refine tka9 1 r1 ?_;refine tkg9 2 (v:= .agg (u8s I).toArray) (yieldsIf_load_mid (by kernel_rfl) 44 (.tmp 18) rfl w.heap.size 0 (by go_simp) (u8s I) _ (λ_ h=>RT.out _ h) Tryz.underlying44 rfl (size16 _ HI.out)) r1 ?_;refine tka9 3 r1 ?_;refine tka9 4 r1 ?_;refine tka9 5 r1 ?_;refine rd9 6 λK hK=>?_
 go_simp;refine(MSG.out W.drew gc (Sr.of_blk (rest:=[]) C2.out (by simp)) B2.out).mono ?_
 rintro e w2 ⟨rfl,b2⟩
 have K2:=hid (K0.out.trans (b2.mono K0.out.size));clear b2 r1;refine hK.out _ _ (RS.out _ K2.out) (λ_=>?_);clear hK K;refine rd9 7 λK hK=>?_
 go_simp;refine(DIG.out w2).mono ?_
 rintro e w3 ⟨vd,rfl,fd⟩
 obtain⟨gd,cd,rfl,hcd, -,lgd⟩:=own_cell fd.1 (by rw[HDL.out];exact HPOS);have od:=fd.1;rw[HDL.out] at od hcd ⊢;have K3:=hid (K2.out.trans (fd.2.mono K2.out.size));have OD3:=hid (own_base od (base':=w.heap.size) (λk e=>Nat.le_trans (Nat.le_trans B2.out.size K2.out.size) (od.lt k e).1));have r3:=RS.out _ K3.out;clear fd od K2 hcd lgd;refine hK.out _ _ r3 (λ_=>?_);clear hK K;refine tka9 8 r3 ?_;refine wpAnyH_done (by kernel_rfl) ?_ _;go_simp;have S3:=hid (S2.out.below K3.out S2.out.lt);have C3:=hid (C2.out.below K3.out C2.out.lt);have B3:=hid (B2.out.trans (K3.out.mono B2.out.size));clear r3 K0 K3 RS S2 C2 B2
 go_upto_region 3 with(fail)
 refine wp_region_held (S:=λ_=>True) (by kernel_rfl) ?_;change wpAnyH _ _ _ _ _ _ _ _ w3.drew;refine tka9 0 trivial ?_;refine tka9 3 trivial ?_;refine rd9 1 λK hK=>?_
 go_simp;refine(CO.out w3.drew).mono ?_
 rintro e w4 ⟨rfl,rfl⟩
 refine hK.out _ _ trivial (λ_=>?_);clear hK K;refine rd9 2 λK hK=>?_
 go_simp;refine(refnum_t co 4 w3.drew (by decide) (by decide)).mono ?_
 rintro e w5 ⟨u,rfl,f5⟩
 have o5:=own_base f5.1 (base':=w.heap.size) (λk e=>Nat.le_trans B3.out.size (f5.1.lt k e).1);rw[beN_length] at o5;have bq:Below w3.heap.size w3 w5:=(Below.refl _ _).drew.trans f5.2;have O5:=hid o5;have S5:=hid (S3.out.below bq S3.out.lt);have C5:=hid (C3.out.below bq C3.out.lt);have B5:=hid (B3.out.trans (bq.mono B3.out.size));have OD5:=hid (own_below OD3.out bq);clear o5 bq f5 S3 C3 B3 OD3;refine hK.out _ _ trivial (λ_=>?_);clear hK K;refine rd9 4 λK hK=>?_
 refine wp_append_bytes (.tmp 27) (.tmp 28) 25 ?_ 5 Tryz.underlying25 byte_info w.heap.size u 4 (beN co 4) C ?_ O5.out (some ⟨gc,0,none⟩) 32 32 ?_ HC32.out.1 (Sr.of_blk (xs:=C) (rest:=[]) C5.out (by simp)) (by omega) B5.out.size ?_
 ·rfl
 ·go_simp
 ·go_simp
 intro v6 w6 a1 a2 a3;have o6:=a1.out;rw[show 4+32=36 from rfl] at o6;obtain⟨A6,c6,rfl,hc6⟩:=own_form o6;have S6:=hid (own_kept_blk O5.out a2.out S5.out (by decide));have B6:=hid (B5.out.grown a2.out B5.out.size (λi e=>(O5.out.lt i e).1));have OD6:=hid (own_kept (F:=λz=>u.ownBlock=some z) OD5.out ((Kept.refl (λz=>u.ownBlock=some z) _).grown a2.out (λz e=> .inl e)) (λz e he=>own_types OD5.out O5.out (by decide) z e he));have O6:=hid o6;clear o6 a1 a2 a3 hc6 S5 C5 B5 OD5 O5;refine hK.out _ _ trivial (λ_=>?_);clear hK K;refine tka9 5 trivial ?_;refine wpAnyH_done (by kernel_rfl) ?_ _;go_simp
 go_upto_region 5 with(fail)
 have HPR:=hid (show(beN co 4++C).length=36 by rw[List.length_append,beN_length,HC32.out.1]);obtain⟨pre,hpre⟩:∃ pre,beN co 4++C=pre:=⟨_,rfl⟩;rw[hpre] at O6 HSG HPR;clear hpre
 go_loopw [11,12] (λs x wr=>∃ (k:Nat) (A:Option Addr) (c:Nat),k≤p∧x= .int .i64 k∧s= .slice A (36+32 * k) c∧wr.ownsRow w.heap.size 5 1 s (36+32 * k) (u8s (pre++catN (sigE I seed q i Q) k))∧wr.ownsRow w.heap.size 3 1 (.slice (some ⟨gd,0,none⟩) p cd) p (ints D)∧Blk wr w.heap.size 46 (u8s (I++seed))∧Below w.heap.size w wr) (λ_ x _=>p- (intOf x).toNat)
 case atStart=>exact⟨0,A6,c6,by omega,rfl,rfl,by rw[catN,List.append_nil];exact O6.out,OD6.out,S6.out,B6.out⟩
 case round=>
  clear O6 OD6 S6 B6;obtain⟨k,A,c,hk,rfl,rfl,oo,od,k0,bw⟩:=hrel
  by_cases hlt:k<p
  ·have i1:(k:Int)< (p:Int):=by omega
   obtain⟨oc,ol⟩:=own_at od HPOS;have ck:=oc k hlt;obtain⟨hd1,hd2⟩:=HDK.out k hlt;have SEC:=hid (λW=>refsec_t I seed q k W HI.out HIB.out HS.out HSB.out hq (by omega));have ED:=hid (EDF.out k);rw[hd2] at ED;obtain⟨d,hd⟩:∃ d,gt D k=d:=⟨_,rfl⟩;rw[hd] at ck hd1 ED;have ALO:=hid (λW=>ALO0.out k (by omega) d (by omega) W);have TK:=hid (EOK.out k);obtain⟨X,hX⟩:∃ X,secN I seed q k=X:=⟨_,rfl⟩;rw[hX] at SEC ALO ED;simp only[Nat.sub_zero] at ALO;obtain⟨T,hT⟩:∃ T,walkN I q k 0 d X=T:=⟨_,rfl⟩;rw[hT] at ALO ED;have HT32:=hid (show T.length=32 by rw[ED.out];exact TK.out.1);have OO:=hid oo;have OD:=hid od;have K0:=hid k0;have BW:=hid bw;have CK:=hid ck;have olg:gd<wr.heap.size:=ol;clear oo od k0 bw hX hT hd hd2 oc ol ck hd1;go_wp2_with fail
   refine(CH.out _).mono ?_
   rintro e w2 ⟨rfl,rfl⟩
   go_upto_region 7 with(fail)
   go_cut [13] (λs9 wx=>∃ g:Nat,s9= .pointer (some ⟨g,0,none⟩)∧Blk wx g 23 (u8s T)∧Below wr.heap.size wr wx)
   case first=>
    have V0:=hid (K0.out.below (Below.refl _ _).drew K0.out.lt);have V1:=hid (show wr.drew.cell? ⟨gd,k,none⟩=some (.int .i64 (d:Int)) from CK.out);refine wp_region_held (S:=λX=>X.rangeAt w.heap.size 0 (u8s (I++seed))∧X.cell? ⟨gd,k,none⟩=some (.int .i64 (d:Int))) (by kernel_rfl) ?_;change wpAnyH _ _ _ _ _ _ _ _ wr.drew;have BV:=hid ((Below.refl wr.heap.size wr).drew);have olv:gd<wr.drew.heap.size:=olg;obtain⟨V,hV⟩:∃ V,wr.drew=V:=⟨_,rfl⟩;rw[hV] at V0 V1 BV olv ⊢;clear hV;have RS:=hid (λ(X:World) (h:Below V.heap.size V X)=>show X.rangeAt w.heap.size 0 (u8s (I++seed))∧X.cell? ⟨gd,k,none⟩=some (.int .i64 (d:Int)) from⟨range_of_blk (V0.out.below h V0.out.lt),(h.cell (p:=⟨gd,k,none⟩) olv).trans V1.out⟩);have C0:=hid (Below.refl V.heap.size V);have r1:=RS.out _ C0.out;refine tka9 0 r1 ?_;refine tkg9 1 (v:= .agg (u8s I).toArray) (yieldsIf_load_mid (by kernel_rfl) 44 (.tmp 36) rfl w.heap.size 0 (by go_simp) (u8s I) _ (λ_ h=>RT.out _ h.1) Tryz.underlying44 rfl (size16 _ HI.out)) r1 ?_;refine tka9 2 r1 ?_;refine tka9 3 r1 ?_;refine tka9 4 r1 ?_;refine tka9 5 r1 ?_;refine tka9 6 r1 ?_;refine tk9 7 ?_ ?_ r1 ?_;rotate_left 1
    ·(intro w hS;have hs:=hS.2;clear hS;go_simp;try (with_reducible rfl))
    refine tkg9 8 (v:= .agg (u8s (I++seed)).toArray) (yieldsIf_load_mid (by kernel_rfl) 46 (.tmp 4) rfl w.heap.size 0 (by go_simp) (u8s (I++seed)) _ (λ_ h=>h.1) Tryz.underlying46 rfl (size48 _ HIS.out)) r1 ?_;refine tka9 9 r1 ?_;refine tka9 10 r1 ?_;clear r1;refine wpAnyH_ready (rs:=[11,13]) (by kernel_rfl) (by simp) ?_;refine AllReadyH.cons rfl (λK hK=>?_) (AllReadyH.cons rfl (λK hK=>?_) AllReadyH.nil)
    ·skip
     go_simp;refine(SEC.out _).mono ?_
     rintro e wa ⟨rfl,bq⟩
     have Ca:=hid (C0.out.trans (bq.mono C0.out.size))
     skip
     clear bq;refine hK.out _ _ (RS.out _ Ca.out) (λ_=>?_);clear hK K;refine wpAnyH_ready (rs:=[12,13]) (by kernel_rfl) (by simp) ?_;refine AllReadyH.cons rfl (λK hK=>?_) (AllReadyH.cons rfl (λK hK=>?_) AllReadyH.nil)
     ·skip
      go_simp;refine(ALO.out _).mono ?_
      rintro e wb ⟨rfl,bq⟩
      have Cb:=hid (Ca.out.trans (bq.mono Ca.out.size))
      skip
      clear bq;refine hK.out _ _ (RS.out _ Cb.out) (λ_=>?_);clear hK K;refine rd9 13 λK hK=>?_
      go_simp;have bq:=(Below.refl (wb).heap.size wb).alloc (Nat.le_refl _) (.cells (u8s z32).toArray 23);have Z0:=hid (Blk.new wb 23 (u8s z32));have Cc:=hid (Cb.out.trans (bq.mono Cb.out.size));have gz0:V.heap.size≤(wb).heap.size:=Cb.out.size;obtain⟨gz,hgz⟩:∃ g,(wb).heap.size=g:=⟨_,rfl⟩;have gz1:V.heap.size≤gz:=by rw[←hgz];exact gz0
      rw[hgz] at Z0 ⊢;clear bq hgz gz0;refine hK.out _ _ (RS.out _ Cc.out) (λ_=>?_);clear hK K;refine rdw9 14 λK hK=>?_
      refine wstore_part 23 (.tmp 13) (.tmp 48) gz 0 23 [] (u8s z32) [] (u8s T) rfl (by rw[List.nil_append,List.append_nil];exact Z0.out) rfl (hash_len _ HT32.out) (size32 _ HT32.out) (u8s_one _) rfl rfl ?_;intro wz a1 a2 a3;have DZ0:=hid (show Blk wz gz 23 (u8s T) by have:=a1.out;rwa [List.nil_append,List.append_nil] at this);have CZ:=hid (show Below V.heap.size V wz from Cc.out.trans (a2.out.below gz1 Cc.out.size));refine hK.out _ _ (RS.out _ CZ.out) (λ_=>?_);clear hK K;refine wpAnyH_done (by kernel_rfl) ?_ _;go_simp;go_wp2_with fail
      go_meet
      exact⟨gz,rfl,DZ0.out,BV.out.trans (CZ.out.mono BV.out.size)⟩
     ·skip
      go_simp;have bq:=(Below.refl (wa).heap.size wa).alloc (Nat.le_refl _) (.cells (u8s z32).toArray 23);have Z0:=hid (Blk.new wa 23 (u8s z32));have Cb:=hid (Ca.out.trans (bq.mono Ca.out.size));have gz0:V.heap.size≤(wa).heap.size:=Ca.out.size;obtain⟨gz,hgz⟩:∃ g,(wa).heap.size=g:=⟨_,rfl⟩;have gz1:V.heap.size≤gz:=by rw[←hgz];exact gz0
      rw[hgz] at Z0 ⊢;clear bq hgz gz0;refine hK.out _ _ (RS.out _ Cb.out) (λ_=>?_);clear hK K;refine rd9 12 λK hK=>?_
      go_simp;refine(ALO.out _).mono ?_
      rintro e wb ⟨rfl,bq⟩
      have Cc:=hid (Cb.out.trans (bq.mono Cb.out.size));have Z1:=hid (Z0.out.below bq Z0.out.lt);clear Z0;have Z0:=Z1;clear Z1;clear bq;refine hK.out _ _ (RS.out _ Cc.out) (λ_=>?_);clear hK K;refine rdw9 14 λK hK=>?_
      refine wstore_part 23 (.tmp 13) (.tmp 48) gz 0 23 [] (u8s z32) [] (u8s T) rfl (by rw[List.nil_append,List.append_nil];exact Z0.out) rfl (hash_len _ HT32.out) (size32 _ HT32.out) (u8s_one _) rfl rfl ?_;intro wz a1 a2 a3;have DZ0:=hid (show Blk wz gz 23 (u8s T) by have:=a1.out;rwa [List.nil_append,List.append_nil] at this);have CZ:=hid (show Below V.heap.size V wz from Cc.out.trans (a2.out.below gz1 Cc.out.size));refine hK.out _ _ (RS.out _ CZ.out) (λ_=>?_);clear hK K;refine wpAnyH_done (by kernel_rfl) ?_ _;go_simp;go_wp2_with fail
      go_meet
      exact⟨gz,rfl,DZ0.out,BV.out.trans (CZ.out.mono BV.out.size)⟩
    ·skip
     go_simp;have bq:=(Below.refl (V).heap.size V).alloc (Nat.le_refl _) (.cells (u8s z32).toArray 23);have Z0:=hid (Blk.new V 23 (u8s z32));have Ca:=hid (C0.out.trans (bq.mono C0.out.size));have gz0:V.heap.size≤(V).heap.size:=C0.out.size;obtain⟨gz,hgz⟩:∃ g,(V).heap.size=g:=⟨_,rfl⟩;have gz1:V.heap.size≤gz:=by rw[←hgz];exact gz0
     rw[hgz] at Z0 ⊢;clear bq hgz gz0;refine hK.out _ _ (RS.out _ Ca.out) (λ_=>?_);clear hK K;refine rd9 11 λK hK=>?_
     go_simp;refine(SEC.out _).mono ?_
     rintro e wb ⟨rfl,bq⟩
     have Cb:=hid (Ca.out.trans (bq.mono Ca.out.size));have Z1:=hid (Z0.out.below bq Z0.out.lt);clear Z0;have Z0:=Z1;clear Z1;clear bq;refine hK.out _ _ (RS.out _ Cb.out) (λ_=>?_);clear hK K;refine rd9 12 λK hK=>?_
     go_simp;refine(ALO.out _).mono ?_
     rintro e wd ⟨rfl,bq⟩
     have Cc:=hid (Cb.out.trans (bq.mono Cb.out.size));have Z1:=hid (Z0.out.below bq Z0.out.lt);clear Z0;have Z0:=Z1;clear Z1;clear bq;refine hK.out _ _ (RS.out _ Cc.out) (λ_=>?_);clear hK K;refine rdw9 14 λK hK=>?_
     refine wstore_part 23 (.tmp 13) (.tmp 48) gz 0 23 [] (u8s z32) [] (u8s T) rfl (by rw[List.nil_append,List.append_nil];exact Z0.out) rfl (hash_len _ HT32.out) (size32 _ HT32.out) (u8s_one _) rfl rfl ?_;intro wz a1 a2 a3;have DZ0:=hid (show Blk wz gz 23 (u8s T) by have:=a1.out;rwa [List.nil_append,List.append_nil] at this);have CZ:=hid (show Below V.heap.size V wz from Cc.out.trans (a2.out.below gz1 Cc.out.size));refine hK.out _ _ (RS.out _ CZ.out) (λ_=>?_);clear hK K;refine wpAnyH_done (by kernel_rfl) ?_ _;go_simp;go_wp2_with fail
     go_meet
     exact⟨gz,rfl,DZ0.out,BV.out.trans (CZ.out.mono BV.out.size)⟩
   case rest=>
    obtain⟨g,rfl,dz,bz⟩:=hcut;have O2:=hid (own_below OO.out bz);have OD2:=hid (own_below OD.out bz);have J0:=hid (K0.out.below bz K0.out.lt);have B2:=hid (BW.out.trans (bz.mono BW.out.size));have SZ:=hid (Sr.of_blk (xs:=T) (rest:=[]) dz (by simp));have HCS:=hid (show pre++catN (sigE I seed q i Q) (k+1)=pre++catN (sigE I seed q i Q) k++T by rw[catN,ED.out,List.append_assoc]);obtain⟨Y,hY⟩:∃ Y,pre++catN (sigE I seed q i Q) k=Y:=⟨_,rfl⟩;rw[hY] at O2 HCS;clear dz bz OO OD K0 BW hY CK
    go_wp2_with ((with_reducible refine at_op (.call { callee:= .builtin .append,args:= #[.tmp 49,.tmp 50],argTypes:= #[25,25] }) rfl ?_);go_must (refine append_bytes (.tmp 49) (.tmp 50) 25 rfl rfl 5 Tryz.underlying25 byte_info w.heap.size (.slice A (36+32 * k) c) (36+32 * k) Y T rfl O2.out (some ⟨g,0,none⟩) 32 32 rfl HT32.out SZ.out (by omega) B2.out.size ?_);intro v3 w3 a1 a2 a3)
    obtain⟨A3,c3,rfl,hc3⟩:=own_form a1.out;have Q0:=hid (own_kept_blk O2.out a2.out J0.out (by decide));have QD:=hid (own_kept (F:=λz=>(Value.slice A (36+32 * k) c).ownBlock=some z) OD2.out ((Kept.refl (λz=>(Value.slice A (36+32 * k) c).ownBlock=some z) _).grown a2.out (λz e=> .inl e)) (λz e he=>own_types OD2.out O2.out (by decide) z e he));have B3:=hid (B2.out.grown a2.out B2.out.size (λi e=>(O2.out.lt i e).1));clear hc3
    go_roundw
    case rel=>
     refine⟨k+1,A3,c3,by omega,by go_num,rfl,?_,QD.out,Q0.out,B3.out⟩;rw[HCS.out];exact a1.out
    case measure=>simp[intOf];omega
  ·obtain rfl:k=p:=by omega
   rw[←HSG.out] at oo;have OO:=hid oo;have BW:=hid bw;clear oo od k0 bw;go_wp2_with fail
   refine(CH.out _).mono ?_
   rintro e w2 ⟨rfl,rfl⟩
   go_wp2_with fail
   go_ret;refine⟨_,rfl,?_,BW.out⟩;rw[HSL.out];exact OO.out
theorem beN_val:∀ (n:Nat) (l:List Nat),l.length=n→Bytes l→beN (val l) n=l
 |0,l,h,_=>by obtain rfl:=List.eq_nil_of_length_eq_zero h;rfl
 |n+1,l,h,hb=>by
  have hne:l≠[]:=λe=>by rw[e] at h;simp at h
  obtain⟨l',b,rfl⟩:∃ l' b,l=l'++[b]:=⟨l.dropLast,l.getLast hne,(List.dropLast_concat_getLast hne).symm⟩;have hb1:b<256:=by
   have:=hb l'.length;rw[gt_app_right (Nat.le_refl _)] at this
   simpa [gt] using this
  have hl':l'.length=n:=by simpa using h
  have hb':Bytes l':=λj=>by
   rcases Nat.lt_or_ge j l'.length with hj |hj
   ·have:=hb j;rwa [gt_app_left hj] at this
   ·rw[gt_out hj];decide
  rw[beN_snoc,val_snoc,show(val l' * 256+b) / 256=val l' from by omega,show(val l' * 256+b) % 256=b from by omega,beN_val n l' hl' hb']
theorem code_eq (xs:List Nat) (c:Nat) (hl:4≤xs.length) (hb:Bytes xs) (hc:c<4294967296):(xs.take 4=beN c 4)↔val (xs.take 4)=c:=by
 constructor
 ·intro h;rw[h,val_beN];omega
 ·intro h;rw[←h,beN_val 4 _ (by rw[List.length_take];omega) (bytes_take hb 4)]
theorem piece_sr {w:World} {P P2:Option Addr} {xs:List Nat} (h:Sr w P xs) (n:Nat) (hn:36+32 * n≤xs.length) (h2:∀ g off,P=some ⟨g,off,none⟩→P2=some ⟨g,off+(4+32 * n),none⟩):Sr w P2 (piece xs n):=λhx=>by
 obtain⟨b,o,rfl,hb,hbytes⟩:=h (by omega);refine⟨b,o+(4+32 * n),h2 b o rfl,hb,λj hj=>?_⟩;have:=piece_range hbytes n hn j (.int .u8 ((gt (piece xs n) j:Nat):Int)) (u8s_get _ _ hj);exact this
set_option maxHeartbeats 2000000 in
theorem refcand_code (I xs:List Nat) (q:Int) (i:Nat) (A P:Option Addr) (ma ca m c:Nat) (w:World) (hI:I.length=16) (hIb:Bytes I) (hi:i<4) (hx:xs.length=m) (hp:Sr w P xs) (hxb:Bytes xs) (hc:m≤c) (hm:m=36+32 * (kd i).p) (hcode:val (xs.take 4)≠(kd i).code):
  Calls Tryz.prog 59 #[.agg (u8s I).toArray,.int .i64 q,.int .i64 ((kd i).w:Int),.slice A ma ca,.slice P m c] w λe w'=>e= .returned (.tuple #[.agg (u8s z32).toArray,.int .i64 3])∧Below w.heap.size w w':=by
 have HI:=hid hI;have HIB:=hid hIb;have HX:=hid hx;have HP:=hid hp;have HXB:=hid hxb;have HC:=hid hc;have CH:=hid (λW=>refchains_t i hi W);have CO:=hid (λW=>refcode_t i hi W);have hp9:=kd_p i hi;have hcode4:(kd i).code≤4:=by rcases i with _ |_ |_ |i<;>simp[kd]
 have HXC:=hid (code_eq xs (kd i).code (by omega) hxb (by omega));have HT4:=hid (show(xs.take 4).length=4∧Bytes (xs.take 4) from⟨by rw[List.length_take];omega,bytes_take hxb 4⟩);have hs4:=slice_high (P:=Tryz.prog) (t:=25) (e:=5) Tryz.underlying25 byte_size P m c .i64 4 (by omega);rw[show((4:Nat):Int)=4 from rfl] at hs4;obtain⟨p,hpp⟩:∃ p,(kd i).p=p:=⟨_,rfl⟩;obtain⟨co,hco⟩:∃ c,(kd i).code=c:=⟨_,rfl⟩;obtain⟨v,hv⟩:∃ v,(kd i).w=v:=⟨_,rfl⟩;rw[hpp] at hm CH hp9;rw[hco] at CO hcode HXC hcode4;rw[hv] at CH CO ⊢;have e1:IntKind.i64.wrap (32 * (p:Int))=32 * (p:Int):=IntWalk.i64_in _ (by omega);have e2:IntKind.i64.wrap (36+32 * (p:Int))=36+32 * (p:Int):=IntWalk.i64_in _ (by omega);have t0:((m:Int) != 36+32 * (p:Int))=false:=by rw[bne_eq_false_iff_eq];omega
 have HPP:=hid hpp;have HV:=hid hv;have HM:=hid hm;have HCODE:=hid hcode;clear hpp hv hco hI hIb hx hp hxb hc hm hcode
 go_enter Tryz.func59,Tryz.ntmps59
 go_wp2_with fail
 refine(CH.out _).mono ?_
 rintro e w1 ⟨rfl,rfl⟩
 go_upto_region 2 with(fail)
 refine world_is (λX=>Blk X w.heap.size 44 (u8s I)∧Blk X (w.heap.size+1) 23 (u8s z32)∧Below w.heap.size w X) ⟨(Blk.new w _ (u8s I)).alloc _,Blk.new2 w _ _ (u8s z32),((Below.refl _ _).alloc (Nat.le_refl _) _).alloc (by simp) _⟩ ?_
 rintro X ⟨i0,r0,b0⟩
 have I0:=hid i0.drew;have R0:=hid r0.drew;have B0:=hid b0.drew;clear r0 b0 i0;refine wp_region_held (S:=λ_=>True) (by kernel_rfl) ?_;change wpAnyH _ _ _ _ _ _ _ _ X.drew;obtain⟨V,hV⟩:∃ V,X.drew=V:=⟨_,rfl⟩;rw[hV] at I0 R0 B0 ⊢;clear hV;refine tka9 0 trivial ?_;refine tka9 1 trivial ?_;refine tka9 2 trivial ?_;refine tka9 3 trivial ?_;refine tka9 4 trivial ?_;refine tka9 5 trivial ?_;refine tka9 6 trivial ?_;refine tka9 7 trivial ?_;refine tka9 8 trivial ?_;refine tka9 9 trivial ?_;refine rd9 10 λK hK=>?_
 go_simp;refine(CO.out V).mono ?_
 rintro e w4 ⟨rfl,rfl⟩
 refine hK.out _ _ trivial (λ_=>?_);clear hK K;refine rd9 11 λK hK=>?_
 go_simp;refine(refnum_t co 4 V (by decide) (by decide)).mono ?_
 rintro e w5 ⟨u,rfl,f5⟩
 obtain⟨A5,c5,rfl,hc5,s5,b5⟩:=fresh_op f5;rw[beN_length] at hc5 ⊢;have I5:=hid (I0.out.below b5 I0.out.lt);have R5:=hid (R0.out.below b5 R0.out.lt);have B5:=hid (B0.out.trans (b5.mono B0.out.size));have S5:=hid s5;clear f5 hc5 s5 b5 I0 R0 B0;refine hK.out _ _ trivial (λ_=>?_);clear hK K;refine rd9 12 λK hK=>?_
 go_simp;refine(same_texts (xs.take 4) (beN co 4) P A5 4 4 c c5 w5 HT4.out.1 (beN_length _ _) ((HP.out.below B5.out).take 4) S5.out HT4.out.2 (beN_bytes _ _)).mono ?_
 rintro e w6 ⟨rfl,rfl⟩
 rw[show decide (xs.take 4=beN co 4)=false from decide_eq_false (λh=>HCODE.out (HXC.out.1 h))];refine hK.out _ _ trivial (λ_=>?_);clear hK K;refine tka9 13 trivial ?_;refine tka9 14 trivial ?_;refine wpAnyH_done (by kernel_rfl) ?_ _;go_simp;clear e1 e2 t0 hs4
 go_wp2_with ((with_reducible refine store_blk 23 (.tmp 10) (.tmp 34) (w.heap.size+1) 23 (u8s z32) (u8s z32) rfl rfl ?_ ?_ ?_ ?_ ?_ ?_ ?_);exact R5.out;exact rfl;exact z32_size;exact u8s_one _;exact rfl;exact rfl)
 refine ret_blk2 (p:=10) (u:=11) (ty:=23) rfl rfl (w.heap.size+1) 23 (u8s z32) _ rfl (R5.out.setRow _) Tryz.underlying23 rfl z32_size (.int .i64 3) rfl ?_;exact⟨rfl,below_setRow B5.out (by omega) _⟩
set_option maxHeartbeats 4000000 in
theorem refcand_t (I xs ys:List Nat) (q i:Nat) (A P:Option Addr) (ma ca m c:Nat) (w:World) (hI:I.length=16) (hIb:Bytes I) (hq:q<1000) (hi:i<4) (hy:ys.length=ma) (ha:Sr w A ys) (hyb:Bytes ys) (hma:ma≤100000) (hx:xs.length=m) (hp:Sr w P xs) (hxb:Bytes xs) (hc:m≤c) (hm:m=36+32 * (kd i).p) (hcode:val (xs.take 4)=(kd i).code):
  Calls Tryz.prog 59 #[.agg (u8s I).toArray,.int .i64 (q:Int),.int .i64 ((kd i).w:Int),.slice A ma ca,.slice P m c] w λe w'=>e= .returned (.tuple #[.agg (u8s (candN I q i ys xs)).toArray,.int .i64 0])∧Below w.heap.size w w':=by
 have HY:=hid hy;have HA:=hid ha;have HYB:=hid hyb;have hp0:=kd_p i hi;have htop:=top_lt i hi;have hw8:=kd_w8b i;have HPOS:=kd_pos' i;have m36:36+32 * 0≤xs.length:=by omega
 have PC0:=hid (show(piece xs 0).length=32∧Bytes (piece xs 0) from⟨piece_length xs 0 m36,piece_bytes xs 0 hxb⟩);obtain⟨p36,hp36,hs36⟩:=slice_mid (P:=Tryz.prog) (t:=25) (e:=5) Tryz.underlying25 byte_size P m c 4 36 (by omega) (by omega);rw[show((4:Nat):Int)=4 from rfl,show((36:Nat):Int)=36 from rfl,show 36-4=32 from rfl] at hs36;have PS0:=hid (piece_sr hp 0 m36 (λg off e=>hp36 (by omega) g off e));have HS36:=hid hs36;have HPC:=hid (λk (hk:k< (kd i).p)=>show(piece xs (1+k)).length=32∧Bytes (piece xs (1+k)) from⟨piece_length xs (1+k) (by omega),piece_bytes xs (1+k) hxb⟩);have HPS:=hid (λk (hk:k< (kd i).p)=>show ∃ pk cc,Sr w pk (piece xs (1+k))∧∀ W,(Instr.slice 25 (.slice P m c) (some (.int .i64 (36+32 * (k:Int)))) (some (.int .i64 (68+32 * (k:Int)))) none).run Tryz.prog W= .ok (.slice pk 32 cc) W from by
  obtain⟨pk,hpk,hsk⟩:=slice_mid (P:=Tryz.prog) (t:=25) (e:=5) Tryz.underlying25 byte_size P m c (36+32 * k) (68+32 * k) (by omega) (by omega);rw[show((36+32 * k:Nat):Int)=36+32 * (k:Int) from by omega,show((68+32 * k:Nat):Int)=68+32 * (k:Int) from by omega,show 68+32 * k- (36+32 * k)=32 from by omega] at hsk;exact⟨pk,_,piece_sr hp (1+k) (by omega) (λg off e=>by rw[hpk (by omega) g off e];congr 3;omega),hsk⟩)
 have HQ1:=hid (show(msgN I q (piece xs 0) ys).length=32∧Bytes (msgN I q (piece xs 0) ys) from⟨rfl,sum_bytes _ (app_bytes (app_bytes (headN_bytes _ _ _ hIb) PC0.out.2) hyb)⟩);have HCN:=hid (show candN I q i ys xs=pubOf I q (catN (candE I q i (digL i (msgN I q (piece xs 0) ys)) xs) (kd i).p) from rfl);have MSG:=hid (λW (hb:Below w.heap.size w W)=>refmsg_n I (piece xs 0) ys q 32 ma p36 A (c-4) ca W PC0.out.1 hy hI hIb hq (PS0.out.below hb) PC0.out.2 (by rw[PC0.out.1];decide) (ha.below hb) hyb (by rw[hy];exact hma));obtain⟨Q,hQ⟩:∃ Q,msgN I q (piece xs 0) ys=Q:=⟨_,rfl⟩;rw[hQ] at HCN HQ1 MSG;have EOK:=hid (λj (hj:j< (kd i).p)=>candE_ok I q i (digL i Q) xs j hi hIb hxb (by omega) (by rw[digL_get i j hj];exact digN_le i j Q));have DIG:=hid (λW=>refdigits_t i hi Q W HQ1.out.1 HQ1.out.2);have HDL:=hid (digs_length i Q);have HDK0:=hid (λj (hj:j< (kd i).p)=>show gt (digs i Q) j=gt (digL i Q) j∧gt (digs i Q) j≤2 ^ (kd i).w-1 by
  have e:gt (digs i Q) j=digN (kd i).w (kd i).ls Q j:=by unfold digs;simp[gt,List.getD_eq_getElem?_getD,hj]
  exact⟨by rw[e,digL_get i j hj],by rw[e];exact digN_le i j Q⟩)
 have ALO0:=hid (λk (hk:k< (kd i).p) d (hd:d≤2 ^ (kd i).w-1) W=>along_t I (piece xs (1+k)) q k d (2 ^ (kd i).w-1) W hI hIb hq (by omega) (HPC.out k hk).1 (HPC.out k hk).2 hd htop);have EDF:=hid (λk=>show walkN I q k (gt (digL i Q) k) (2 ^ (kd i).w-1-gt (digL i Q) k) (piece xs (1+k))=candE I q i (digL i Q) xs k from rfl);have ENDS:=hid (λL n P c W (hn:L.length=n) hL hLb hLl=>refends_t I L q n P c W hn hI hIb hq hL hLb hLl);obtain⟨D,hD⟩:∃ D,digs i Q=D:=⟨_,rfl⟩;rw[hD] at HDL DIG HDK0;obtain⟨E,hE⟩:∃ E,candE I q i (digL i Q) xs=E:=⟨_,rfl⟩;simp only[hE] at EDF EOK HCN;clear hy ha hyb hp36 hs36 m36 hQ hD hE hma;have HI:=hid hI;have HIB:=hid hIb;have HX:=hid hx;have HP:=hid hp;have HXB:=hid hxb;have HC:=hid hc;have CH:=hid (λW=>refchains_t i hi W);have CO:=hid (λW=>refcode_t i hi W);have hp9:=kd_p i hi;have hcode4:(kd i).code≤4:=by rcases i with _ |_ |_ |i<;>simp[kd]
 have HXC:=hid (code_eq xs (kd i).code (by omega) hxb (by omega));have HT4:=hid (show(xs.take 4).length=4∧Bytes (xs.take 4) from⟨by rw[List.length_take];omega,bytes_take hxb 4⟩);have hs4:=slice_high (P:=Tryz.prog) (t:=25) (e:=5) Tryz.underlying25 byte_size P m c .i64 4 (by omega);rw[show((4:Nat):Int)=4 from rfl] at hs4;obtain⟨p,hpp⟩:∃ p,(kd i).p=p:=⟨_,rfl⟩;obtain⟨co,hco⟩:∃ c,(kd i).code=c:=⟨_,rfl⟩;obtain⟨v,hv⟩:∃ v,(kd i).w=v:=⟨_,rfl⟩;rw[hpp] at hm CH hp9;rw[hco] at CO hcode HXC hcode4;rw[hv] at CH CO ⊢;have e1:IntKind.i64.wrap (32 * (p:Int))=32 * (p:Int):=IntWalk.i64_in _ (by omega);have e2:IntKind.i64.wrap (36+32 * (p:Int))=36+32 * (p:Int):=IntWalk.i64_in _ (by omega);have t0:((m:Int) != 36+32 * (p:Int))=false:=by rw[bne_eq_false_iff_eq];omega
 have HPP:=hid hpp;have HV:=hid hv;have HM:=hid hm;have HCODE:=hid hcode;clear hpp hv hco hI hIb hx hp hxb hc hm hcode
 go_enter Tryz.func59,Tryz.ntmps59
 go_wp2_with fail
 refine(CH.out _).mono ?_
 rintro e w1 ⟨rfl,rfl⟩
 go_upto_region 2 with(fail)
 refine world_is (λX=>Blk X w.heap.size 44 (u8s I)∧Blk X (w.heap.size+1) 23 (u8s z32)∧Below w.heap.size w X) ⟨(Blk.new w _ (u8s I)).alloc _,Blk.new2 w _ _ (u8s z32),((Below.refl _ _).alloc (Nat.le_refl _) _).alloc (by simp) _⟩ ?_
 rintro X ⟨i0,r0,b0⟩
 have I0:=hid i0.drew;have R0:=hid r0.drew;have B0:=hid b0.drew;clear r0 b0 i0;refine wp_region_held (S:=λ_=>True) (by kernel_rfl) ?_;change wpAnyH _ _ _ _ _ _ _ _ X.drew;obtain⟨V,hV⟩:∃ V,X.drew=V:=⟨_,rfl⟩;rw[hV] at I0 R0 B0 ⊢;clear hV;refine tka9 0 trivial ?_;refine tka9 1 trivial ?_;refine tka9 2 trivial ?_;refine tka9 3 trivial ?_;refine tka9 4 trivial ?_;refine tka9 5 trivial ?_;refine tka9 6 trivial ?_;refine tka9 7 trivial ?_;refine tka9 8 trivial ?_;refine tka9 9 trivial ?_;refine rd9 10 λK hK=>?_
 go_simp;refine(CO.out V).mono ?_
 rintro e w4 ⟨rfl,rfl⟩
 refine hK.out _ _ trivial (λ_=>?_);clear hK K;refine rd9 11 λK hK=>?_
 go_simp;refine(refnum_t co 4 V (by decide) (by decide)).mono ?_
 rintro e w5 ⟨u,rfl,f5⟩
 obtain⟨A5,c5,rfl,hc5,s5,b5⟩:=fresh_op f5;rw[beN_length] at hc5 ⊢;have I5:=hid (I0.out.below b5 I0.out.lt);have R5:=hid (R0.out.below b5 R0.out.lt);have B5:=hid (B0.out.trans (b5.mono B0.out.size));have S5:=hid s5;clear f5 hc5 s5 b5 I0 R0 B0;refine hK.out _ _ trivial (λ_=>?_);clear hK K;refine rd9 12 λK hK=>?_
 go_simp;refine(same_texts (xs.take 4) (beN co 4) P A5 4 4 c c5 w5 HT4.out.1 (beN_length _ _) ((HP.out.below B5.out).take 4) S5.out HT4.out.2 (beN_bytes _ _)).mono ?_
 rintro e w6 ⟨rfl,rfl⟩
 rw[show decide (xs.take 4=beN co 4)=true from decide_eq_true (HXC.out.2 HCODE.out)];refine hK.out _ _ trivial (λ_=>?_);clear hK K;refine tka9 13 trivial ?_;refine tka9 14 trivial ?_;refine wpAnyH_done (by kernel_rfl) ?_ _;go_simp;clear e1 e2 t0 hs4;rw[HPP.out] at HDL HCN HDK0 HPC HPS EOK HPOS ALO0;rw[HV.out] at DIG ALO0 EDF HDK0 htop hw8;obtain⟨top,htp⟩:∃ t,2 ^ v-1=t:=⟨_,rfl⟩;rw[htp] at htop ALO0 HDK0;simp only[htp] at EDF;have hpos:1≤2 ^ v:=Nat.one_le_two_pow;have f0:IntKind.u64.wrap (v:Int)=(v:Int):=IntWalk.u64_in _ (by omega);have f1:IntKind.i64.wrap ((2:Int) ^ v)=((top+1:Nat):Int):=by
  rw[show(2:Int) ^ v=((top+1:Nat):Int) from by rw[←htp,Nat.sub_add_cancel hpos];simp];exact IntWalk.i64_in _ (by omega)
 have f2:IntKind.i64.wrap (top:Int)=(top:Int):=IntWalk.i64_in _ (by omega);have F0:=hid f0;have F1:=hid f1;have F2:=hid f2;have hs36:=HS36.out;clear f0 f1 f2 hpos htp
 go_upto_region 4 with(fail)
 have I6:=hid (I5.out.below (Below.refl _ w5).drew I5.out.lt);have R6:=hid (R5.out.below (Below.refl _ w5).drew R5.out.lt);have B6:=hid (B5.out.trans ((Below.refl _ w5).drew.mono B5.out.size));refine wp_region_held (S:=λX=>X.rangeAt w.heap.size 0 (u8s I)) (by kernel_rfl) ?_;change wpAnyH _ _ _ _ _ _ _ _ w5.drew;obtain⟨V4,hV⟩:∃ V,w5.drew=V:=⟨_,rfl⟩;rw[hV] at I6 R6 B6 ⊢;clear hV I5 R5 B5 S5;have RS:=hid (λ(X:World) (h:Below V4.heap.size V4 X)=>range_of_blk (I6.out.below h I6.out.lt));have K0:=hid (Below.refl V4.heap.size V4);have r1:=RS.out _ K0.out;refine tka9 0 r1 ?_;refine tkg9 1 (v:= .agg (u8s I).toArray) (yieldsIf_load_mid (by kernel_rfl) 44 (.tmp 5) rfl w.heap.size 0 (by go_simp) (u8s I) _ (λ_ h=>h) Tryz.underlying44 rfl (size16 _ HI.out)) r1 ?_;refine tka9 2 r1 ?_;refine tka9 3 r1 ?_;refine tka9 4 r1 ?_;refine tka9 5 r1 ?_;refine rd9 6 λK hK=>?_
 go_simp;refine(MSG.out V4 B6.out).mono ?_
 rintro e w7 ⟨rfl,b7⟩
 have K7:=hid (K0.out.trans (b7.mono K0.out.size));clear b7 r1;refine hK.out _ _ (RS.out _ K7.out) (λ_=>?_);clear hK K;refine rd9 7 λK hK=>?_
 go_simp;refine(DIG.out w7).mono ?_
 rintro e w8 ⟨vd,rfl,fd⟩
 obtain⟨gd,cd,rfl,hcd, -,lgd⟩:=own_cell fd.1 (by rw[HDL.out];exact HPOS);have od:=fd.1;rw[HDL.out] at od hcd ⊢;have K8:=hid (K7.out.trans (fd.2.mono K7.out.size));have OD8:=hid (own_base od (base':=w.heap.size) (λk e=>Nat.le_trans (Nat.le_trans B6.out.size K7.out.size) (od.lt k e).1));have r8:=RS.out _ K8.out;clear fd od K7 hcd lgd;refine hK.out _ _ r8 (λ_=>?_);clear hK K;refine tka9 8 r8 ?_;refine wpAnyH_done (by kernel_rfl) ?_ _;go_simp;have I8:=hid (I6.out.below K8.out I6.out.lt);have R8:=hid (R6.out.below K8.out R6.out.lt);have B8:=hid (B6.out.trans (K8.out.mono B6.out.size));clear r8 K0 K8 RS I6 R6 B6 hs36
 go_upto_region 7 with(fail)
 go_loopw [14,15] (λs x wr=>∃ (k:Nat) (A:Option Addr) (c:Nat),k≤p∧x= .int .i64 k∧s= .slice A (32 * k) c∧wr.ownsRow w.heap.size 5 1 s (32 * k) (u8s (catN E k))∧wr.ownsRow w.heap.size 3 1 (.slice (some ⟨gd,0,none⟩) p cd) p (ints D)∧Blk wr w.heap.size 44 (u8s I)∧Blk wr (w.heap.size+1) 23 (u8s z32)∧Below w.heap.size w wr) (λ_ x _=>p- (intOf x).toNat)
 case atStart=>exact⟨0,none,0,by omega,rfl,rfl,nil_own _ _,OD8.out,I8.out,R8.out,B8.out⟩
 case round=>
  clear I8 R8 B8 OD8;obtain⟨k,A',c',hk,rfl,rfl,oo,od,k0,k1,bw⟩:=hrel
  by_cases hlt:k<p
  ·have i1:(k:Int)< (p:Int):=by omega
   obtain⟨oc,ol⟩:=own_at od HPOS;have ck:=oc k hlt;obtain⟨hd2,hd1⟩:=HDK0.out k hlt;obtain⟨hX1,hX2⟩:=HPC.out k hlt;obtain⟨pk,cc,srk,hsk⟩:=HPS.out k hlt;have ED:=hid (EDF.out k);rw[←hd2] at ED;obtain⟨d,hd⟩:∃ d,gt D k=d:=⟨_,rfl⟩;rw[hd] at ck hd1 ED;have ALO:=hid (λW=>ALO0.out k hlt d hd1 W);obtain⟨X,hX⟩:∃ X,piece xs (1+k)=X:=⟨_,rfl⟩;rw[hX] at ALO ED hX1 hX2 srk;have TK:=hid (EOK.out k hlt);obtain⟨T,hT⟩:∃ T,walkN I q k d (top-d) X=T:=⟨_,rfl⟩;rw[hT] at ALO ED;have HT32:=hid (show T.length=32 by rw[ED.out];exact TK.out.1);have OO:=hid oo;have OD:=hid od;have K0:=hid k0;have K1:=hid k1;have BW:=hid bw;have CK:=hid ck;have HX1:=hid hX1;have SRK:=hid srk;have HSK:=hid hsk;have olg:gd<wr.heap.size:=ol;clear oo od k0 k1 bw hX hT hd hd2 oc ol ck hd1 hX1 hX2 srk hsk
   go_upto_region 10 with(fail)
   refine world_is (λY=>Blk Y wr.heap.size 23 (u8s z32)∧Below wr.heap.size wr Y) ⟨Blk.new wr _ (u8s z32),(Below.refl _ _).alloc (Nat.le_refl _) _⟩ ?_
   rintro Y ⟨x0,bx⟩
   have X0:=hid (show Blk Y.drew wr.heap.size 23 ([]++(u8s z32++[])) by rw[List.nil_append,List.append_nil];exact x0.drew);have BX:=hid bx.drew;clear x0 bx;have hsk:=HSK.out;have g1:IntKind.i64.wrap (32 * (k:Int))=32 * (k:Int):=IntWalk.i64_in _ (by omega);have g2:IntKind.i64.wrap (36+32 * (k:Int))=36+32 * (k:Int):=IntWalk.i64_in _ (by omega);have g3:IntKind.i64.wrap (68+32 * (k:Int))=68+32 * (k:Int):=IntWalk.i64_in _ (by omega);refine wp_region_held (S:=λ_=>True) (by kernel_rfl) ?_;change wpAnyH _ _ _ _ _ _ _ _ Y.drew;obtain⟨V,hV⟩:∃ V,Y.drew=V:=⟨_,rfl⟩;rw[hV] at X0 BX ⊢;clear hV;refine tka9 0 trivial ?_;refine tka9 1 trivial ?_;refine tka9 2 trivial ?_;refine tka9 3 trivial ?_;refine tka9 4 trivial ?_;refine tka9 5 trivial ?_;refine tka9 6 trivial ?_;refine tka9 7 trivial ?_;refine tka9 8 trivial ?_;refine rdw9 9 λK hK=>?_
   have HL1:=hid (show(u8s z32).length=(u8s X).length by rw[u8s_length,u8s_length,HX1.out];rfl);have HL2:=hid (show(u8s X).length=32 by rw[u8s_length,HX1.out]);refine wcopy_part (.tmp 48) (.tmp 56) 25 25 5 wr.heap.size 0 32 32 32 cc 32 (some ⟨wr.heap.size,0,none⟩) pk 23 [] (u8s z32) [] (u8s X) rfl Tryz.underlying25 byte_size X0.out rfl HL1.out HL2.out (by go_simp) (by go_simp) (λ_=>⟨rfl,(SRK.out.below (BW.out.trans (BX.out.mono BW.out.size))).cells (by rw[HX1.out];decide)⟩) (u8s_each _) HL2.out ?_;intro w3 a1 a2 a3;have X3:=hid (show Blk w3 wr.heap.size 23 (u8s X) by have:=a1.out;rwa [List.nil_append,List.append_nil] at this);have BX3:=hid (BX.out.trans (a2.out.below (B':=wr.heap.size) (Nat.le_refl _) BX.out.size));clear a1 a2 a3 X0 BX;refine hK.out _ _ trivial (λ_=>?_);clear hK K;refine wpAnyH_done (by kernel_rfl) ?_ _;go_simp;clear hsk g1 g2 g3;obtain⟨gx,hgx⟩:∃ g,wr.heap.size=g:=⟨_,rfl⟩;have hgx2:gd<gx:=by rw[←hgx];exact olg
   have I3:=hid (K0.out.below BX3.out K0.out.lt);have C3:=hid (show w3.cell? ⟨gd,k,none⟩=some (.int .i64 (d:Int)) from(BX3.out.cell (p:=⟨gd,k,none⟩) olg).trans CK.out);rw[hgx] at X3 ⊢
   go_upto_region 11 with(fail)
   have I4:=hid I3.out.drew;have C4:=hid (show w3.drew.cell? ⟨gd,k,none⟩=some (.int .i64 (d:Int)) from C3.out);have X4:=hid X3.out.drew;have BX4:=hid BX3.out.drew;have hgI:w.heap.size<w3.drew.heap.size:=I4.out.lt;refine wp_region_E (λX'=>X'.rangeAt w.heap.size 0 (u8s I)∧X'.cell? ⟨gd,k,none⟩=some (.int .i64 (d:Int))∧X'.rangeAt gx 0 (u8s X)) (λi=>i == 13) (by kernel_rfl) ?_;change wpAnyE _ _ _ _ _ _ _ _ _ w3.drew;obtain⟨V,hV⟩:∃ V,w3.drew=V:=⟨_,rfl⟩;rw[hV] at I4 C4 X4 BX4 hgI ⊢;clear hV I3 C3 X3 BX3;have r1:V.rangeAt w.heap.size 0 (u8s I)∧V.cell? ⟨gd,k,none⟩=some (.int .i64 (d:Int))∧V.rangeAt gx 0 (u8s X):=⟨range_of_blk I4.out,C4.out,range_of_blk X4.out⟩;have f0:=F0.out;have f1:=F1.out;have f2:=F2.out;refine wpAnyE_take (i:=0) (v:= .agg (u8s I).toArray) rfl (by kernel_rfl) (by kernel_rfl) (by kernel_rfl) (by kernel_rfl) (λ_ _ _ h=>h) (yieldsIf_load_mid (by kernel_rfl) 44 (.tmp 5) rfl w.heap.size 0 (by go_simp) (u8s I) _ (λ_ h=>h.1) Tryz.underlying44 rfl (size16 _ HI.out)) r1 ?_;refine tkea9 1 r1 ?_;refine tkea9 2 r1 ?_;refine tkea9 3 r1 ?_;refine tkea9 4 r1 ?_;refine tkea9 5 r1 ?_;refine tke9 6 ?_ ?_ r1 ?_;rotate_left 1
   ·(intro w hS;have hs:=hS.2.1;clear hS;go_simp;try (with_reducible rfl))
   refine tkea9 7 r1 ?_;refine tkea9 8 r1 ?_;refine tkea9 9 r1 ?_;refine tkea9 10 r1 ?_;refine wpAnyE_take (i:=11) (v:= .agg (u8s X).toArray) rfl (by kernel_rfl) (by kernel_rfl) (by kernel_rfl) (by kernel_rfl) (λ_ _ _ h=>h) (yieldsIf_load_mid (by kernel_rfl) 23 (.tmp 16) rfl gx 0 (by go_simp) (u8s X) _ (λ_ h=>h.2.2) Tryz.underlying23 rfl (size32 _ HX1.out)) r1 ?_;clear f0 f1 f2;refine wpAnyE_one (i:=12) (by kernel_rfl) rfl (by kernel_rfl) (λK hK=>?_);go_simp;refine(ALO.out V).mono ?_
   rintro e w5' ⟨rfl,b5⟩
   have hgd5:gd<V.heap.size:=Nat.lt_of_lt_of_le olg BX4.out.size;have r5:w5'.rangeAt w.heap.size 0 (u8s I)∧w5'.cell? ⟨gd,k,none⟩=some (.int .i64 (d:Int))∧w5'.rangeAt gx 0 (u8s X):=⟨range_of_blk (I4.out.below b5 I4.out.lt),(b5.cell (p:=⟨gd,k,none⟩) hgd5).trans C4.out,range_of_blk (X4.out.below b5 X4.out.lt)⟩;have X5:=hid (X4.out.below b5 X4.out.lt);have BX5:=hid (BX4.out.trans (b5.mono BX4.out.size));refine hK.out _ _ (.inr r5) ?_;clear hK K;refine wpAnyE_one (i:=13) (by kernel_rfl) rfl (by kernel_rfl) (λK hK=>?_);refine wstore_part 23 (.tmp 16) (.tmp 70) gx 0 23 [] (u8s X) [] (u8s T) rfl (by rw[List.nil_append,List.append_nil];exact X5.out) rfl (by rw[u8s_length,u8s_length,HX1.out,HT32.out]) (size32 _ HT32.out) (u8s_one _) rfl rfl ?_;intro w6 a1 a2 a3;have DZ:=hid (show Blk w6 gx 23 (u8s T) by have:=a1.out;rwa [List.nil_append,List.append_nil] at this);have bz:Below wr.heap.size wr w6:=BX5.out.trans (a2.out.below (by rw[hgx];exact Nat.le_refl _) BX5.out.size);refine hK.out _ _ (.inl rfl) ?_;clear hK K;refine wpAnyE_done (by kernel_rfl) ?_ _;go_simp;have O2:=hid (own_below OO.out bz);have OD2:=hid (own_below OD.out bz);have J0:=hid (K0.out.below bz K0.out.lt);have J1:=hid (K1.out.below bz K1.out.lt);have B2:=hid (BW.out.trans (bz.mono BW.out.size));have SZ:=hid (Sr.of_blk (xs:=T) (rest:=[]) DZ.out (by simp));have HCL:=hid (catN_length E k (λj hj=>(EOK.out j (by omega)).1));have HCS:=hid (show catN E (k+1)=catN E k++T by rw[catN,ED.out]);obtain⟨Z,hZ⟩:∃ Z,catN E k=Z:=⟨_,rfl⟩;rw[hZ] at O2 HCS HCL;clear a1 a2 a3 bz OO OD K0 K1 BW hZ CK DZ X5 BX5 r1 r5 I4 C4 X4 BX4 ALO ED TK
   go_wp2_with ((with_reducible refine at_op (.call { callee:= .builtin .append,args:= #[.tmp 71,.tmp 72],argTypes:= #[25,25] }) rfl ?_);go_must (refine append_bytes (.tmp 71) (.tmp 72) 25 rfl rfl 5 Tryz.underlying25 byte_info w.heap.size (.slice A' (32 * k) c') (32 * k) Z T rfl O2.out (some ⟨gx,0,none⟩) 32 32 rfl HT32.out SZ.out (by omega) B2.out.size ?_);intro v3 w9 a1 a2 a3)
   obtain⟨A3,c3,rfl,hc3⟩:=own_form a1.out;have Q0:=hid (own_kept_blk O2.out a2.out J0.out (by decide));have Q1:=hid (own_kept_blk O2.out a2.out J1.out (by decide));have QD:=hid (own_kept (F:=λz=>(Value.slice A' (32 * k) c').ownBlock=some z) OD2.out ((Kept.refl (λz=>(Value.slice A' (32 * k) c').ownBlock=some z) _).grown a2.out (λz e=> .inl e)) (λz e he=>own_types OD2.out O2.out (by decide) z e he));have B3:=hid (B2.out.grown a2.out B2.out.size (λi e=>(O2.out.lt i e).1));clear hc3
   go_roundw
   case rel=>
    refine⟨k+1,A3,c3,by omega,by go_num,rfl,?_,QD.out,Q0.out,Q1.out,B3.out⟩;rw[HCS.out];exact a1.out
   case measure=>simp[intOf];omega
  ·obtain rfl:k=p:=by omega
   have HCL:=hid (catN_length E k (λj hj=>(EOK.out j hj).1));have HCB:=hid (catN_bytes E k (λj hj=>(EOK.out j hj).2));obtain⟨Z,hZ⟩:∃ Z,catN E k=Z:=⟨_,rfl⟩;rw[hZ] at oo HCL HCB HCN;have SY:=hid (Sr.of_own oo);have K0:=hid k0;have K1:=hid k1;have BW:=hid bw;clear oo od k0 k1 bw hZ
   go_wp2_with ((with_reducible refine load_blk 44 (.tmp 5) w.heap.size 44 (u8s I) _ rfl rfl ?_ Tryz.underlying44 ?_ ?_ ?_ ?_);exact K0.out;exact rfl;exact size16 _ HI.out;exact rfl)
   refine(ENDS.out Z (32 * k) A' c' wr HCL.out SY.out HCB.out (by rw[HCL.out];omega)).mono ?_
   rintro e w3 ⟨rfl,b3⟩
   rw[←HCN.out];have HPL:=hid (show(candN I q i ys xs).length=32 from rfl);obtain⟨S,hS⟩:∃ S,candN I q i ys xs=S:=⟨_,rfl⟩;rw[hS] at HPL ⊢;have HSS:=hid hS;have R3:=hid (K1.out.below b3 K1.out.lt);have B3:=hid (BW.out.trans (b3.mono BW.out.size));clear b3 hS
   go_wp2_with ((with_reducible refine store_blk 23 (.tmp 10) (.tmp 77) (w.heap.size+1) 23 (u8s z32) (u8s S) rfl rfl ?_ ?_ ?_ ?_ ?_ ?_ ?_);exact R3.out;exact hash_len _ HPL.out;exact size32 _ HPL.out;exact u8s_one _;exact rfl;exact rfl)
   refine ret_blk2 (p:=10) (u:=11) (ty:=23) rfl rfl (w.heap.size+1) 23 (u8s S) _ rfl (R3.out.setRow _) Tryz.underlying23 rfl (size32 _ HPL.out) (.int .i64 0) rfl ?_;exact⟨by rw[HSS.out],below_setRow B3.out (by omega) _⟩
end Go.Proofs.YtjlophplcmidlaaGreatDoor
