/-
  THE REFERENCE OF CHAPTERS 2, 6, 7, what a space's bytes want
-/
import Derived.Test.YtjlophplcmidlaaGreatDoorAd15
import Derived.Test.YtjlophplcmidlaaGreatDoorAd22
import Derived.Deep.DeepCutAuto
open Go.Lib (hid)
set_option maxRecDepth 100000
namespace Go.Proofs.YtjlophplcmidlaaGreatDoor
open Go Go.RowKit Sh
theorem rowC_get (G:Nat→Fld):∀ n j i,j<n→i<3→(rowC G n)[j * 3+i]? =(fv (G j))[i]?
 |0,j,_,hj,_=>absurd hj (by omega)
 |n+1,j,i,hj,hi=>by
  rw[rowC];rcases Nat.lt_or_ge j n with hlt |hge
  ·rw[List.getElem?_append_left (by rw[rowC_length];omega),rowC_get G n j i hlt hi]
  ·obtain rfl:j=n:=by omega
   rw[List.getElem?_append_right (by rw[rowC_length];omega),rowC_length,Nat.add_sub_cancel_left]
theorem rowC_one (G:Nat→Fld):∀ n,∀ v∈rowC G n,v.oneCell'=true
 |0=>λv hv=>absurd hv List.not_mem_nil
 |n+1=>λv hv=>by
  rcases List.mem_append.1 hv with h |h
  ·exact rowC_one G n v h
  ·simp only[fv,List.mem_cons,List.not_mem_nil,or_false] at h;rcases h with rfl |rfl |rfl<;>rfl
theorem rw_of_own {W:World} {base n c:Nat} {A:Option Addr} {G:Nat→Fld} (h:W.ownsRow base 190 3 (.slice A n c) n (rowC G n)):Rw W A n G:=λj hj=>by
 rcases h.2 with⟨_,h0⟩ |⟨g,cap,cur,e,_,hh,_⟩
 ·omega
 ·have hA:A=some ⟨g,0,none⟩:=by injection e
  subst hA;refine⟨g,0,rfl,(Array.getElem?_eq_some_iff.1 hh).1,λi v hv=>?_⟩;have hi:i<3:=(List.getElem?_eq_some_iff.1 hv).1;rw[show 0+j * 3+i=j * 3+i by omega,h.cellAt (j * 3+i) (by omega),rowC_get G n j i hj hi];exact hv
theorem Rw.flat {W:World} {p:Option Addr} {n:Nat} {G:Nat→Fld} (h:Rw W p n G) (hn:0<n):∃ a:Addr,p=some a∧a.spot=none∧∀ j u,(rowC G n)[j]? =some u→W.cell? (a.add j)=some u:=by
 obtain⟨b,o,rfl,_,_⟩:=h 0 hn;refine⟨⟨b,o,none⟩,rfl,rfl,λj u hu=>?_⟩;have hj:j<n * 3:=by have:=(List.getElem?_eq_some_iff.1 hu).1;rwa [rowC_length] at this
 obtain⟨b',o',e,_,r⟩:=h (j / 3) (by omega)
 injection e with e
 injection e with e1 e2
 subst e1 e2;rw[show j=j / 3 * 3+j % 3 by omega,rowC_get G n (j / 3) (j % 3) (by omega) (by omega)] at hu;have:=r (j % 3) u hu;rw[show o+j / 3 * 3+j % 3=o+j by omega] at this;rw[show(⟨b,o,none⟩:Addr).add j=⟨b,o+j,none⟩ by unfold Addr.add;split<;>simp_all];exact this
section
variable {ops : Array Oper} {rest : List Oper} {o : Oper} {a : Act} {Q : Exit → Act → World → Prop} {w : World}
theorem run_append_flds (ty:TypeId) (base:Nat) (v:Value) (n:Nat) (xs:List Value) (hown:w.ownsRow base 190 3 v n xs) (p:Option Addr) (m c:Nat) (H:Nat→Fld) (hm:0<m) (hp:Rw w p m H) (h63:n+m≤1000000) (hbase:base≤w.heap.size):
  ∃ v' w',(Builtin.append_ #[75,75] ty #[v,.slice p m c]).run Tryz.prog w= .ok v' w'∧w'.ownsRow base 190 3 v' (n+m) (xs++rowC H m)∧w.grownBy w' v.ownBlock∧(v'.ownBlock=v.ownBlock∨v'.ownBlock=some w.heap.size):=by
 have hinfo:(Tryz.prog.info? 190).map (λi=>(i.zero,i.size,i.bytes))=some (some (.agg zC),3,32):=by kernel_rfl
 obtain⟨i,hi,hzz⟩:=Option.map_eq_some_iff.1 hinfo;simp only[Prod.mk.injEq] at hzz;obtain⟨hz,hs,hb⟩:=hzz;obtain⟨ad,rfl,_,hc⟩:=hp.flat hm;obtain⟨v',w',hr,h2,h3,_,h5⟩:=run_append_own_at (P:=Tryz.prog) w base 75 ty 190 i (.agg zC) 3 32 Tryz.underlying75 hi hz hs hb rfl (by omega) v n xs hown ad m c (rowC H m) (by rw[rowC_length]) hc (rowC_one H m) (by simp only[maxLen];omega) (by omega) hbase;exact⟨v',w',hr,h2,h3,h5⟩
theorem append_flds (s x:Operand) (hgd:o.guard=none) (ho:o.op= .call { callee:= .builtin .append,args:= #[s,x],argTypes:= #[75,75] })
  (base:Nat) (v:Value) (n:Nat) (xs:List Value) (hs:a.eval s=v) (hown:w.ownsRow base 190 3 v n xs) (p:Option Addr) (m c:Nat) (hx:a.eval x= .slice p m c) (H:Nat→Fld) (hm:0<m) (hp:Rw w p m H) (h63:n+m≤1000000) (hbase:base≤w.heap.size)
  (h:∀ v' w',Hid (w'.ownsRow base 190 3 v' (n+m) (xs++rowC H m))→Hid (w.grownBy w' v.ownBlock)→Hid (v'.ownBlock=v.ownBlock∨v'.ownBlock=some w.heap.size)→wpList Tryz.prog ops Q rest (a.put o.dst v') w'):wpList Tryz.prog ops Q (o::rest) a w:=by
 refine wpList_plain hgd λK hK=>?_
 obtain⟨v',w',hr,h2,h3,h5⟩:=run_append_flds (w:=w) o.type base v n xs hown p m c H hm hp h63 hbase;unfold Oper.wp execOp;simp only[ho,resolve,invoke,builtin,Sem.run_bind,Sem.run_pure,Result.andThen_ok,List.map_toArray,List.map_cons,List.map_nil,hs,hx,hr];exact hK _ _ (h v' w' (hid h2) (hid h3) (hid h5))
end
structure PC (w0 W:World) (v:Value) (xs:List Nat):Prop where
 own:W.ownsRow w0.heap.size 5 1 v xs.length (u8s xs)
 bel:Below w0.heap.size w0 W
structure Rr (w0 w:World) (g:Nat) (xs:List Nat) (bad:Bool):Prop where
 is:∃ A c,Blk w g 130 [.slice A xs.length c,.bool bad]∧xs.length≤c∧Sr w0 A xs
 none_:bad=true→xs=[]
 bel:Below w0.heap.size w0 w
 low:w0.heap.size≤g
theorem Rr.lt {w0 w:World} {g:Nat} {xs:List Nat} {bad:Bool} (x:Rr w0 w g xs bad):g<w.heap.size:=by
 obtain⟨_,_,h,_⟩:=x.is;exact h.lt
theorem Rr.below {w0 w w':World} {g:Nat} {xs:List Nat} {bad:Bool} (x:Rr w0 w g xs bad) (hb:Below w.heap.size w w'):Rr w0 w' g xs bad:=by
 obtain⟨A,c,h1,h2,h3⟩:=x.is;exact⟨⟨A,c,h1.below hb h1.lt,h2,h3⟩,x.none_,x.bel.trans (hb.mono x.bel.size),x.low⟩
theorem rraw_bad (g:Nat) (xs:List Nat) (bad:Bool) (n:Nat) (w0 w:World) (x:Rr w0 w g xs bad) (hn:bad=true∨xs.length<n):
  Calls Tryz.prog 124 #[.pointer (some ⟨g,0,none⟩),.int .i64 (n:Int)] w λe w'=>e= .returned (.slice none 0 0)∧Rr w0 w' g [] true∧Kept (λk=>k=g) w w':=by
 obtain⟨A,c,h1,h2,h3⟩:=x.is;have c0:w.cell? ⟨g,0,none⟩=some (.slice A xs.length c):=h1.cell 0;have c1:w.cell? ⟨g,1,none⟩=some (.bool bad):=h1.cell 1;have f0:=h1.frozen 0;have f1:=h1.frozen 1;have H1:=hid h1;have BL:=hid x.bel;have LO:=hid x.low;have n0:¬ ((n:Int)<0):=by omega
 clear x h1 h2 h3;have fin:∀ W,W=(w.setCell ⟨g,1,none⟩ (.bool true)).setCell ⟨g,0,none⟩ (.slice none 0 0)→Rr w0 W g [] true∧Kept (λk=>k=g) w W:=λW hW=>by
  subst hW;have kk:Kept (λk=>k=g) w ((w.setCell ⟨g,1,none⟩ (.bool true)).setCell ⟨g,0,none⟩ (.slice none 0 0)):=Kept.setCell (F:=λk=>k=g) (Kept.setCell (F:=λk=>k=g) (Kept.refl _ w) (p:=⟨g,1,none⟩) (.inl rfl) _) (p:=⟨g,0,none⟩) (.inl rfl) _;exact⟨⟨⟨none,0,(H1.out.store 1 (.bool true)).store 0 (.slice none 0 0),Nat.le_refl _,Sr.nil⟩,λ_=>rfl,kept_below BL.out kk LO.out,LO.out⟩,kk⟩
 have FIN:=hid fin;clear fin
 cases bad with
 |true=>
  clear hn
  go_enter Tryz.func124,Tryz.ntmps124
  go_wp2
  go_ret;exact⟨rfl,FIN.out _ rfl⟩
 |false=>
  have h:xs.length<n:=by simpa using hn
  have i1:(xs.length:Int)< (n:Int):=by omega
  clear hn h
  go_enter Tryz.func124,Tryz.ntmps124
  go_wp2
  go_ret;exact⟨rfl,FIN.out _ rfl⟩
theorem rraw_ok (g:Nat) (xs:List Nat) (n:Nat) (w0 w:World) (x:Rr w0 w g xs false) (hn:n≤xs.length):
  Calls Tryz.prog 124 #[.pointer (some ⟨g,0,none⟩),.int .i64 (n:Int)] w λe w'=>(∃ A c,e= .returned (.slice A n c)∧n≤c∧Sr w' A (xs.take n))∧Rr w0 w' g (xs.drop n) false∧Kept (λk=>k=g) w w':=by
 obtain⟨A,c,h1,hc,h3⟩:=x.is;have H1:=hid h1;have H3:=hid h3;have BL:=hid x.bel;have LO:=hid x.low;have HN:=hid hn;have HC:=hid hc;obtain⟨p2,hp2,he2⟩:=slice_low (P:=Tryz.prog) (t:=25) (e:=5) Tryz.underlying25 byte_size A xs.length c .i64 n hn hc;have he1:=slice_high (P:=Tryz.prog) (t:=25) (e:=5) Tryz.underlying25 byte_size A xs.length c .i64 n (by omega);have HP2:=hid hp2;have c0:w.cell? ⟨g,0,none⟩=some (.slice A xs.length c):=h1.cell 0;have c1:w.cell? ⟨g,1,none⟩=some (.bool false):=h1.cell 1;have f0:=h1.frozen 0;have i1:(n:Int)≤(xs.length:Int):=by omega
 have n0:¬ ((n:Int)<0):=by omega
 clear x h1 h3 hp2
 go_enter Tryz.func124,Tryz.ntmps124
 go_wp2
 go_ret;have kk:Kept (λk=>k=g) w (w.setCell ⟨g,0,none⟩ (.slice p2 (xs.length-n) (c-n))):=Kept.setCell (F:=λk=>k=g) (Kept.refl _ w) (p:=⟨g,0,none⟩) (.inl rfl) _;have bb:=kept_below BL.out kk LO.out;refine⟨⟨A,c,rfl,by have:=HN.out;have:=HC.out;omega,(H3.out.take n).below bb⟩,⟨⟨p2,c-n,?_,?_,H3.out.drop HP2.out⟩,(λe=>by cases e),bb,LO.out⟩,kk⟩
 ·rw[List.length_drop];exact H1.out.store 0 (.slice p2 (xs.length-n) (c-n))
 ·rw[List.length_drop];have:=HC.out;omega
set_option maxHeartbeats 400000 in
theorem rrnum_t (g:Nat) (xs:List Nat) (bad:Bool) (n:Nat) (w0 w:World) (x:Rr w0 w g xs bad) (hb:Bytes xs) (h1:1≤n) (h2:n≤8):
  Calls Tryz.prog 87 #[.pointer (some ⟨g,0,none⟩),.int .i64 (n:Int)] w λe w'=>e= .returned (.int .u64 ((rNum xs bad n).1 :Nat))∧Rr w0 w' g (rNum xs bad n).2.1 (rNum xs bad n).2.2 ∧Kept (λk=>k=g) w w':=by
 have i1:(1:Int)≤(n:Int):=by omega
 have i8:(n:Int)≤8:=by omega
 unfold rNum
 by_cases h:xs.length<n
 ·rw[if_pos h];have HT:=hid (rraw_bad g xs bad n w0 w x (.inr h));clear x h hb
  go_enter Tryz.func87,Tryz.ntmps87
  go_wp2_with (go_at_call 124;refine(HT.out).mono ?_;rintro e w2 ⟨rfl,x2,k2⟩;have X2:=hid x2;have K2:=hid k2;clear x2 k2)
  go_loop [6,7] (λv i=>v= .int .u64 0∧i= .int .i64 0) (λ_ _=>0)
  case atStart=>exact⟨rfl,rfl⟩
  case round=>
   obtain⟨rfl,rfl⟩:=hrel
   go_wp2
   go_ret;exact⟨rfl,X2.out,K2.out⟩
 ·rw[if_neg h];obtain rfl:bad=false:=by
   cases hq:bad with
   |false=>rfl
   |true=>
    have:=x.none_ hq;subst this;exact absurd (show([]:List Nat).length<n by simp;omega) h
  have HT:=hid (rraw_ok g xs n w0 w x (by omega));have HB:=hid hb;have HL:=hid (show n≤xs.length by omega);clear x h hb
  go_enter Tryz.func87,Tryz.ntmps87
  go_wp2_with (go_at_call 124;refine(HT.out).mono ?_;rintro e w2 ⟨⟨A,c,rfl,hc,hs⟩,x2,k2⟩;have X2:=hid x2;have K2:=hid k2;have HS:=hid hs;clear x2 k2 hs)
  obtain⟨b,o,rfl,_,hby⟩:=HS.out (by rw[List.length_take];have:=HL.out;omega);have HBY:=hid hby
  clear hby HT
  go_loop [6,7] (λv i=>∃ k:Nat,k≤n∧v= .int .u64 (val (xs.take k):Nat)∧i= .int .i64 k) (λ_ i=>n- (intOf i).toNat)
  case atStart=>exact⟨0,by omega,rfl,rfl⟩
  case round=>
   obtain⟨k,hk,rfl,rfl⟩:=hrel
   by_cases hlt:k<n
   ·have hl:=HL.out;have c0:=HBY.out k (by rw[List.length_take];omega);have e0:gt (xs.take n) k=gt xs k:=by simp[gt,List.getD_eq_getElem?_getD,hlt]
    rw[e0] at c0;clear e0;have b0:=HB.out k
    go_wp2
    go_round
    case rel=>
     refine⟨k+1,by omega,?_,by go_num⟩;rw[or_step _ _ (val_small _ (bytes_take HB.out k) (by rw[List.length_take];omega)) b0,List.take_succ_eq_append_getElem (by omega),val_snoc,←gt_of_lt]
    case measure=>simp[intOf];omega
   ·obtain rfl:k=n:=by omega
    go_wp2
    go_ret;exact⟨rfl,X2.out,K2.out⟩
theorem rrend_t (g:Nat) (xs:List Nat) (bad:Bool) (w0 w:World) (x:Rr w0 w g xs bad):Calls Tryz.prog 90 #[.pointer (some ⟨g,0,none⟩)] w λe w'=>e= .returned (.int .i64 (endN xs bad:Nat))∧w=w':=by
 obtain⟨A,c,h1,_,_⟩:=x.is;have c0:w.cell? ⟨g,0,none⟩=some (.slice A xs.length c):=h1.cell 0;have c1:w.cell? ⟨g,1,none⟩=some (.bool bad):=h1.cell 1;unfold endN
 cases bad with
 |true=>
  rw[if_pos (.inl rfl)];clear x h1
  go_enter Tryz.func90,Tryz.ntmps90
  go_wp2
  go_ret;exact⟨rfl,rfl⟩
 |false=>
  by_cases h:0<xs.length
  ·rw[if_pos (.inr h)];have i1:(0:Int)< (xs.length:Int):=by omega
   clear x h1 h
   go_enter Tryz.func90,Tryz.ntmps90
   go_wp2
   go_ret;exact⟨rfl,rfl⟩
  ·rw[if_neg (λq=>q.elim (λe=>by cases e) h)];have i1:xs.length=0:=by omega
   rw[i1] at c0;clear x h1 h i1
   go_enter Tryz.func90,Tryz.ntmps90
   go_wp2
   go_ret;exact⟨rfl,rfl⟩
def rTxtM (xs:List Nat) (bad:Bool) (most:Nat):List Nat×List Nat×Bool:=
 if (rNum xs bad 4).1 ≤most∧(rNum xs bad 4).1 ≤(rNum xs bad 4).2.1.length∧(rNum xs bad 4).2.2 =false then((rNum xs bad 4).2.1.take (rNum xs bad 4).1,(rNum xs bad 4).2.1.drop (rNum xs bad 4).1,false) else([],[],true)
theorem rTxtM_eq (xs:List Nat) (most:Nat):rTxtM xs false most=rTxt xs false most:=by
 unfold rTxtM rTxt rNum
 by_cases h:xs.length<4
 ·rw[if_pos h,if_neg (by simp),if_neg (by omega)]
 ·rw[if_neg h];simp only[List.length_drop]
  by_cases h2:val (xs.take 4)≤most∧val (xs.take 4)≤xs.length-4
  ·rw[if_pos ⟨h2.1,h2.2,by simp⟩,if_pos ⟨by omega,h2.1,h2.2⟩]
  ·rw[if_neg (λq=>h2 ⟨q.1,q.2.1⟩),if_neg (λq=>h2 ⟨q.2.1,q.2.2⟩)]
theorem rTxtM_bad (most:Nat):rTxtM [] true most=([],[],true):=by
 unfold rTxtM rNum;rw[if_pos (show([]:List Nat).length<4 by decide),if_neg (by simp)]
set_option maxHeartbeats 400000 in
theorem rrtxt_t (g:Nat) (xs:List Nat) (bad:Bool) (most:Nat) (w0 w:World) (x:Rr w0 w g xs bad) (hb:Bytes xs) (hm:most≤2000000) (hl:xs.length≤70368744177664):
  Calls Tryz.prog 125 #[.pointer (some ⟨g,0,none⟩),.int .i64 (most:Int)] w λe w'=>(∃ A c,e= .returned (.slice A (rTxtM xs bad most).1.length c)∧(rTxtM xs bad most).1.length≤c∧Sr w' A (rTxtM xs bad most).1)∧Rr w0 w' g (rTxtM xs bad most).2.1 (rTxtM xs bad most).2.2 ∧Kept (λk=>k=g) w w':=by
 have NM:=hid (rrnum_t g xs bad 4 w0 w x hb (by decide) (by decide));obtain⟨hyb,hyl,hyv⟩:=rNum_bytes xs bad 4 hb;have hT:rTxtM xs bad most=if (rNum xs bad 4).1 ≤most∧(rNum xs bad 4).1 ≤(rNum xs bad 4).2.1.length∧(rNum xs bad 4).2.2 =false then((rNum xs bad 4).2.1.take (rNum xs bad 4).1,(rNum xs bad 4).2.1.drop (rNum xs bad 4).1,false) else([],[],true):=rfl
 rw[hT];obtain⟨⟨v,ys,b2⟩,hR⟩:∃ r,rNum xs bad 4=r:=⟨_,rfl⟩;simp only[hR] at NM hyb hyl hyv ⊢;have hmx:max (most:Int) 0=(most:Int):=by omega
 have hmw:IntKind.u64.wrap (most:Int)=(most:Int):=IntWalk.u64_in _ (by omega);have hv4:v<4294967296:=hyv;obtain⟨res,hres⟩:∃ r:List Nat×List Nat×Bool,(if v≤most∧v≤ys.length∧b2=false then(ys.take v,ys.drop v,false) else([],[],true))=r:=⟨_,rfl⟩;rw[hres];have RES:=hid hres;clear hT hR hres x hb hyb
 go_enter Tryz.func125,Tryz.ntmps125
 go_wp2_with fail
 refine NM.out.mono ?_
 rintro e w1 ⟨rfl,x1,k1⟩
 have X1:=hid x1;have K1:=hid k1;have BL:=hid x1.bel;have LO:=hid x1.low;obtain⟨A,c,q1,q2,q3⟩:=x1.is;have c0:w1.cell? ⟨g,0,none⟩=some (.slice A ys.length c):=q1.cell 0;have c1:w1.cell? ⟨g,1,none⟩=some (.bool b2):=q1.cell 1;have f0:=q1.frozen 0;have f1:=q1.frozen 1;have Q1:=hid q1;clear x1 k1 q1 q2 q3 NM;have vw:IntKind.i64.wrap (v:Int)=(v:Int):=IntWalk.i64_in _ (by omega);have lw:IntKind.u64.wrap (ys.length:Int)=(ys.length:Int):=IntWalk.u64_in _ (by omega);have FIN:=hid (λW (hW:W=(w1.setCell ⟨g,1,none⟩ (.bool true)).setCell ⟨g,0,none⟩ (.slice none 0 0))=>show Rr w0 W g [] true∧Kept (λk=>k=g) w W from by
  subst hW;have kk:Kept (λk=>k=g) w1 ((w1.setCell ⟨g,1,none⟩ (.bool true)).setCell ⟨g,0,none⟩ (.slice none 0 0)):=Kept.setCell (F:=λk=>k=g) (Kept.setCell (F:=λk=>k=g) (Kept.refl _ w1) (p:=⟨g,1,none⟩) (.inl rfl) _) (p:=⟨g,0,none⟩) (.inl rfl) _;exact⟨⟨⟨none,0,(Q1.out.store 1 (.bool true)).store 0 (.slice none 0 0),Nat.le_refl _,Sr.nil⟩,λ_=>rfl,kept_below BL.out kk LO.out,LO.out⟩,K1.out.trans kk⟩)
 clear Q1
 by_cases hv1:v≤most
 ·have i1:(v:Int)≤(most:Int):=by omega
  by_cases hv2:v≤ys.length
  ·have i2:(v:Int)≤(ys.length:Int):=by omega
   clear FIN f0 f1
   cases b2 with
   |true=>
    have RB:=hid (rraw_bad g ys true v w0 w1 X1.out (.inl rfl));have hr:=RES.out;rw[if_neg (λq=>by cases q.2.2)] at hr;subst hr;clear RES X1 hv1 hv2;go_wp2_with fail
    refine RB.out.mono ?_
    rintro e w2 ⟨rfl,x2,k2⟩
    have X2:=hid x2;have K2:=hid (K1.out.trans (k2.mono λ_ e=>e));clear x2 k2 RB;go_wp2_with fail
    go_ret;exact⟨⟨none,⟨0,rfl⟩,Sr.nil⟩,X2.out,K2.out⟩
   |false=>
    have RB:=hid (rraw_ok g ys v w0 w1 X1.out hv2);have hr:=RES.out;rw[if_pos ⟨hv1,hv2,rfl⟩] at hr;subst hr;clear RES X1 hv1 hv2;go_wp2_with fail
    refine RB.out.mono ?_
    rintro e w2 ⟨⟨A2,cc2,rfl,hc2,hs⟩,x2,k2⟩
    have X2:=hid x2;have K2:=hid (K1.out.trans (k2.mono λ_ e=>e));have S2:=hid hs;clear x2 k2 RB hs;go_wp2_with fail
    go_ret;exact⟨⟨A2,cc2,by rw[show min v ys.length=v by omega];rfl,by first |omega |(simp;omega),S2.out⟩,X2.out,K2.out⟩
  ·have i2:(ys.length:Int)< (v:Int):=by omega
   have hr:=RES.out;rw[if_neg (λq=>hv2 q.2.1)] at hr;subst hr;clear RES X1 hv1 hv2;go_wp2_with fail
   go_ret;exact⟨⟨none,⟨0,rfl⟩,Sr.nil⟩,FIN.out _ rfl⟩
 ·have i1:(most:Int)< (v:Int):=by omega
  have hr:=RES.out;rw[if_neg (λq=>hv1 q.1)] at hr;subst hr;clear RES X1 hv1;go_wp2_with fail
  go_ret;exact⟨⟨none,⟨0,rfl⟩,Sr.nil⟩,FIN.out _ rfl⟩
theorem built_R (p:Option Addr) (m c:Nat):Tryz.prog.built 130 [(0,.slice p m c)]=some #[.slice p m c,.bool false]:=by kernel_rfl
theorem rFld_bad:rFld [] true=(⟨0,0,eS⟩,[],true):=by
 have h:rNum [] true 1=(0,[],true):=rfl;unfold rFld;rw[h];rfl
theorem stN_bad (xs:List Nat) (bad:Bool) (j:Nat) (h:stN xs bad j=([],true)):∀ i,stN xs bad (j+i)=([],true)
 |0=>h
 |i+1=>by
  show(rFld (stN xs bad (j+i)).1 (stN xs bad (j+i)).2).2 =_
  rw[stN_bad xs bad j h i,rFld_bad]
theorem rNum_fine (xs:List Nat) (n:Nat) (h:(rNum xs false n).1 ≠0):(rNum xs false n).2.2 =false:=by
 unfold rNum at h ⊢
 split
 ·rename_i q
  rw[if_pos q] at h;exact absurd rfl h
 ·rfl
section
variable {w0 w w' : World} {g : Nat} {xs : List Nat} {bad : Bool}
theorem Rr.grow (x:Rr w0 w g xs bad) {base n:Nat} {v:Value} {l:List Value} (o:w.ownsRow base 190 3 v n l) (hl:w0.heap.size≤base) (hg:w.grownBy w' v.ownBlock):Rr w0 w' g xs bad:=by
 obtain⟨A,c,h1,h2,h3⟩:=x.is;have hne:=own_apart o h1 (by decide);exact⟨⟨A,c,(hg.block g h1.lt (λe=>hne e.symm)).trans h1,h2,h3⟩,x.none_,x.bel.grown hg x.bel.size (λk e=>Nat.le_trans hl (o.lt k e).1),x.low⟩
theorem own_rr {base n:Nat} {v:Value} {l:List Value} (o:w.ownsRow base 190 3 v n l) (x:Rr w0 w g xs bad) (hk:Kept (λk=>k=g) w w'):w'.ownsRow base 190 3 v n l:=by
 obtain⟨A,c,h1,h2,h3⟩:=x.is;exact own_kept o hk (λk h e=>own_apart o h1 (by decide) (by rw[h,e]))
theorem Rr.off (x:Rr w0 w g xs bad) {g3:Nat} (hk:Kept (λk=>k=g3) w w') (hne:g≠g3) (hl:w0.heap.size≤g3):Rr w0 w' g xs bad:=by
 obtain⟨A,c,h1,h2,h3⟩:=x.is;exact⟨⟨A,c,h1.kept hk hne,h2,h3⟩,x.none_,kept_below x.bel hk hl,x.low⟩
end
structure GR (w0 W:World) (g:Nat) (v:Value) (j:Nat) (G:Nat→Fld) (zs:List Nat) (b:Bool):Prop where
 own:W.ownsRow w0.heap.size 190 3 v j (rowC G j)
 rd:Rr w0 W g zs b
structure GF (w0 W:World) (g g3:Nat) (v:Value) (j:Nat) (G:Nat→Fld) (zs:List Nat) (b:Bool) (f:Fld):Prop where
 own:W.ownsRow w0.heap.size 190 3 v j (rowC G j)
 rd:Rr w0 W g zs b
 fld:Blk W g3 190 (fv f)
 ne:g≠g3
 low:w0.heap.size≤g3
 off:∀ k,v.ownBlock=some k→k<g3
section
variable {w0 w w' : World} {g g3 : Nat} {v : Value} {j : Nat} {G : Nat → Fld} {zs ys : List Nat} {b b' : Bool} {f f' : Fld}
theorem GF.read (h:GF w0 w g g3 v j G zs b f) (hk:Kept (λk=>k=g) w w') (x:Rr w0 w' g ys b'):GF w0 w' g g3 v j G ys b' f:=
 ⟨own_rr h.own h.rd hk,x,h.fld.kept hk (λe=>h.ne e.symm),h.ne,h.low,h.off⟩
theorem GF.store (h:GF w0 w g g3 v j G zs b f) (hk:Kept (λk=>k=g3) w w') (hf:Blk w' g3 190 (fv f')):GF w0 w' g g3 v j G zs b f':=
 ⟨own_kept h.own hk (λk e q=>by have:=h.off k e;omega),h.rd.off hk h.ne h.low,hf,h.ne,h.low,h.off⟩
theorem GF.more (h:GF w0 w g g3 v j G zs b f) (hf:G j=f) {v':Value} (ow:(w.alloc (.cells (rowC (λ_=>f) 1).toArray 190)).ownsRow w0.heap.size 190 3 v j (rowC G j))
  (a1:w'.ownsRow w0.heap.size 190 3 v' (j+1) (rowC G j++rowC (λ_=>f) 1)) (a2:(w.alloc (.cells (rowC (λ_=>f) 1).toArray 190)).grownBy w' v.ownBlock):GR w0 w' g v' (j+1) G zs b:=
 ⟨by rw[rowC,hf];exact a1,(h.rd.below ((Below.refl _ _).alloc (Nat.le_refl _) _)).grow ow (Nat.le_refl _) a2⟩
theorem GR.open (h:GR w0 w g v j G zs b) {W1:World} (hk:Kept (λk=>k=g) w W1) (x:Rr w0 W1 g ys b') (f:Fld):GF w0 (W1.alloc (.cells (fv f).toArray 190)) g W1.heap.size v j G ys b' f:=
 ⟨own_below (own_rr h.own h.rd hk) ((Below.refl _ _).alloc (Nat.le_refl _) _),x.below ((Below.refl _ _).alloc (Nat.le_refl _) _),Blk.new W1 _ (fv f),by have:=x.lt;omega,x.bel.size,λk e=>by have:=(h.own.lt k e).2;have:=hk.size;omega⟩
end
theorem nf_own {W:World} {base n c:Nat} {A:Option Addr} {l:List Value} (h:W.ownsRow base 190 3 (.slice A n c) n l):NF W base A:=by
 rcases h.2 with⟨h0,_⟩ |⟨g,cap,cur,e,hb,hh,_⟩
 ·injection h0 with h1
  subst h1;exact NF.no _ _
 ·have hA:A=some ⟨g,0,none⟩:=by injection e
  subst hA;exact⟨λa ha=>by injection ha with ha;subst ha;exact hb,λa ha=>by injection ha with ha;subst ha;exact⟨cur.toList,by unfold Blk;rw[Array.toArray_toList];exact hh⟩⟩
set_option maxHeartbeats 1000000 in
theorem refget_t (xs:List Nat) (p:Option Addr) (m c:Nat) (w:World) (hx:xs.length=m) (hc:m≤c) (hp:Sr w p xs) (hb:Bytes xs) (hl:m≤70368744177664):
  Calls Tryz.prog 126 #[.slice p m c] w λe w'=>Below w.heap.size w w'∧((getOK xs=false∧e= .returned (.tuple #[.slice none 0 0,.int .i64 2]))∨(getOK xs=true∧∃ A c',e= .returned (.tuple #[.slice A (cntN xs) c',.int .i64 0])∧Rw w' A (cntN xs) (gotN xs)∧NF w' w.heap.size A)):=by
 subst hx;have HP:=hid hp;have HC:=hid hc;have NM:=hid (λX g (h:Rr w X g xs false)=>rrnum_t g xs false 1 w X h hb (by decide) (by decide));obtain⟨hb1,hl1,hn1⟩:=rNum_bytes xs false 1 hb;have hG:∀ j,gotN xs j=fldN (rNum xs false 1).2.1 (rNum xs false 1).2.2 j:=λj=>rfl
 have hE:endG xs=endN (stN (rNum xs false 1).2.1 (rNum xs false 1).2.2 (rNum xs false 1).1).1 (stN (rNum xs false 1).2.1 (rNum xs false 1).2.2 (rNum xs false 1).1).2 :=rfl;have hC:cntN xs=(rNum xs false 1).1 :=rfl;obtain⟨⟨n,ys,bd⟩,hR⟩:∃ r,rNum xs false 1=r:=⟨_,rfl⟩;simp only[hR] at NM hb1 hl1 hn1 hG hE hC;have hG2:gotN xs=fldN ys bd:=funext hG;have OKE:=hid (show getOK xs=(decide (endN (stN ys bd n).1 (stN ys bd n).2 =0) && mayP n (fldN ys bd)) by unfold getOK;rw[hE,hC,hG2]);rw[hC,hG2];have HB:=hid hb1;have hl2:ys.length≤70368744177664:=by omega
 have hn2:n≤255:=by omega
 have nw:IntKind.i64.wrap (n:Int)=(n:Int):=IntWalk.i64_in _ (by omega);obtain⟨ok,hok⟩:∃ r,getOK xs=r:=⟨_,rfl⟩;rw[hok] at OKE ⊢;have BR:=built_R p xs.length c;clear hp hc hb hb1 hl1 hn1 hG hE hC hR hG2 hok
 go_enter Tryz.func126,Tryz.ntmps126
 go_upto_region 2 with(fail)
 refine world_at (λY=>Rr w Y w.heap.size xs false) ⟨⟨p,c,Blk.new w _ [.slice p xs.length c,.bool false],HC.out,HP.out⟩,(λe=>by cases e),(Below.refl _ _).alloc (Nat.le_refl _) _,Nat.le_refl _⟩ ?_
 rintro Y xy
 have XY:=hid xy;clear xy HP HC BR;go_wp2_with fail
 refine(NM.out Y _ XY.out).mono ?_
 rintro e w1 ⟨rfl,x1,k1⟩
 have X1:=hid x1;clear x1 k1 NM XY
 go_upto_region 5 with(fail)
 go_loopw [6,7] (λv x wr=>∃ j:Nat,j≤n∧x= .int .i64 (j:Int)∧GR w wr w.heap.size v j (fldN ys bd) (stN ys bd j).1 (stN ys bd j).2) (λ_ x _=>n- (intOf x).toNat)
 case atStart=>exact⟨0,by omega,rfl,World.ownsRow_nil _ _ _ _,X1.out⟩
 case round=>
  clear X1;obtain⟨j,hj,rfl,gr⟩:=hrel;obtain⟨hzb,hzl⟩:=stN_bytes ys bd HB.out j;obtain⟨⟨zs,b⟩,hst⟩:∃ r,stN ys bd j=r:=⟨_,rfl⟩;have hfj:fldN ys bd j=(rFld (stN ys bd j).1 (stN ys bd j).2).1 :=rfl;have hsj:stN ys bd (j+1)=(rFld (stN ys bd j).1 (stN ys bd j).2).2 :=rfl;simp only[hst] at gr hzb hzl hfj hsj;have HR:=hid gr;obtain⟨A0,c0',q1,q2,q3⟩:=gr.rd.is;have cb:wr.cell? ⟨w.heap.size,1,none⟩=some (.bool b):=q1.cell 1;clear gr q1 q2 q3
  by_cases hlt:j<n
  ·have j1:(j:Int)< (n:Int):=by omega
   cases b with
   |true=>
    have he:endN (stN ys bd n).1 (stN ys bd n).2 =2:=by
     have hz:zs=[]:=HR.out.rd.none_ rfl;subst hz;have:=stN_bad ys bd j hst (n-j);rw[show j+(n-j)=n by omega] at this;rw[this];rfl
    have HO:=OKE.out;rw[he] at HO;have HOK:=hid (HO.trans (by rfl):ok=false);have EB:endN zs true=2:=if_pos (.inl rfl);clear HO he OKE hfj hsj hst hzb hzl;go_wp2_with fail
    refine(rrend_t w.heap.size _ _ w wr HR.out.rd).mono ?_
    rintro e w5 ⟨rfl,rfl⟩
    rw[EB];go_wp2_with fail
    go_ret2;exact⟨HR.out.rd.bel,.inl ⟨HOK.out,rfl⟩⟩
   |false=>
    have N1:=hid (rrnum_t w.heap.size zs false 1 w wr HR.out.rd hzb (by decide) (by decide));obtain⟨hy,hyl,hyn⟩:=rNum_bytes zs false 1 hzb;have hfine:=rNum_fine zs 1;have hF:rFld zs false=if (rNum zs false 1).1 =1 then(⟨1,IntKind.i64.wrap ((rNum (rNum zs false 1).2.1 (rNum zs false 1).2.2 8).1 :Int),eS⟩,(rNum (rNum zs false 1).2.1 (rNum zs false 1).2.2 8).2)
     else if (rNum zs false 1).1 =2 then(⟨2,0,str (rTxt (rNum zs false 1).2.1 (rNum zs false 1).2.2 40).1⟩,(rTxt (rNum zs false 1).2.1 (rNum zs false 1).2.2 40).2)
     else(⟨((rNum zs false 1).1 :Int),0,eS⟩,(rNum zs false 1).2):=rfl
    rw[hF] at hfj hsj;obtain⟨⟨k,y1,b1⟩,hR1⟩:∃ r,rNum zs false 1=r:=⟨_,rfl⟩;simp only[hR1] at N1 hy hyl hyn hfine hfj hsj;have HY:=hid hy;have HFI:=hid hfine;have kw:IntKind.i64.wrap (k:Int)=(k:Int):=IntWalk.i64_in _ (by omega);have BF:=built_fld (k:Int);have hyl2:y1.length≤70368744177664:=by omega
    have FJ:=hid hfj;have SJ:=hid hsj;clear hF hR1 hy hfine hfj hsj hst hzb hzl hyl OKE;go_wp2_with fail
    refine N1.out.mono ?_
    rintro e w2 ⟨rfl,x2,k2⟩
    have GO:=hid (HR.out.open k2 x2 ⟨k,0,eS⟩);clear x2 k2 N1 HR cb
    go_upto_region 8 with(fail)
    refine world_at (λZ=>GF w Z w.heap.size w2.heap.size u6 j (fldN ys bd) y1 b1 ⟨k,0,eS⟩) GO.out ?_
    rintro Z gz
    obtain⟨g3,hg3⟩:∃ x,w2.heap.size=x:=⟨_,rfl⟩;rw[hg3] at gz ⊢;have GZ:=hid gz;obtain⟨c0,c1,c2⟩:=fv_cells gz.fld;clear gz GO hg3 BF
    by_cases h1:k=1
    ·subst h1;have hr:=FJ.out;have hs:=SJ.out;rw[if_pos rfl] at hr hs;have NM:=hid (rrnum_t w.heap.size y1 b1 8 w Z GZ.out.rd HY.out (by decide) (by decide));obtain⟨_,_,hv8⟩:=rNum_bytes y1 b1 8 HY.out;obtain⟨⟨v,zs',b2⟩,hR⟩:∃ r,rNum y1 b1 8=r:=⟨_,rfl⟩;simp only[hR] at NM hv8 hr hs;obtain⟨nn,hn⟩:∃ n,IntKind.i64.wrap (v:Int)=n:=⟨_,rfl⟩;rw[hn] at hr;have HF:=hid hr;have HS:=hid hs;clear hR hr hs FJ SJ HY HFI;go_wp2_with fail
     refine NM.out.mono ?_
     rintro e w3 ⟨rfl,x3,k3⟩
     have g4:=GZ.out.read k3 x3;have fz:=g4.fld.frozen 1;have ct:=g4.fld.cell 1;have kz:Kept (λk=>k=g3) w3 (w3.setCell ⟨g3,1,none⟩ (.int .i64 nn)):=Kept.setCell (F:=λk=>k=g3) (Kept.refl _ _) (p:=⟨g3,1,none⟩) (.inl rfl) _;have G5:=hid (g4.store kz (fv_set1 g4.fld nn));clear x3 k3 g4 kz GZ NM c0 c1 c2
     go_upto_region 13 with(fail)
     clear fz ct;refine world_at (λZ=>GF w Z w.heap.size g3 u6 j (fldN ys bd) zs' b2 ⟨1,nn,eS⟩) G5.out ?_
     rintro V gz
     have GZ:=hid gz;clear gz G5;have FV:=hid (fv_size ⟨1,nn,eS⟩);have FO:=hid (fv_one ⟨1,nn,eS⟩);have BN:=hid ((Below.refl (V).heap.size V).alloc (Nat.le_refl _) (.cells (rowC (λ_=>⟨1,nn,eS⟩) 1).toArray 190));have RW:=hid (rw_of_blk (n:=1) (rest:=[]) (λ_=>⟨1,nn,eS⟩) (by rw[List.append_nil];exact Blk.new V 190 (rowC (λ_=>⟨1,nn,eS⟩) 1)));have OA:=hid (own_below GZ.out.own BN.out);have L3:(fv ⟨1,nn,eS⟩).length=3:=rfl;have HB:=hid (show w.heap.size≤((V).alloc (.cells (rowC (λ_=>⟨1,nn,eS⟩) 1).toArray 190)).heap.size from Nat.le_trans GZ.out.rd.bel.size BN.out.size)
     go_wp2_with (first
      |((with_reducible refine load_blk 190 (.tmp 8) g3 190 (fv ⟨1,nn,eS⟩) _ rfl rfl ?_ Tryz.underlying190 ?_ ?_ ?_ ?_);exact GZ.out.fld;exact rfl;exact FV.out;exact rfl)
      |((with_reducible refine at_op (.call { callee:= .builtin .append,args:= #[.tmp 45,.tmp 47],argTypes:= #[75,75] }) rfl ?_);go_must (refine append_flds (.tmp 45) (.tmp 47) rfl rfl w.heap.size u6 j (rowC (fldN ys bd) j) rfl OA.out (some ⟨(V).heap.size,0,none⟩) 1 1 rfl (λ_=>⟨1,nn,eS⟩) (by decide) RW.out (by omega) HB.out ?_);intro v1 w5 a1 a2 a3))
     exact⟨⟨j+1,hlt,by go_num,(by rw[HS.out];exact GZ.out.more HF.out OA.out a1.out a2.out)⟩,by simp[intOf];omega⟩
    ·have hr:=FJ.out;have hs:=SJ.out;rw[if_neg h1] at hr hs;have e1:((k:Int) == 1)=false:=by rw[beq_eq_false_iff_ne];omega
     by_cases h2:k=2
     ·subst h2;have hb1:=HFI.out (by decide);subst hb1;rw[if_pos rfl] at hr hs;have NM:=hid (rrtxt_t w.heap.size y1 false 40 w Z GZ.out.rd HY.out (by decide) (by omega));rw[rTxtM_eq] at NM;obtain⟨⟨v,zs',b2⟩,hR⟩:∃ r,rTxt y1 false 40=r:=⟨_,rfl⟩;simp only[hR] at NM hr hs;have HF:=hid hr;have HS:=hid hs;clear hR hr hs FJ SJ HY HFI h1;go_wp2_with fail
      refine NM.out.mono ?_
      rintro e w3 ⟨⟨A2,cc,rfl,_,s3⟩,x3,k3⟩
      have hcv:=s3.conv rfl cc;have g4:=GZ.out.read k3 x3;have fz:=g4.fld.frozen 2;have ct:=g4.fld.cell 2;have kz:Kept (λk=>k=g3) w3 (w3.setCell ⟨g3,2,none⟩ (.string (str v))):=Kept.setCell (F:=λk=>k=g3) (Kept.refl _ _) (p:=⟨g3,2,none⟩) (.inl rfl) _;have G5:=hid (g4.store kz (fv_set2 g4.fld (str v)));clear x3 k3 g4 kz GZ NM c0 c1 c2 s3
      go_upto_region 13 with(fail)
      clear fz ct hcv;refine world_at (λZ=>GF w Z w.heap.size g3 u6 j (fldN ys bd) zs' b2 ⟨2,0,str v⟩) G5.out ?_
      rintro V gz
      have GZ:=hid gz;clear gz G5;have FV:=hid (fv_size ⟨2,0,str v⟩);have FO:=hid (fv_one ⟨2,0,str v⟩);have BN:=hid ((Below.refl (V).heap.size V).alloc (Nat.le_refl _) (.cells (rowC (λ_=>⟨2,0,str v⟩) 1).toArray 190));have RW:=hid (rw_of_blk (n:=1) (rest:=[]) (λ_=>⟨2,0,str v⟩) (by rw[List.append_nil];exact Blk.new V 190 (rowC (λ_=>⟨2,0,str v⟩) 1)));have OA:=hid (own_below GZ.out.own BN.out);have L3:(fv ⟨2,0,str v⟩).length=3:=rfl;have HB:=hid (show w.heap.size≤((V).alloc (.cells (rowC (λ_=>⟨2,0,str v⟩) 1).toArray 190)).heap.size from Nat.le_trans GZ.out.rd.bel.size BN.out.size)
      go_wp2_with (first
       |((with_reducible refine load_blk 190 (.tmp 8) g3 190 (fv ⟨2,0,str v⟩) _ rfl rfl ?_ Tryz.underlying190 ?_ ?_ ?_ ?_);exact GZ.out.fld;exact rfl;exact FV.out;exact rfl)
       |((with_reducible refine at_op (.call { callee:= .builtin .append,args:= #[.tmp 45,.tmp 47],argTypes:= #[75,75] }) rfl ?_);go_must (refine append_flds (.tmp 45) (.tmp 47) rfl rfl w.heap.size u6 j (rowC (fldN ys bd) j) rfl OA.out (some ⟨(V).heap.size,0,none⟩) 1 1 rfl (λ_=>⟨2,0,str v⟩) (by decide) RW.out (by omega) HB.out ?_);intro v1 w5 a1 a2 a3))
      exact⟨⟨j+1,hlt,by go_num,(by rw[HS.out];exact GZ.out.more HF.out OA.out a1.out a2.out)⟩,by simp[intOf];omega⟩
     ·rw[if_neg h2] at hr hs;have HF:=hid hr;have HS:=hid hs;have e2:((k:Int) == 2)=false:=by rw[beq_eq_false_iff_ne];omega
      clear h1 h2 hr hs FJ SJ HY HFI c1 c2
      go_upto_region 13 with(fail)
      clear c0 e1 e2;have FV:=hid (fv_size ⟨(k:Int),0,eS⟩);have FO:=hid (fv_one ⟨(k:Int),0,eS⟩);have BN:=hid ((Below.refl (Z).heap.size Z).alloc (Nat.le_refl _) (.cells (rowC (λ_=>⟨(k:Int),0,eS⟩) 1).toArray 190));have RW:=hid (rw_of_blk (n:=1) (rest:=[]) (λ_=>⟨(k:Int),0,eS⟩) (by rw[List.append_nil];exact Blk.new Z 190 (rowC (λ_=>⟨(k:Int),0,eS⟩) 1)));have OA:=hid (own_below GZ.out.own BN.out);have L3:(fv ⟨(k:Int),0,eS⟩).length=3:=rfl;have HB:=hid (show w.heap.size≤((Z).alloc (.cells (rowC (λ_=>⟨(k:Int),0,eS⟩) 1).toArray 190)).heap.size from Nat.le_trans GZ.out.rd.bel.size BN.out.size)
      go_wp2_with (first
       |((with_reducible refine load_blk 190 (.tmp 8) g3 190 (fv ⟨(k:Int),0,eS⟩) _ rfl rfl ?_ Tryz.underlying190 ?_ ?_ ?_ ?_);exact GZ.out.fld;exact rfl;exact FV.out;exact rfl)
       |((with_reducible refine at_op (.call { callee:= .builtin .append,args:= #[.tmp 45,.tmp 47],argTypes:= #[75,75] }) rfl ?_);go_must (refine append_flds (.tmp 45) (.tmp 47) rfl rfl w.heap.size u6 j (rowC (fldN ys bd) j) rfl OA.out (some ⟨(Z).heap.size,0,none⟩) 1 1 rfl (λ_=>⟨(k:Int),0,eS⟩) (by decide) RW.out (by omega) HB.out ?_);intro v1 w5 a1 a2 a3))
      exact⟨⟨j+1,hlt,by go_num,(by rw[HS.out];exact GZ.out.more HF.out OA.out a1.out a2.out)⟩,by simp[intOf];omega⟩
  ·obtain rfl:j=n:=by omega
   have HO:=OKE.out;rw[hst] at HO;have HOK:=hid HO;obtain⟨A,cA,rfl,_⟩:=own_form HR.out.own;have RT:=hid (rw_of_own HR.out.own);have NT:=hid (nf_own HR.out.own);have MT:=hid (refmayP_t j cA A (fldN ys bd) wr (by omega) RT.out);clear HO OKE hst hfj hsj hzb hzl hlt hj;obtain⟨mp,hmp⟩:∃ x,mayP j (fldN ys bd)=x:=⟨_,rfl⟩;rw[hmp] at MT HOK;obtain⟨en,hen⟩:∃ x,endN zs b=x:=⟨_,rfl⟩;have hen2:endN (zs,b).1 (zs,b).2 =en:=hen;rw[hen2] at HOK;clear hmp hen2;go_wp2_with fail
   refine(rrend_t w.heap.size _ _ w wr HR.out.rd).mono ?_
   rintro e w5 ⟨rfl,rfl⟩
   rw[hen];clear hen cb
   by_cases h0:en=0
   ·subst h0;go_wp2_with fail
    refine MT.out.mono ?_
    rintro e w6 ⟨rfl,b6⟩
    have B6:=hid (HR.out.rd.bel.trans (b6.mono HR.out.rd.bel.size));have R6:=hid (RT.out.below b6);have N6:=hid (NT.out.below b6);clear b6 MT
    cases mp with
    |false=>
     go_wp2_with fail
     go_ret2;exact⟨B6.out,.inl ⟨HOK.out,rfl⟩⟩
    |true=>
     go_wp2_with fail
     go_ret2;exact⟨B6.out,.inr ⟨HOK.out,A,cA,rfl,R6.out,N6.out⟩⟩
   ·have e1:((en:Int) != 0)=true:=by rw[bne_iff_ne];omega
    have HO2:=HOK.out;rw[decide_eq_false h0] at HO2;have HO3:=hid (HO2:ok=false);clear HOK HO2 MT h0;go_wp2_with fail
    go_ret2;exact⟨HR.out.rd.bel,.inl ⟨HO3.out,rfl⟩⟩
structure PartO where
 A:Option Addr
 c:Nat
 X:List Nat
def partsO (l:List PartO):List Value:=l.map λx=> .slice x.A x.X.length x.c
def catO (l:List PartO):List Nat:=l.flatMap (·.X)
theorem catO_le (l:List PartO) (k:Nat):(catO (l.take k)).length≤(catO l).length:=by
 conv=>rhs;rw[←List.take_append_drop k l]
 unfold catO;rw[List.flatMap_append,List.length_append];omega
theorem catO_succ (l:List PartO) (k:Nat) (x:PartO) (h:l[k]? =some x):catO (l.take (k+1))=catO (l.take k)++x.X:=by
 obtain⟨hk,rfl⟩:=List.getElem?_eq_some_iff.1 h;unfold catO;rw[List.take_succ_eq_append_getElem hk,List.flatMap_append,List.flatMap_cons,List.flatMap_nil,List.append_nil]
set_option maxHeartbeats 400000 in
theorem catO_t (l:List PartO) (g n c:Nat) (t:TypeId) (w:World) (hn:l.length=n) (hb:Blk w g t (partsO l)) (hr:∀ x,x∈l→Sr w x.A x.X) (hl:(catO l).length≤1000000) (hn2:n≤100):
  Calls Tryz.prog 33 #[.slice (some ⟨g,0,none⟩) n c] w λe w'=>∃ v,e= .returned v∧Fresh 5 w w' v (catO l):=by
 have HB:=hid hb;have HR:=hid hr;have HL:=hid hl;have HN:=hid hn;have n1:(n:Int)≤100:=by omega
 clear hb hr hl hn
 go_enter Tryz.func33,Tryz.ntmps33
 go_wp2_with fail
 go_loopw [3,4] (λo i wr=>∃ k:Nat,k≤n∧i= .int .i64 k∧wr.ownsRow w.heap.size 5 1 o (catO (l.take k)).length (u8s (catO (l.take k)))∧Below w.heap.size w wr) (λ_ i _=>n- (intOf i).toNat)
 case atStart=>exact⟨0,by omega,rfl,by simpa [catO] using nil_own _ _,Below.refl _ _⟩
 case round=>
  obtain⟨k,hk,rfl,ho,hb⟩:=hrel
  by_cases hlt:k<n
  ·obtain⟨x,hx⟩:∃ x,l[k]? =some x:=⟨_,List.getElem?_eq_getElem (by rw[HN.out];exact hlt)⟩;have hs:=(HR.out x (List.mem_of_getElem? hx)).below hb;have h1:=catO_succ l k x hx;have h2:(catO (l.take k)).length+x.X.length≤1000000:=by
    have:=catO_le l (k+1);rw[h1,List.length_append] at this;exact Nat.le_trans this HL.out
   have c0:wr.cell? ⟨g,k,none⟩=some (.slice x.A x.X.length x.c):=by
    refine(hb.cell (p:=⟨g,k,none⟩) HB.out.lt).trans ?_;rw[HB.out.cell];simp[partsO,hx]
   obtain⟨A,cx,X⟩:=x;simp only[] at hs h1 h2 c0;obtain⟨Y,hY⟩:∃ Y,catO (l.take k)=Y:=⟨_,rfl⟩;rw[hY] at ho h1 h2;have HO:=hid ho;have HW:=hid hb;have HS:=hid hs;have H1:=hid h1;clear ho hb hs h1 hx hY
   go_wp2_with ((with_reducible refine at_op (.call { callee:= .builtin .append,args:= #[.tmp 11,.tmp 15],argTypes:= #[25,25] }) rfl ?_);refine append_bytes (.tmp 11) (.tmp 15) 25 rfl rfl 5 Tryz.underlying25 byte_info w.heap.size _ Y.length Y X rfl HO.out A X.length cx rfl rfl HS.out (by omega) HW.out.size ?_;intro v2 w2 a1 a2 a3)
   go_roundw
   case rel=>
    refine⟨k+1,by omega,by go_num,?_,HW.out.grown a2.out HW.out.size λi e=>(HO.out.lt i e).1⟩;rw[H1.out,List.length_append];exact a1.out
   case measure=>simp[intOf];omega
  ·obtain rfl:k=n:=by omega
   rw[List.take_of_length_le (by rw[HN.out];exact Nat.le_refl _)] at ho;have HO:=hid ho;have HW:=hid hb;clear ho hb;go_wp2_with fail
   go_ret;exact⟨_,rfl,HO.out,HW.out⟩
theorem fresh_opO {w w':World} {v:Value} {l:List Nat} (h:Fresh 5 w w' v l):∃ A c,v= .slice A l.length c∧l.length≤c∧Sr w' A l∧Below w.heap.size w w':=by
 obtain⟨A,c,rfl,hc⟩:=own_form h.1;exact⟨A,c,rfl,hc,Sr.of_own h.1,h.2⟩
def nmb (v:Nat) (ys:List Nat) (b:Bool):Nat×List Nat×Bool:=if 4611686018427387904≤v then(0,[],true) else(v,ys,b)
def smN (ys:List Nat) (b:Bool):List Nat×List Nat×Bool:=if fOK (rTxtM ys b 1000).1 then rTxtM ys b 1000 else([],[],true)
theorem rNum_none {xs:List Nat} {bad:Bool} {n:Nat} (h:bad=true→xs=[]) (hn:1≤n):(rNum xs bad n).2.2 =true→(rNum xs bad n).2.1 =[]:=by
 unfold rNum
 split
 ·intro _;rfl
 ·rename_i hx
  intro hb;have:=h hb;subst this;exact absurd (show([]:List Nat).length<n by simp;omega) hx
theorem smN_bad:smN [] true=([],[],true):=by
 unfold smN;rw[rTxtM_bad];rfl
theorem rTxt_badO (n:Nat):rTxt [] true n=([],[],true):=by
 unfold rTxt;rw[if_neg (by simp)]
theorem endN_bad (ys:List Nat):endN ys true=2:=if_pos (.inl rfl)
theorem fOK_long {l:List Nat} (hb:Bytes l) (h:1000<l.length):fOK l=false:=by
 cases hq:fOK l with
 |false=>rfl
 |true=>
  obtain⟨e,_⟩:=pf_front hb hq;have hm:fNr l=0∨mayP (fNr l) (gotN l)=true:=by
   unfold fNr
   cases hg:getOK l with
   |false=>exact .inl rfl
   |true=>exact .inr (get_back hb hg).2.1
  have:=pf_length hm;rw[←e] at this;omega
theorem sm_eq (ys:List Nat) (hb:Bytes ys):(smN ys false=rTxt ys false ys.length∧fOK (rTxt ys false ys.length).1 =true)∨(smN ys false=([],[],true)∧fOK (rTxt ys false ys.length).1 =false):=by
 have ht:=rTxt_textS ys false ys.length hb;unfold smN;rw[rTxtM_eq]
 by_cases h:4≤ys.length∧val (ys.take 4)≤ys.length∧val (ys.take 4)≤ys.length-4
 ·have e1:rTxt ys false ys.length=((ys.drop 4).take (val (ys.take 4)),(ys.drop 4).drop (val (ys.take 4)),false):=if_pos h
  by_cases h2:val (ys.take 4)≤1000
  ·have e2:rTxt ys false 1000=((ys.drop 4).take (val (ys.take 4)),(ys.drop 4).drop (val (ys.take 4)),false):=if_pos ⟨h.1,h2,h.2.2⟩;rw[e1,e2]
   cases hq:fOK ((ys.drop 4).take (val (ys.take 4))) with
   |true=>exact .inl ⟨if_pos rfl,rfl⟩
   |false=>exact .inr ⟨if_neg (by decide),rfl⟩
  ·have e2:rTxt ys false 1000=([],[],true):=if_neg (λq=>h2 q.2.1);have hl:fOK (rTxt ys false ys.length).1 =false:=fOK_long ht (by
    rw[e1]
    show 1000< ((ys.drop 4).take (val (ys.take 4))).length
    rw[List.length_take,List.length_drop];omega)
   rw[e2];exact .inr ⟨if_pos rfl,hl⟩
 ·have e1:rTxt ys false ys.length=([],[],true):=if_neg h;have e2:rTxt ys false 1000=([],[],true):=if_neg (λq=>h ⟨q.1,by omega,q.2.2⟩);rw[e1,e2];exact .inl ⟨if_pos rfl,rfl⟩
theorem rTxt_none {ys:List Nat} {n:Nat} :(rTxt ys false n).2.2 =true→rTxt ys false n=([],[],true):=by
 unfold rTxt
 split
 ·intro h;cases h
 ·intro _;rfl
theorem Rr.spoil {w0 w:World} {g:Nat} {xs:List Nat} {bad:Bool} (x:Rr w0 w g xs bad):Rr w0 ((w.setCell ⟨g,1,none⟩ (.bool true)).setCell ⟨g,0,none⟩ (.slice none 0 0)) g [] true∧Kept (λk=>k=g) w ((w.setCell ⟨g,1,none⟩ (.bool true)).setCell ⟨g,0,none⟩ (.slice none 0 0)):=by
 obtain⟨A,c,h1,h2,h3⟩:=x.is;have kk:Kept (λk=>k=g) w ((w.setCell ⟨g,1,none⟩ (.bool true)).setCell ⟨g,0,none⟩ (.slice none 0 0)):=Kept.setCell (F:=λk=>k=g) (Kept.setCell (F:=λk=>k=g) (Kept.refl _ w) (p:=⟨g,1,none⟩) (.inl rfl) _) (p:=⟨g,0,none⟩) (.inl rfl) _;exact⟨⟨⟨none,0,(h1.store 1 (.bool true)).store 0 (.slice none 0 0),Nat.le_refl _,Sr.nil⟩,λ_=>rfl,kept_below x.bel kk x.low,x.low⟩,kk⟩
theorem number_t (g:Nat) (xs:List Nat) (bad:Bool) (w0 w:World) (x:Rr w0 w g xs bad) (hb:Bytes xs) (v:Nat) (ys:List Nat) (b:Bool) (hR:rNum xs bad 8=(v,ys,b)):
  Calls Tryz.prog 86 #[.pointer (some ⟨g,0,none⟩)] w λe w'=>e= .returned (.int .i64 ((nmb v ys b).1 :Nat))∧Rr w0 w' g (nmb v ys b).2.1 (nmb v ys b).2.2 ∧Kept (λk=>k=g) w w':=by
 have NM:=hid (rrnum_t g xs bad 8 w0 w x hb (by decide) (by decide));have hv:=(rNum_bytes xs bad 8 hb).2.2;simp only[hR] at NM hv;have hv2:v<18446744073709551616:=hv;clear hR x hb hv
 by_cases h:4611686018427387904≤v
 ·rw[show nmb v ys b=(0,[],true) from if_pos h];have i1:(4611686018427387904:Int)≤(v:Int):=by omega
  go_enter Tryz.func86,Tryz.ntmps86
  go_wp2_with fail
  refine NM.out.mono ?_
  rintro e w1 ⟨rfl,x1,k1⟩
  obtain⟨A,c,hbk,_,_⟩:=x1.is;have f0:=hbk.frozen 0;have f1:=hbk.frozen 1;have c0:w1.cell? ⟨g,0,none⟩=some (.slice A ys.length c):=hbk.cell 0;have c1:w1.cell? ⟨g,1,none⟩=some (.bool b):=hbk.cell 1;have X2:=hid x1.spoil;have K1:=hid k1;clear x1 k1 hbk h NM;go_wp2_with fail
  go_ret;exact⟨rfl,X2.out.1,K1.out.trans X2.out.2⟩
 ·rw[show nmb v ys b=(v,ys,b) from if_neg h];have i1:decide ((4611686018427387904:Int)≤(v:Int))=false:=decide_eq_false (by omega);have i3:¬ ((4611686018427387904:Int)≤(v:Int)):=by omega
  have i2:IntKind.i64.wrap (v:Int)=(v:Int):=IntWalk.i64_in _ (by omega);clear h hv2
  go_enter Tryz.func86,Tryz.ntmps86
  go_wp2_with fail
  refine NM.out.mono ?_
  rintro e w1 ⟨rfl,x1,k1⟩
  have X1:=hid x1;have K1:=hid k1;clear x1 k1;go_wp2_with fail
  go_ret;exact⟨rfl,X1.out,K1.out⟩
theorem rTxtM_text (xs:List Nat) (bad:Bool) (n:Nat) (h:Bytes xs):Bytes (rTxtM xs bad n).1 ∧(rTxtM xs bad n).1.length≤xs.length:=by
 have hb:=rNum_bytes xs bad 4 h;unfold rTxtM
 split
 ·exact⟨bytes_take hb.1 _,by rw[List.length_take];omega⟩
 ·exact⟨nil_bytes,Nat.zero_le _⟩
theorem some_t (g:Nat) (xs:List Nat) (bad:Bool) (w0 w:World) (x:Rr w0 w g xs bad) (hb:Bytes xs) (hl:xs.length≤1000000) (l ys:List Nat) (b:Bool) (hS:smN xs bad=(l,ys,b)):
  Calls Tryz.prog 88 #[.pointer (some ⟨g,0,none⟩)] w λe w'=>(∃ A c,e= .returned (.slice A (fNr l) c)∧Rw w' A (fNr l) (gotN l)∧NF w' w.heap.size A)∧Rr w0 w' g ys b∧Kept (λk=>k=g) w w':=by
 have TX:=hid (rrtxt_t g xs bad 1000 w0 w x hb (by decide) (by omega));obtain⟨hb2,hl2⟩:=rTxtM_text xs bad 1000 hb;unfold smN at hS;obtain⟨⟨l2,ys2,b2⟩,hR⟩:∃ r,rTxtM xs bad 1000=r:=⟨_,rfl⟩;simp only[hR] at TX hb2 hl2 hS;have HB:=hid hb2;have HS:=hid hS;obtain⟨fn,hfn⟩:∃ z,fNr l=z:=⟨_,rfl⟩;obtain⟨fg,hfg⟩:∃ z,gotN l=z:=⟨_,rfl⟩;rw[hfn,hfg];have FN:=hid hfn;have FG:=hid hfg;clear x hb hR hb2 hS hfn hfg
 go_enter Tryz.func88,Tryz.ntmps88
 go_wp2_with fail
 refine TX.out.mono ?_
 rintro e w1 ⟨⟨A,c,rfl,hcl,s1⟩,x1,k1⟩
 have S1:=hid s1;have CL:=hid hcl;have X1:=hid x1;have K1:=hid k1;have K1s:=hid k1.size;clear s1 x1 k1 TX hcl
 by_cases h0:l2.length=0
 ·obtain rfl:=List.eq_nil_of_length_eq_zero h0;have hS:=HS.out;rw[show fOK []=true from rfl,if_pos rfl] at hS;simp only[Prod.mk.injEq] at hS;obtain⟨rfl,rfl,rfl⟩:=hS;obtain rfl:0=fn:=by rw[←FN.out];unfold fNr;rw[getOK_nil];rfl
  clear HS FN;go_wp2_with fail
  go_ret;exact⟨⟨none,0,rfl,Rw.nilS,NF.no _ _⟩,X1.out,K1.out⟩
 ·have e1:((l2.length:Int) == 0)=false:=by rw[beq_eq_false_iff_ne];omega
  have hi:l2.isEmpty=false:=by rw[isEmpty_lenS];exact decide_eq_false h0
  go_wp2_with fail
  refine(refget_t l2 A l2.length c w1 rfl CL.out S1.out HB.out (by omega)).mono ?_
  rintro e w2 ⟨b2,hh⟩
  have X2:=hid (X1.out.below b2);have K2:=hid (K1.out.trans (Kept.of_below b2));clear b2 X1 K1 S1 CL;rcases hh with⟨hbad,rfl⟩ |⟨hgood,A2,c',rfl,r2,nf2⟩
  ·have hS:=HS.out;have hk:fOK l2=false:=by unfold fOK;rw[hbad,hi];rfl
   rw[hk,if_neg (by decide)] at hS;simp only[Prod.mk.injEq] at hS;obtain⟨rfl,rfl,rfl⟩:=hS;obtain rfl:0=fn:=by rw[←FN.out];unfold fNr;rw[getOK_nil];rfl
   obtain⟨A0,c0,hbk,_,_⟩:=X2.out.is;have f0:=hbk.frozen 0;have f1:=hbk.frozen 1;have c0':w2.cell? ⟨g,0,none⟩=some (.slice A0 ys2.length c0):=hbk.cell 0;have c1:w2.cell? ⟨g,1,none⟩=some (.bool b2):=hbk.cell 1;have X3:=hid X2.out.spoil;clear HS FN hbk hbad hk X2;go_wp2_with fail
   go_ret;exact⟨⟨none,0,rfl,Rw.nilS,NF.no _ _⟩,X3.out.1,K2.out.trans X3.out.2⟩
  ·have hS:=HS.out;have hk:fOK l2=true:=by unfold fOK;rw[hgood,hi];rfl
   rw[hk,if_pos rfl] at hS;simp only[Prod.mk.injEq] at hS;obtain⟨rfl,rfl,rfl⟩:=hS;obtain rfl:cntN l2=fn:=by rw[←FN.out];unfold fNr;rw[hgood];rfl
   obtain rfl:gotN l2=fg:=FG.out;have R2:=hid r2;have NF2:=hid (nf2.low (show w.heap.size≤w1.heap.size from K1s.out));clear HS FN FG r2 nf2 hgood hk;go_wp2_with fail
   go_ret;exact⟨⟨A2,c',rfl,R2.out,NF2.out⟩,X2.out,K2.out⟩
end Go.Proofs.YtjlophplcmidlaaGreatDoor
