/-
  THE REFERENCE OF CHAPTER 9
  THE REFERENCE OF CHAPTER 9, what is pure
  THE REFERENCE
  PACKAGE space, what is pure, for its laws
-/
import Derived.Test.YtjlophplcmidlaaGreatDoorAd23
import Derived.Test.YtjlophplcmidlaaGreatDoorAd14
import Derived.Test.YtjlophplcmidlaaGreatDoorAd22
import Derived.Test.YtjlophplcmidlaaGreatDoorAd16
open Go.Lib (hid)
set_option maxRecDepth 100000
namespace Go.Proofs.YtjlophplcmidlaaGreatDoor
open Go Go.RowKit Sh
def yesN (v:Nat) (ys:List Nat) (b:Bool):Bool×List Nat×Bool:=if 1<v then(false,[],true) else(decide (v=1),ys,b)
theorem yes_t (g:Nat) (xs:List Nat) (bad:Bool) (w0 w:World) (x:Rr w0 w g xs bad) (hb:Bytes xs) (v:Nat) (ys:List Nat) (b:Bool) (hR:rNum xs bad 1=(v,ys,b)):
  Calls Tryz.prog 89 #[.pointer (some ⟨g,0,none⟩)] w λe w'=>e= .returned (.bool (yesN v ys b).1)∧Rr w0 w' g (yesN v ys b).2.1 (yesN v ys b).2.2 ∧Kept (λk=>k=g) w w':=by
 have NM:=hid (rrnum_t g xs bad 1 w0 w x hb (by decide) (by decide));have hv:=(rNum_bytes xs bad 1 hb).2.2;simp only[hR] at NM hv;have hv2:v<256:=hv;clear hR x hb hv
 by_cases h:1<v
 ·rw[show yesN v ys b=(false,[],true) from if_pos h];have i1:(1:Int)< (v:Int):=by omega
  have i2:((v:Int) == 1)=false:=by rw[beq_eq_false_iff_ne];omega
  go_enter Tryz.func89,Tryz.ntmps89
  go_wp2_with fail
  refine NM.out.mono ?_
  rintro e w1 ⟨rfl,x1,k1⟩
  obtain⟨A,c,hbk,_,_⟩:=x1.is;have f0:=hbk.frozen 0;have f1:=hbk.frozen 1;have c0:w1.cell? ⟨g,0,none⟩=some (.slice A ys.length c):=hbk.cell 0;have c1:w1.cell? ⟨g,1,none⟩=some (.bool b):=hbk.cell 1;have X2:=hid x1.spoil;have K1:=hid k1;clear x1 k1 hbk h NM;go_wp2_with fail
  go_ret;exact⟨rfl,X2.out.1,K1.out.trans X2.out.2⟩
 ·rw[show yesN v ys b=(decide (v=1),ys,b) from if_neg h];have i1:decide ((1:Int)< (v:Int))=false:=decide_eq_false (by omega);have i3:¬ ((1:Int)< (v:Int)):=by omega
  obtain⟨yb,hyb⟩:∃ y,decide (v=1)=y:=⟨_,rfl⟩;have i4:((v:Int) == 1)=yb:=by rw[←hyb,Bool.eq_iff_iff,beq_iff_eq,decide_eq_true_iff];omega
  rw[hyb];clear h hv2 hyb
  go_enter Tryz.func89,Tryz.ntmps89
  go_wp2_with fail
  refine NM.out.mono ?_
  rintro e w1 ⟨rfl,x1,k1⟩
  have X1:=hid x1;have K1:=hid k1;clear x1 k1;go_wp2_with fail
  go_ret;exact⟨rfl,X1.out,K1.out⟩
def deadS:Src:=⟨[],true,false⟩
structure SaGood (s:Src):Prop where
 b:Bytes s.xs
 ok:s.bad=false
 wr:s.wr=false
def SaGone (s:Src):Prop:=(s.bad=true∧s.xs=[])∨s.wr=true
theorem src_dead {s:Src} (a:s.xs=[]) (b:s.bad=true) (c:s.wr=false):s=deadS:=by
 obtain⟨x,y,z⟩:=s;change x=[] at a;change y=true at b;change z=false at c;subst a b c;rfl
theorem rNum_nil (b:Bool) {n:Nat} (hn:1≤n):rNum [] b n=(0,[],true):=if_pos (show 0<n by omega)
theorem gNum_gone {s:Src} {n:Nat} (hn:1≤n) (h:SaGone s):SaGone (gNum s n).2 :=by
 rcases h with⟨_,h2⟩ |h
 ·left
  show(rNum s.xs s.bad n).2.2 =true∧(rNum s.xs s.bad n).2.1 =[]
  rw[h2,rNum_nil _ hn];exact⟨rfl,rfl⟩
 ·exact .inr h
theorem gFlag_gone {s:Src} (h:SaGone s):SaGone (gFlag s).2 :=by
 rcases h with⟨_,h2⟩ |h
 ·left
  show(rNum s.xs s.bad 1).2.2 =true∧(rNum s.xs s.bad 1).2.1 =[]
  rw[h2,rNum_nil _ (Nat.le_refl 1)];exact⟨rfl,rfl⟩
 ·right
  show(s.wr || _)=true
  rw[h];rfl
theorem gFl_gone {s:Src} (h:SaGone s):SaGone (gFl s).2 :=by
 rcases h with⟨h1,h2⟩ |h
 ·left
  show(rTxt s.xs s.bad s.xs.length).2.2 =true∧(rTxt s.xs s.bad s.xs.length).2.1 =[]
  rw[h2,h1,rTxt_badO];exact⟨rfl,rfl⟩
 ·right
  show(s.wr || _)=true
  rw[h];rfl
def SimR {α:Type} (f:α→Prop) (a b:α×Src):Prop:=(b=a∧SaGood a.2)∨(b.2=deadS∧(SaGone a.2∨¬ f a.1))
theorem SimR.bind {α β:Type} {fa:α→Prop} {fb:β→Prop} {a b:α×Src} (H:SimR fa a b) (g h:α×Src→β×Src) (hg:SaGood a.2→SimR fb (g a) (h a)) (hd:∀ x,(h (x,deadS)).2 =deadS) (hn:SaGone a.2→SaGone (g a).2) (hf:¬ fa a.1→SaGone (g a).2 ∨¬ fb (g a).1):SimR fb (g a) (h b):=by
 rcases H with⟨e,g1⟩ |⟨e,u⟩
 ·rw[e];exact hg g1
 ·obtain⟨b1,b2⟩:=b;change b2=deadS at e;subst e;refine .inr ⟨hd b1,?_⟩;rcases u with u |u
  ·exact .inl (hn u)
  ·exact hf u
def tt {α:Type} :α→Prop:=λ_=>True
theorem simNum (s:Src) {n:Nat} (hn:1≤n) (h:SaGood s):SimR tt (gNum s n) (gNum s n):=by
 cases hq:(gNum s n).2.bad with
 |false=>exact .inl ⟨rfl,gNum_bytes n h.b,hq,h.wr⟩
 |true=>
  have e:(gNum s n).2.xs=[]:=rNum_none (xs:=s.xs) (bad:=s.bad) (λhb=>by rw[h.ok] at hb;cases hb) hn hq;exact .inr ⟨src_dead e hq h.wr,.inl (.inl ⟨hq,e⟩)⟩
def gNm (s:Src):Int×Src:=(i64N (gNum s 8).1,(gNum s 8).2)
def hNm (s:Src):Int×Src:=if 4611686018427387904≤(gNum s 8).1 then(0,deadS) else(((gNum s 8).1 :Int),(gNum s 8).2)
def fineN (z:Int):Prop:=0≤z∧z<4611686018427387904
theorem simNm (s:Src) (h:SaGood s):SimR fineN (gNm s) (hNm s):=by
 have hv:(gNum s 8).1 <18446744073709551616:=(rNum_bytes s.xs s.bad 8 h.b).2.2;unfold gNm hNm;rcases simNum s (show 1≤8 by decide) h with⟨_,g1⟩ |⟨e,u⟩
 ·split
  ·rename_i hx
   refine .inr ⟨rfl,.inr λq=>?_⟩;obtain⟨q1,q2⟩:=q;change 0≤i64N (gNum s 8).1 at q1;change i64N (gNum s 8).1 <_ at q2;obtain⟨v,hv0⟩:∃ v,(gNum s 8).1 =v:=⟨_,rfl⟩;rw[hv0] at q1 q2 hv hx;unfold i64N at q1 q2;simp only[IntKind.wrap,IntKind.bits,IntKind.signed] at q1 q2;simp at q1 q2;omega
  ·rename_i hx
   refine .inl ⟨?_,g1⟩;rw[show i64N (gNum s 8).1 =((gNum s 8).1 :Int) from IntWalk.i64_in _ (by omega)]
 ·refine .inr ⟨?_,.inl (by rcases u with u |u;exact u;exact absurd trivial u)⟩
  split
  ·rfl
  ·exact e
def hYes (s:Src):Bool×Src:=if 1< (gNum s 1).1 then(false,deadS) else(decide ((gNum s 1).1 =1),(gNum s 1).2)
theorem simYes (s:Src) (h:SaGood s):SimR tt (gFlag s) (hYes s):=by
 unfold hYes;rcases simNum s (show 1≤1 by decide) h with⟨_,g1⟩ |⟨e,u⟩
 ·split
  ·rename_i hx
   exact .inr ⟨rfl,.inl (.inr (by show(s.wr || decide (1< (gNum s 1).1))=true;rw[decide_eq_true hx,Bool.or_true]))⟩
  ·rename_i hx
   have e:gFlag s=(decide ((gNum s 1).1 =1),(gNum s 1).2):=by
    have e2:(s.wr || decide (1< (gNum s 1).1))=s.wr:=by rw[decide_eq_false hx,Bool.or_false]
    unfold gFlag;rw[e2];rfl
   rw[e];exact .inl ⟨rfl,g1⟩
 ·refine .inr ⟨?_,.inl ?_⟩
  ·split
   ·rfl
   ·exact e
  ·rcases u with u |u
   ·rcases u with u |u
    ·exact .inl u
    ·exact .inr (by show(s.wr || _)=true;rw[show s.wr=true from u];rfl)
   ·exact absurd trivial u
def hSm (s:Src):List Fld×Src:=(fl (fNr (smN s.xs s.bad).1) (gotN (smN s.xs s.bad).1),⟨(smN s.xs s.bad).2.1,(smN s.xs s.bad).2.2,false⟩)
theorem simSm (s:Src) (h:SaGood s):SimR tt (gFl s) (hSm s):=by
 obtain⟨xs,bad,wr⟩:=s;have hb:Bytes xs:=h.b;have h1:bad=false:=h.ok;have h2:wr=false:=h.wr;subst h1 h2;rcases sm_eq xs hb with⟨e1,e2⟩ |⟨e1,e2⟩
 ·have e:gFl ⟨xs,false,false⟩=hSm ⟨xs,false,false⟩:=by
   show(fl (fNr (rTxt xs false xs.length).1) (gotN (rTxt xs false xs.length).1),(⟨(rTxt xs false xs.length).2.1,(rTxt xs false xs.length).2.2,false || !fOK (rTxt xs false xs.length).1⟩:Src))=(fl (fNr (smN xs false).1) (gotN (smN xs false).1),⟨(smN xs false).2.1,(smN xs false).2.2,false⟩)
   rw[e1,e2];rfl
  have hby:=rTxt_bytes xs false xs.length hb;rw[e]
  cases hq:(rTxt xs false xs.length).2.2 with
  |false=>
   refine .inl ⟨rfl,?_,?_,rfl⟩
   ·show Bytes (smN xs false).2.1;rw[e1];exact hby.1
   ·show(smN xs false).2.2 =false;rw[e1];exact hq
  |true=>
   have e3:=rTxt_none hq;have e4:(hSm ⟨xs,false,false⟩).2 =deadS:=by
    show(⟨(smN xs false).2.1,(smN xs false).2.2,false⟩:Src)=deadS
    rw[e1,e3];rfl
   exact .inr ⟨e4,.inl (.inl (by rw[e4];exact⟨rfl,rfl⟩))⟩
 ·refine .inr ⟨?_,.inl (.inr ?_)⟩
  ·show(⟨(smN xs false).2.1,(smN xs false).2.2,false⟩:Src)=deadS
   rw[e1];rfl
  ·show(false || !fOK (rTxt xs false xs.length).1)=true
   rw[e2];rfl
theorem gNum_dead {n:Nat} (hn:1≤n):gNum deadS n=(0,deadS):=by
 unfold gNum;rw[show rNum deadS.xs deadS.bad n=(0,[],true) from rNum_nil _ hn];rfl
theorem hNm_dead:hNm deadS=(0,deadS):=by
 unfold hNm;rw[gNum_dead (by decide)];rfl
theorem hYes_dead:hYes deadS=(false,deadS):=by
 unfold hYes;rw[gNum_dead (by decide)];rfl
theorem hSm_dead:(hSm deadS).2 =deadS:=by
 show(⟨(smN [] true).2.1,(smN [] true).2.2,false⟩:Src)=deadS
 rw[smN_bad];rfl
def hIt (s:Src):It×Src:=
 let a:=gNum s 1
 let b:=hNm a.2
 let c:=hSm b.2
 (⟨a.1,b.1,c.1⟩,c.2)
def hWt (s:Src):Wt×Src:=
 let a:=gNum s 1
 let b:=gNum a.2 4
 let c:=hYes b.2
 let d:=hSm c.2
 (⟨a.1,b.1,c.1,d.1⟩,d.2)
def hLa (c:Int) (s:Src):Rp×Src:=
 let a:=gNum s 4
 let b:=gNum a.2 1
 let d:=hYes b.2
 let e:=hSm d.2
 (⟨c,a.1,b.1,e.1,d.1⟩,e.2)
theorem hLa_dead (c:Int):(hLa c deadS).2 =deadS:=by
 show(hSm (hYes (gNum (gNum deadS 4).2 1).2).2).2 =deadS
 rw[gNum_dead (by decide),gNum_dead (by decide),hYes_dead,hSm_dead]
theorem gIt_gone {s:Src} (h:SaGone s):SaGone (gIt s).2 :=gFl_gone (gNum_gone (by decide) (gNum_gone (by decide) h))
theorem gWt_gone {s:Src} (h:SaGone s):SaGone (gWt s).2 :=gFl_gone (gFlag_gone (gNum_gone (by decide) (gNum_gone (by decide) h)))
theorem gLa_gone {c:Int} {s:Src} (h:SaGone s):SaGone (gLa c s).2 :=gFl_gone (gFlag_gone (gNum_gone (by decide) (gNum_gone (by decide) h)))
theorem simIt (s:Src) (h:SaGood s):SimR (λi:It=>fineN i.un) (gIt s) (hIt s):=
 (simNum s (show 1≤1 by decide) h).bind (λa=>((⟨a.1,(gNm a.2).1,(gFl (gNm a.2).2).1⟩:It),(gFl (gNm a.2).2).2)) (λa=>((⟨a.1,(hNm a.2).1,(hSm (hNm a.2).2).1⟩:It),(hSm (hNm a.2).2).2))
  (λg1=>(simNm (gNum s 1).2 g1).bind (λb=>((⟨(gNum s 1).1,b.1,(gFl b.2).1⟩:It),(gFl b.2).2)) (λb=>((⟨(gNum s 1).1,b.1,(hSm b.2).1⟩:It),(hSm b.2).2))
   (λg2=>(simSm (gNm (gNum s 1).2).2 g2).bind (λc=>((⟨(gNum s 1).1,(gNm (gNum s 1).2).1,c.1⟩:It),c.2)) (λc=>((⟨(gNum s 1).1,(gNm (gNum s 1).2).1,c.1⟩:It),c.2))
    (λg3=> .inl ⟨rfl,g3⟩) (λ_=>rfl) id (λu=>absurd trivial u))
   (λ_=>hSm_dead) gFl_gone (λu=> .inr u))
  (λ_=>by show(hSm (hNm deadS).2).2 =deadS;rw[hNm_dead,hSm_dead]) (λu=>gFl_gone (gNum_gone (s:=(gNum s 1).2) (n:=8) (by decide) u)) (λu=>absurd trivial u)
theorem simWt (s:Src) (h:SaGood s):SimR (tt:Wt→Prop) (gWt s) (hWt s):=
 (simNum s (show 1≤1 by decide) h).bind (λa=>((⟨a.1,(gNum a.2 4).1,(gFlag (gNum a.2 4).2).1,(gFl (gFlag (gNum a.2 4).2).2).1⟩:Wt),(gFl (gFlag (gNum a.2 4).2).2).2)) (λa=>((⟨a.1,(gNum a.2 4).1,(hYes (gNum a.2 4).2).1,(hSm (hYes (gNum a.2 4).2).2).1⟩:Wt),(hSm (hYes (gNum a.2 4).2).2).2))
  (λg1=>(simNum (gNum s 1).2 (show 1≤4 by decide) g1).bind (λb=>((⟨(gNum s 1).1,b.1,(gFlag b.2).1,(gFl (gFlag b.2).2).1⟩:Wt),(gFl (gFlag b.2).2).2)) (λb=>((⟨(gNum s 1).1,b.1,(hYes b.2).1,(hSm (hYes b.2).2).1⟩:Wt),(hSm (hYes b.2).2).2))
   (λg2=>(simYes (gNum (gNum s 1).2 4).2 g2).bind (λc=>((⟨(gNum s 1).1,(gNum (gNum s 1).2 4).1,c.1,(gFl c.2).1⟩:Wt),(gFl c.2).2)) (λc=>((⟨(gNum s 1).1,(gNum (gNum s 1).2 4).1,c.1,(hSm c.2).1⟩:Wt),(hSm c.2).2))
    (λg3=>(simSm (gFlag (gNum (gNum s 1).2 4).2).2 g3).bind (λd=>((⟨(gNum s 1).1,(gNum (gNum s 1).2 4).1,(gFlag (gNum (gNum s 1).2 4).2).1,d.1⟩:Wt),d.2)) (λd=>((⟨(gNum s 1).1,(gNum (gNum s 1).2 4).1,(gFlag (gNum (gNum s 1).2 4).2).1,d.1⟩:Wt),d.2))
     (λg4=> .inl ⟨rfl,g4⟩) (λ_=>rfl) id (λu=>absurd trivial u))
    (λ_=>hSm_dead) gFl_gone (λu=>absurd trivial u))
   (λ_=>by show(hSm (hYes deadS).2).2 =deadS;rw[hYes_dead,hSm_dead]) (λu=>gFl_gone (gFlag_gone u)) (λu=>absurd trivial u))
  (λ_=>by show(hSm (hYes (gNum deadS 4).2).2).2 =deadS;rw[gNum_dead (by decide),hYes_dead,hSm_dead]) (λu=>gFl_gone (gFlag_gone (gNum_gone (by decide) u))) (λu=>absurd trivial u)
theorem simLa (z:Int) (s:Src) (h:SaGood s):SimR (tt:Rp→Prop) (gLa z s) (hLa z s):=
 (simNum s (show 1≤4 by decide) h).bind (λa=>((⟨z,a.1,(gNum a.2 1).1,(gFl (gFlag (gNum a.2 1).2).2).1,(gFlag (gNum a.2 1).2).1⟩:Rp),(gFl (gFlag (gNum a.2 1).2).2).2)) (λa=>((⟨z,a.1,(gNum a.2 1).1,(hSm (hYes (gNum a.2 1).2).2).1,(hYes (gNum a.2 1).2).1⟩:Rp),(hSm (hYes (gNum a.2 1).2).2).2))
  (λg1=>(simNum (gNum s 4).2 (show 1≤1 by decide) g1).bind (λb=>((⟨z,(gNum s 4).1,b.1,(gFl (gFlag b.2).2).1,(gFlag b.2).1⟩:Rp),(gFl (gFlag b.2).2).2)) (λb=>((⟨z,(gNum s 4).1,b.1,(hSm (hYes b.2).2).1,(hYes b.2).1⟩:Rp),(hSm (hYes b.2).2).2))
   (λg2=>(simYes (gNum (gNum s 4).2 1).2 g2).bind (λc=>((⟨z,(gNum s 4).1,(gNum (gNum s 4).2 1).1,(gFl c.2).1,c.1⟩:Rp),(gFl c.2).2)) (λc=>((⟨z,(gNum s 4).1,(gNum (gNum s 4).2 1).1,(hSm c.2).1,c.1⟩:Rp),(hSm c.2).2))
    (λg3=>(simSm (gFlag (gNum (gNum s 4).2 1).2).2 g3).bind (λd=>((⟨z,(gNum s 4).1,(gNum (gNum s 4).2 1).1,d.1,(gFlag (gNum (gNum s 4).2 1).2).1⟩:Rp),d.2)) (λd=>((⟨z,(gNum s 4).1,(gNum (gNum s 4).2 1).1,d.1,(gFlag (gNum (gNum s 4).2 1).2).1⟩:Rp),d.2))
     (λg4=> .inl ⟨rfl,g4⟩) (λ_=>rfl) id (λu=>absurd trivial u))
    (λ_=>hSm_dead) gFl_gone (λu=>absurd trivial u))
   (λ_=>by show(hSm (hYes deadS).2).2 =deadS;rw[hYes_dead,hSm_dead]) (λu=>gFl_gone (gFlag_gone u)) (λu=>absurd trivial u))
  (λ_=>by show(hSm (hYes (gNum deadS 1).2).2).2 =deadS;rw[gNum_dead (by decide),hYes_dead,hSm_dead]) (λu=>gFl_gone (gFlag_gone (gNum_gone (by decide) u))) (λu=>absurd trivial u)
def hRow {α:Type} (h:Src→α×Src) (s:Src):Nat→List α×Src
 |0=>([],s)
 |k+1=>if (hRow h s k).2.bad then hRow h s k else((hRow h s k).1 ++[(h (hRow h s k).2).1],(h (hRow h s k).2).2)
theorem hRow_dead {α:Type} (h:Src→α×Src):∀ k,hRow h deadS k=([],deadS)
 |0=>rfl
 |k+1=>by
  unfold hRow;rw[hRow_dead h k];rfl
theorem simRow {α:Type} {f:α→Prop} {g h:Src→α×Src} (H:∀ s,SaGood s→SimR f (g s) (h s)) (hn:∀ s,SaGone s→SaGone (g s).2) (s:Src) (hs:SaGood s):∀ k,SimR (λl:List α=>∀ x∈l,f x) (gRow g s k) (hRow h s k)
 |0=> .inl ⟨rfl,hs⟩
 |k+1=>by
  have hg:gRow g s (k+1)=((gRow g s k).1 ++[(g (gRow g s k).2).1],(g (gRow g s k).2).2):=rfl;have hh:hRow h s (k+1)=if (hRow h s k).2.bad then hRow h s k else((hRow h s k).1 ++[(h (hRow h s k).2).1],(h (hRow h s k).2).2):=rfl
  rw[hg,hh];rcases simRow H hn s hs k with⟨e,gd⟩ |⟨e,u⟩
  ·rw[e,if_neg (by rw[gd.ok];decide)];rcases H _ gd with⟨e2,gd2⟩ |⟨e2,u2⟩
   ·rw[e2];exact .inl ⟨rfl,gd2⟩
   ·refine .inr ⟨e2,?_⟩;rcases u2 with u2 |u2
    ·exact .inl u2
    ·exact .inr λq=>u2 (q _ (List.mem_append.2 (.inr (List.mem_singleton.2 rfl))))
  ·rw[if_pos (by rw[e];rfl)];refine .inr ⟨e,?_⟩;rcases u with u |u
   ·exact .inl (hn _ u)
   ·exact .inr λq=>u λx hx=>q x (List.mem_append.2 (.inl hx))
theorem gRow_gone {α:Type} {g:Src→α×Src} (hn:∀ s,SaGone s→SaGone (g s).2) {s:Src} (h:SaGone s):∀ k,SaGone (gRow g s k).2
 |0=>h
 |k+1=>hn _ (gRow_gone hn h k)
def hLas (s:Src):Nat→List Rp×Src
 |0=>([],s)
 |j+1=>((hLas s j).1 ++[(hLa (j:Int) (hLas s j).2).1],(hLa (j:Int) (hLas s j).2).2)
theorem hLas_dead:∀ k,(hLas deadS k).2 =deadS
 |0=>rfl
 |k+1=>by
  show(hLa (k:Int) (hLas deadS k).2).2 =deadS
  rw[hLas_dead k];exact hLa_dead _
theorem gLas_gone {s:Src} (h:SaGone s):∀ k,SaGone (gLas s k).2
 |0=>h
 |k+1=>by
  have:=gLa_gone (c:=(k:Int)) (gLas_gone h k);exact this
theorem simLas (s:Src) (hs:SaGood s):∀ k,SimR (tt:List Rp→Prop) (gLas s k) (hLas s k)
 |0=> .inl ⟨rfl,hs⟩
 |k+1=>by
  have hg:gLas s (k+1)=((gLas s k).1 ++[(gLa (k:Int) (gLas s k).2).1],(gLa (k:Int) (gLas s k).2).2):=rfl;have hh:hLas s (k+1)=((hLas s k).1 ++[(hLa (k:Int) (hLas s k).2).1],(hLa (k:Int) (hLas s k).2).2):=rfl;rw[hg,hh];rcases simLas s hs k with⟨e,gd⟩ |⟨e,u⟩
  ·rw[e];rcases simLa k _ gd with⟨e2,gd2⟩ |⟨e2,u2⟩
   ·rw[e2];exact .inl ⟨rfl,gd2⟩
   ·exact .inr ⟨e2,by rcases u2 with u2 |u2;exact .inl u2;exact absurd trivial u2⟩
  ·refine .inr ⟨?_,?_⟩
   ·show(hLa (k:Int) (hLas s k).2).2 =deadS
    rw[e];exact hLa_dead _
   ·rcases u with u |u
    ·refine .inl ?_;have:=gLa_gone (c:=(k:Int)) u;exact this
    ·exact absurd trivial u
def hS1 (xs:List Nat):=hNm (sSrc xs)
def hS2 (xs:List Nat):=gNum (hS1 xs).2 1
def hS3 (xs:List Nat):=gNum (hS2 xs).2 1
def hS4 (xs:List Nat):=gNum (hS3 xs).2 1
def hS5 (xs:List Nat):=hRow hIt (hS4 xs).2 (hS4 xs).1
def hS6 (xs:List Nat):=gNum (hS5 xs).2 1
def hS7 (xs:List Nat):=hRow hWt (hS6 xs).2 (hS6 xs).1
def hS8 (xs:List Nat):=hLas (hS7 xs).2 4
def gotH (xs:List Nat):Sp:=⟨(hS1 xs).1,(hS5 xs).1,(hS7 xs).1,(hS2 xs).1,(hS3 xs).1,(hS8 xs).1⟩
def okH (xs:List Nat):Bool:=decide (endN (hS8 xs).2.xs (hS8 xs).2.bad=0) && spMay (gotH xs)
theorem okH_eq (xs:List Nat) (hb:Bytes xs):okH xs=okS xs∧(okS xs=true→gotH xs=gotS xs):=by
 have d8:(hS7 xs).2 =deadS→(hS8 xs).2 =deadS:=λe=>by unfold hS8;rw[e];exact hLas_dead 4
 have d7:(hS6 xs).2 =deadS→(hS8 xs).2 =deadS:=λe=>d8 (by unfold hS7;rw[e,hRow_dead])
 have d6:(hS5 xs).2 =deadS→(hS8 xs).2 =deadS:=λe=>d7 (by unfold hS6;rw[e,gNum_dead (by decide)])
 have d5:(hS4 xs).2 =deadS→(hS8 xs).2 =deadS:=λe=>d6 (by unfold hS5;rw[e,hRow_dead])
 have d4:(hS3 xs).2 =deadS→(hS8 xs).2 =deadS:=λe=>d5 (by unfold hS4;rw[e,gNum_dead (by decide)])
 have d3:(hS2 xs).2 =deadS→(hS8 xs).2 =deadS:=λe=>d4 (by unfold hS3;rw[e,gNum_dead (by decide)])
 have d2:(hS1 xs).2 =deadS→(hS8 xs).2 =deadS:=λe=>d3 (by unfold hS2;rw[e,gNum_dead (by decide)])
 have n8:SaGone (tS8 xs).2 →okS xs=false:=λh=>by
  have e:endS (tS8 xs).2 =2:=by
   unfold endS;rcases h with⟨h1,h2⟩ |h
   ·rw[h1,endN_bad];split<;>rfl
   ·rw[h];rfl
  unfold okS;rw[e];rfl
 have n7:SaGone (tS7 xs).2 →okS xs=false:=λh=>n8 (by unfold tS8;exact gLas_gone h 4)
 have n6:SaGone (tS6 xs).2 →okS xs=false:=λh=>n7 (by unfold tS7;exact gRow_gone (λ_=>gWt_gone) h _)
 have n5:SaGone (tS5 xs).2 →okS xs=false:=λh=>n6 (by unfold tS6;exact gNum_gone (by decide) h)
 have n4:SaGone (tS4 xs).2 →okS xs=false:=λh=>n5 (by unfold tS5;exact gRow_gone (λ_=>gIt_gone) h _)
 have n3:SaGone (tS3 xs).2 →okS xs=false:=λh=>n4 (by unfold tS4;exact gNum_gone (by decide) h)
 have n2:SaGone (tS2 xs).2 →okS xs=false:=λh=>n3 (by unfold tS3;exact gNum_gone (by decide) h)
 have n1:SaGone (tS1 xs).2 →okS xs=false:=λh=>n2 (by unfold tS2;exact gNum_gone (by decide) h)
 have no:(hS8 xs).2 =deadS→okS xs=false→okH xs=okS xs∧(okS xs=true→gotH xs=gotS xs):=λh1 h2=>⟨by
  rw[h2];unfold okH;rw[h1,show endN deadS.xs deadS.bad=2 from endN_bad _];rfl,λh=>by rw[h2] at h;cases h⟩
 have may:okS xs=true→MayW (gotS xs):=λh=>by
  unfold okS at h;simp only[Bool.and_eq_true] at h;exact spMay_w h.2
 have nt:∀ {P:Prop},(okS xs=true→P)→¬ P→okS xs=false:=fun {P} h1 h2=>by
  cases hq:okS xs with
  |false=>rfl
  |true=>exact absurd (h1 hq) h2
 rcases simNm (sSrc xs) ⟨hb,rfl,rfl⟩ with⟨e1,g1⟩ |⟨e1,u⟩;rotate_left 1
 ·refine no (d2 e1) ?_;rcases u with u |u
  ·exact n1 u
  ·exact nt (λh=>⟨(may h).n0,Int.lt_of_le_of_lt (may h).n1 (by decide)⟩) u
 have E1:hS1 xs=(i64N (tS1 xs).1,(tS1 xs).2):=e1;have g1:SaGood (tS1 xs).2 :=g1;have E2:hS2 xs=tS2 xs:=by unfold hS2;rw[E1];rfl
 rcases simNum (tS1 xs).2 (show 1≤1 by decide) g1 with⟨_,g2⟩ |⟨e2,u⟩;rotate_left 1
 ·refine no (d3 (by rw[E2];exact e2)) ?_;rcases u with u |u
  ·exact n2 u
  ·exact absurd trivial u
 have E3:hS3 xs=tS3 xs:=by unfold hS3;rw[E2];rfl
 rcases simNum (tS2 xs).2 (show 1≤1 by decide) g2 with⟨_,g3⟩ |⟨e2,u⟩;rotate_left 1
 ·refine no (d4 (by rw[E3];exact e2)) ?_;rcases u with u |u
  ·exact n3 u
  ·exact absurd trivial u
 have E4:hS4 xs=tS4 xs:=by unfold hS4;rw[E3];rfl
 rcases simNum (tS3 xs).2 (show 1≤1 by decide) g3 with⟨_,g4⟩ |⟨e2,u⟩;rotate_left 1
 ·refine no (d5 (by rw[E4];exact e2)) ?_;rcases u with u |u
  ·exact n4 u
  ·exact absurd trivial u
 rcases simRow simIt (λ_=>gIt_gone) (tS4 xs).2 g4 (tS4 xs).1 with⟨e5,g5⟩ |⟨e5,u⟩;rotate_left 1
 ·refine no (d6 (by unfold hS5;rw[E4];exact e5)) ?_;rcases u with u |u
  ·exact n5 u
  ·refine nt (λh=>?_) u;intro x hx;have hm:=may h;obtain⟨_,_,q1,q2,_⟩:=itB_h9 (hm.it x hx) hm.n0;exact⟨q1,Int.lt_of_le_of_lt q2 (by decide)⟩
 have E5:hS5 xs=tS5 xs:=by unfold hS5;rw[E4];exact e5
 have g5:SaGood (tS5 xs).2 :=g5;have E6:hS6 xs=tS6 xs:=by unfold hS6;rw[E5];rfl
 rcases simNum (tS5 xs).2 (show 1≤1 by decide) g5 with⟨_,g6⟩ |⟨e2,u⟩;rotate_left 1
 ·refine no (d7 (by rw[E6];exact e2)) ?_;rcases u with u |u
  ·exact n6 u
  ·exact absurd trivial u
 rcases simRow simWt (λ_=>gWt_gone) (tS6 xs).2 g6 (tS6 xs).1 with⟨e7,g7⟩ |⟨e7,u⟩;rotate_left 1
 ·refine no (d8 (by unfold hS7;rw[E6];exact e7)) ?_;rcases u with u |u
  ·exact n7 u
  ·exact absurd (λ_ _=>trivial) u
 have E7:hS7 xs=tS7 xs:=by unfold hS7;rw[E6];exact e7
 have g7:SaGood (tS7 xs).2 :=g7;rcases simLas (tS7 xs).2 g7 4 with⟨e8,g8⟩ |⟨e8,u⟩;rotate_left 1
 ·refine no (by unfold hS8;rw[E7];exact e8) ?_;rcases u with u |u
  ·exact n8 u
  ·exact absurd trivial u
 have E8:hS8 xs=tS8 xs:=by unfold hS8;rw[E7];exact e8
 have g8:SaGood (tS8 xs).2 :=g8;have hg:gotH xs=gotS xs:=by
  unfold gotH gotS;rw[E1,E2,E3,E5,E7,E8]
 refine⟨?_,λ_=>hg⟩;have he:endS (tS8 xs).2 =endN (tS8 xs).2.xs (tS8 xs).2.bad:=by
  unfold endS;rw[if_neg (by rw[g8.wr];decide)]
 unfold okH okS;rw[hg,E8,he]
theorem refOwn_t (x:Spv) (c:Int) (w:World) (hx:SpW w x):
  Calls Tryz.prog 128 #[.agg (sv x).toArray,.int .i64 c] w λe w'=>e= .returned (.int .i64 (ownN c x.sp.its:Nat))∧Below w.heap.size w w':=by
 have S0:=hid (SB.new hx);have HN:=hid hx.n
 show Calls _ _ _ _ λe w'=>e= .returned (.int .i64 (ownN c (x.its.map (·.i)):Nat))∧_
 clear hx
 go_enter Tryz.func128,Tryz.ntmps128
 go_upto_region 1 with(fail)
 change Code.wp _ _ _ _ (w.alloc (.cells (sv x).toArray 80));obtain⟨V,hV⟩:∃ V,w.alloc (.cells (sv x).toArray 80)=V:=⟨_,rfl⟩;rw[hV] at S0 ⊢;clear hV;obtain⟨_,c1,_,_,_⟩:=sv_cells S0.out.a;have HI:=hid S0.out.rx.its;obtain⟨ip,hip⟩:∃ p,x.ip=p:=⟨_,rfl⟩;obtain⟨n,hn⟩:∃ n,x.its.length=n:=⟨_,rfl⟩;rw[hip,hn] at c1;rw[hip] at HI;rw[hn] at HN;have HL:=hid hn;have nB:(n:Int)≤9223372036854775807:=by have:=HN.out;omega
 clear hip hn
 go_upto_region 3 with(fail)
 go_loopw [5,6] (λs t wr=>∃ j cn:Nat,j≤n∧s= .int .i64 (cn:Int)∧t= .int .i64 (j:Int)∧cn=ownN c ((x.its.take j).map (·.i))∧V=wr) (λ_ t _=>n- (intOf t).toNat)
 case atStart=>exact⟨0,0,by omega,rfl,rfl,rfl,rfl⟩
 case round=>
  obtain⟨j,cn,hj,rfl,rfl,hcn,rfl⟩:=hrel
  by_cases hlt:j<n
  ·obtain⟨y,hy⟩:∃ y,x.its[j]? =some y:=⟨_,List.getElem?_eq_getElem (by rw[HL.out];exact hlt)⟩;obtain⟨b,o,rfl,hbl,rg⟩:=HI.out j y hy;have y0:V.cell? ⟨b,o+j * 3,none⟩=some (.int .i64 y.i.own):=rg 0 _ rfl;have j1:(j:Int)< (n:Int):=by omega
   have hs:ownN c ((x.its.take (j+1)).map (·.i))=cn+if y.i.own == c then 1 else 0:=by rw[take_snoc hy,List.map_append,hcn];exact ownN_snoc _ _ _
   have cb:cn≤j:=by
    rw[hcn];exact Nat.le_trans (ownN_le _ _) (by rw[List.length_map,List.length_take];omega)
   have cnB:(cn:Int)<9223372036854775807:=by omega
   obtain⟨z,hz⟩:∃ z,y.i.own=z:=⟨_,rfl⟩;rw[hz] at y0 hs;clear hcn rg hy hbl cb
   cases he:(z == c) with
   |true=>
    rw[he,if_pos rfl] at hs;have HS:=hid hs;clear hs;go_wp2_with fail
    go_roundw
    case rel=>exact⟨j+1,cn+1,hlt,by go_num,by go_num,HS.out.symm,trivial⟩
    case measure=>simp[intOf];omega
   |false=>
    rw[he,if_neg (by decide)] at hs;have HS:=hid hs;clear hs;go_wp2_with fail
    go_roundw
    case rel=>exact⟨j+1,cn,hlt,rfl,by go_num,HS.out.symm,trivial⟩
    case measure=>simp[intOf];omega
  ·obtain rfl:j=n:=by omega
   have hr:cn=ownN c (x.its.map (·.i)):=by rw[hcn,List.take_of_length_le (by rw[HL.out];exact Nat.le_refl _)]
   have HR:=hid hr;clear hlt hcn hr;go_wp2_with fail
   go_ret;exact⟨by rw[HR.out];rfl,S0.out.bel⟩
structure MayS (s:Sp):Prop where
 n0:0≤s.now
 n1:s.now≤1099511627776
 rd:alB s.rd=true
 wr:alB s.wr=true
 il:s.its.length≤64
 it:∀ y∈s.its,itB s.now y=true
 io:∀ c,ownN c s.its≤24
 wl:s.wts.length≤16
 wt:∀ y∈s.wts,wtB y=true
 la:∀ (j:Nat) (y:Rp),s.last[j]? =some y→y.cl=(j:Int)∧rpB y=true
theorem lasB_iff:∀ {l:List Rp} {c:Nat},lasB c l=true↔∀ (j:Nat) (y:Rp),l[j]? =some y→y.cl=((c+j:Nat):Int)∧rpB y=true
 |[],c=>by simp[lasB]
 |r::l,c=>by
  unfold lasB;simp only[Bool.and_eq_true,beq_iff_eq];rw[lasB_iff (l:=l) (c:=c+1)]
  constructor
  ·rintro⟨h1,h2,h3⟩ j y hy
   cases j with
   |zero=>
    obtain rfl:r=y:=by simpa using hy
    exact⟨by simpa using h1,h2⟩
   |succ j=>
    have:=h3 j y (by simpa using hy);exact⟨by rw[this.1];congr 1;omega,this.2⟩
  ·intro h;have h0:=h 0 r rfl;refine⟨by simpa using h0.1,h0.2,λj y hy=>?_⟩;have:=h (j+1) y (by simpa using hy);exact⟨by rw[this.1];congr 1;omega,this.2⟩
theorem ownN_pos {c:Int} {l:List It} (h:ownN c l≠0):∃ i∈l,i.own=c:=by
 unfold ownN at h;have h1:0<l.countP (λi=>i.own == c):=by omega
 rw[List.countP_pos_iff] at h1;obtain⟨i,hi,e⟩:=h1;exact⟨i,hi,by simpa using e⟩
theorem mayS_iff {s:Sp} :spMay s=true↔MayS s:=by
 unfold spMay itsB wtsB;simp only[Bool.and_eq_true,decide_eq_true_eq,List.all_eq_true,lasB_iff]
 constructor
 ·rintro⟨h1,h2,h3,h4,⟨h5,h6,h7⟩,⟨h8,h9⟩,h10⟩
  refine⟨h1,h2,h3,h4,h5,h6,λc=>?_,h8,h9,λj y hy=>by simpa using h10 j y hy⟩
  by_cases hc:ownN c s.its=0
  ·omega
  ·obtain⟨i,hi,rfl⟩:=ownN_pos hc;exact h7 i hi
 ·intro h;exact⟨h.n0,h.n1,h.rd,h.wr,⟨h.il,h.it,λy _=>h.io y.own⟩,⟨h.wl,h.wt⟩,λj y hy=>by simpa using h.la j y hy⟩
end Go.Proofs.YtjlophplcmidlaaGreatDoor
