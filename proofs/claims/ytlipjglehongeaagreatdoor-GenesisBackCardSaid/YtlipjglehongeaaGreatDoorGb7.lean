/-
  PACKAGE state, what is pure
  A READER WHOSE BYTES LIE IN CERTAIN BLOCKS
  PACKAGE space
-/
import Derived.Test.YtlipjglehongeaaGreatDoorGb6
import Derived.Test.YtlipjglehongeaaGreatDoorGb5
open Go.Lib (hid)
namespace Go.Proofs.YtlipjglehongeaaGreatDoor
open Go Go.RowKit Sh
def flagN (b:Bool):Nat:=if b then 1 else 0
def pfl (t:List Fld):List Nat:=pf t.length (gl t)
def putI (i:It):List Nat:=beN i.own.toNat 1++(beN i.un.toNat 8++txtN (pfl i.t))
def putW (x:Wt):List Nat:=beN x.cl.toNat 1++(beN x.sq.toNat 4++(beN (flagN x.tk) 1++txtN (pfl x.p)))
def putL (r:Rp):List Nat:=beN r.sq.toNat 4++(beN r.kd.toNat 1++(beN (flagN r.lt) 1++txtN (pfl r.t)))
def putS (s:Sp):List Nat:=beN s.now.toNat 8++(beN s.rd.toNat 1++(beN s.wr.toNat 1++(beN s.its.length 1++(s.its.flatMap putI++(beN s.wts.length 1++(s.wts.flatMap putW++s.last.flatMap putL))))))
structure Src where
 xs:List Nat
 bad:Bool
 wr:Bool
def gNum (s:Src) (n:Nat):Nat×Src:=((rNum s.xs s.bad n).1,⟨(rNum s.xs s.bad n).2.1,(rNum s.xs s.bad n).2.2,s.wr⟩)
def gFlag (s:Src):Bool×Src:=(((gNum s 1).1 == 1), { (gNum s 1).2 with wr:=s.wr || decide (1< (gNum s 1).1) })
def sTxt (s:Src):=rTxt s.xs s.bad s.xs.length
def gFl (s:Src):List Fld×Src:=(fl (fNr (sTxt s).1) (gotN (sTxt s).1),⟨(sTxt s).2.1,(sTxt s).2.2,s.wr || !fOK (sTxt s).1⟩)
def i64N (v:Nat):Int:=IntKind.i64.wrap (v:Int)
def gIt (s:Src):It×Src:=
 let a:=gNum s 1
 let b:=gNum a.2 8
 let c:=gFl b.2
 (⟨a.1,i64N b.1,c.1⟩,c.2)
def gWt (s:Src):Wt×Src:=
 let a:=gNum s 1
 let b:=gNum a.2 4
 let c:=gFlag b.2
 let d:=gFl c.2
 (⟨a.1,b.1,c.1,d.1⟩,d.2)
def gLa (c:Int) (s:Src):Rp×Src:=
 let a:=gNum s 4
 let b:=gNum a.2 1
 let d:=gFlag b.2
 let e:=gFl d.2
 (⟨c,a.1,b.1,e.1,d.1⟩,e.2)
def gRow {α:Type} (g:Src→α×Src) (s:Src):Nat→List α×Src
 |0=>([],s)
 |j+1=>((gRow g s j).1 ++[(g (gRow g s j).2).1],(g (gRow g s j).2).2)
def gLas (s:Src):Nat→List Rp×Src
 |0=>([],s)
 |j+1=>((gLas s j).1 ++[(gLa (j:Int) (gLas s j).2).1],(gLa (j:Int) (gLas s j).2).2)
def sSrc (xs:List Nat):Src:=⟨xs,false,false⟩
def tS1 (xs:List Nat):=gNum (sSrc xs) 8
def tS2 (xs:List Nat):=gNum (tS1 xs).2 1
def tS3 (xs:List Nat):=gNum (tS2 xs).2 1
def tS4 (xs:List Nat):=gNum (tS3 xs).2 1
def tS5 (xs:List Nat):=gRow gIt (tS4 xs).2 (tS4 xs).1
def tS6 (xs:List Nat):=gNum (tS5 xs).2 1
def tS7 (xs:List Nat):=gRow gWt (tS6 xs).2 (tS6 xs).1
def tS8 (xs:List Nat):=gLas (tS7 xs).2 4
def gotS (xs:List Nat):Sp:=⟨i64N (tS1 xs).1,(tS5 xs).1,(tS7 xs).1,(tS2 xs).1,(tS3 xs).1,(tS8 xs).1⟩
def endS (s:Src):Nat:=if s.wr then 2 else endN s.xs s.bad
def okS (xs:List Nat):Bool:=decide (endS (tS8 xs).2 =0) && spMay (gotS xs)
def InL (t:List Fld):Prop:=∀ f∈t,InR f
structure InS (s:Sp):Prop where
 it:∀ i∈s.its,InL i.t
 wt:∀ x∈s.wts,InL x.p
 la:∀ r∈s.last,InL r.t
theorem inL_gl {t:List Fld} (h:InL t):∀ j,j<t.length→InR (gl t j):=λj hj=>by
 have e:gl t j=t[j]:=by simp[gl,List.getD_eq_getElem?_getD,List.getElem?_eq_getElem hj]
 rw[e];exact h _ (List.getElem_mem hj)
def pF (t:List Fld):Prop:=t.length=0∨pT t=true
theorem gFl_front {t:List Fld} (h:pF t) (hr:InL t) (ex:List Nat) (b w:Bool):gFl ⟨txtN (pfl t)++ex,b,w⟩=(t,⟨ex,b,w⟩):=by
 obtain⟨e1,e2,e3⟩:=pf_back (G:=gl t) h (inL_gl hr);have hl:=pf_length (G:=gl t) h;have hx:sTxt ⟨txtN (pfl t)++ex,b,w⟩=(pfl t,ex,b):=rTxt_frontG _ _ _ _ (by unfold pfl;simp only[List.length_append,txtN];omega) (by unfold pfl;omega);unfold gFl;rw[hx];have e0:fl (fNr (pfl t)) (gotN (pfl t))=t:=by
  have a:fNr (pfl t)=t.length:=e2;rw[a]
  conv=>rhs;rw[←fl_gl t]
  exact List.map_congr_left λj hj=>e3 j (List.mem_range.1 hj)
 show(fl (fNr (pfl t)) (gotN (pfl t)),(⟨ex,b,w || !fOK (pfl t)⟩:Src))=_
 rw[e0,show fOK (pfl t)=true from e1];simp
theorem gNum_front (v n:Nat) (ex:List Nat) (b w:Bool) (hv:v<256 ^ n):gNum ⟨beN v n++ex,b,w⟩ n=(v,⟨ex,b,w⟩):=by
 unfold gNum
 dsimp only
 rw[rNum_front v n ex b hv]
theorem gFlag_front (x:Bool) (ex:List Nat) (b w:Bool):gFlag ⟨beN (flagN x) 1++ex,b,w⟩=(x,⟨ex,b,w⟩):=by
 unfold gFlag;rw[gNum_front (flagN x) 1 ex b w (by cases x<;>decide)]
 cases x<;>simp[flagN]
theorem i64_nat {z:Int} (h0:0≤z) (h1:z≤9223372036854775807):i64N z.toNat=z:=by
 unfold i64N;rw[show((z.toNat:Nat):Int)=z by omega];exact IntWalk.i64_in _ (by omega)
theorem clB_h {c:Int} (h:clB c=true):0≤c∧c<4:=by
 unfold clB at h
 simpa using h
theorem vT_pF {t:List Fld} (h:vT t=true):pF t:= .inr (mayV_P h)
theorem lastB_h {un now:Int} (h:lastB un now=true) (h0:0≤now):0≤un∧un≤2199023255552:=by
 unfold lastB at h;simp only[Bool.or_eq_true,Bool.and_eq_true,beq_iff_eq,decide_eq_true_eq] at h;omega
theorem itB_h9 {now:Int} {i:It} (h:itB now i=true) (h0:0≤now):0≤i.own∧i.own<4∧0≤i.un∧i.un≤2199023255552∧pF i.t:=by
 unfold itB at h;simp only[Bool.and_eq_true] at h;have a:=clB_h h.1;have b:=lastB_h h.2.1 h0;exact⟨a.1,a.2,b.1,b.2,vT_pF h.2.2⟩
theorem gIt_front {now:Int} {i:It} (h:itB now i=true) (h0:0≤now) (hr:InL i.t) (ex:List Nat) (b w:Bool):gIt ⟨putI i++ex,b,w⟩=(i,⟨ex,b,w⟩):=by
 obtain⟨a1,a2,a3,a4,a5⟩:=itB_h9 h h0;unfold gIt putI;simp only[List.append_assoc];rw[gNum_front i.own.toNat 1 _ b w (by show _<256;omega)]
 dsimp only
 rw[gNum_front i.un.toNat 8 _ b w (by show _<18446744073709551616;omega)]
 dsimp only
 rw[gFl_front a5 hr]
 dsimp only
 rw[i64_nat a3 (by omega),show((i.own.toNat:Nat):Int)=i.own by omega]
theorem wtB_h9 {x:Wt} (h:wtB x=true):0≤x.cl∧x.cl<4∧1≤x.sq∧x.sq≤1073741824∧pF x.p:=by
 unfold wtB at h;simp only[Bool.and_eq_true,decide_eq_true_eq] at h;have a:=clB_h h.1;exact⟨a.1,a.2,h.2.1,h.2.2.1,.inr h.2.2.2⟩
theorem gWt_front {x:Wt} (h:wtB x=true) (hr:InL x.p) (ex:List Nat) (b w:Bool):gWt ⟨putW x++ex,b,w⟩=(x,⟨ex,b,w⟩):=by
 obtain⟨a1,a2,a3,a4,a5⟩:=wtB_h9 h;unfold gWt putW;simp only[List.append_assoc];rw[gNum_front x.cl.toNat 1 _ b w (by show _<256;omega)]
 dsimp only
 rw[gNum_front x.sq.toNat 4 _ b w (by show _<4294967296;omega)]
 dsimp only
 rw[gFlag_front]
 dsimp only
 rw[gFl_front a5 hr]
 dsimp only
 rw[show((x.cl.toNat:Nat):Int)=x.cl by omega,show((x.sq.toNat:Nat):Int)=x.sq by omega]
theorem rpB_h {r:Rp} (h:rpB r=true):0≤r.sq∧r.sq≤1073741824∧0≤r.kd∧r.kd≤6∧pF r.t:=by
 unfold rpB at h
 split at h
 ·simp only[Bool.and_eq_true,beq_iff_eq] at h;refine⟨by omega,by omega,by omega,by omega,.inl ?_⟩;have:=h.2.1;simp at this;rw[this];rfl
 ·split at h
  ·cases h
  ·split at h
   ·exact⟨by omega,by omega,by omega,by omega,vT_pF h⟩
   ·simp only[Bool.and_eq_true,decide_eq_true_eq] at h;refine⟨by omega,by omega,by omega,by omega,.inl ?_⟩;have:=h.2.2.1;simp at this;rw[this];rfl
theorem gLa_front {r:Rp} (h:rpB r=true) (hr:InL r.t) (ex:List Nat) (b w:Bool):gLa r.cl ⟨putL r++ex,b,w⟩=(r,⟨ex,b,w⟩):=by
 obtain⟨a1,a2,a3,a4,a5⟩:=rpB_h h;unfold gLa putL;simp only[List.append_assoc];rw[gNum_front r.sq.toNat 4 _ b w (by show _<4294967296;omega)]
 dsimp only
 rw[gNum_front r.kd.toNat 1 _ b w (by show _<256;omega)]
 dsimp only
 rw[gFlag_front]
 dsimp only
 rw[gFl_front a5 hr]
 dsimp only
 rw[show((r.sq.toNat:Nat):Int)=r.sq by omega,show((r.kd.toNat:Nat):Int)=r.kd by omega]
theorem gRow_front {α:Type} {g:Src→α×Src} {put:α→List Nat} {b w:Bool} {P:α→Prop} (hg:∀ a,P a→∀ ex,g ⟨put a++ex,b,w⟩=(a,⟨ex,b,w⟩)) (m:List α):∀ (k:Nat) (ex:List Nat),k=m.length→(∀ a∈m,P a)→gRow g ⟨m.flatMap put++ex,b,w⟩ k=(m,⟨ex,b,w⟩):=by
 induction h:m.length generalizing m with
 |zero=>
  intro k ex hk _;obtain rfl:=List.eq_nil_of_length_eq_zero h;subst hk;rfl
 |succ n ih=>
  intro k ex hk hP;subst hk;obtain⟨l,a,rfl⟩:∃ l a,m=l++[a]:=⟨m.dropLast,m.getLast (by intro e;rw[e] at h;cases h),(List.dropLast_concat_getLast _).symm⟩;have hl:l.length=n:=by rw[List.length_append,List.length_singleton] at h;omega
  have e:(l++[a]).flatMap put++ex=l.flatMap put++(put a++ex):=by simp
  rw[e];have i:=ih l hl n (put a++ex) rfl (λz hz=>hP z (List.mem_append_left _ hz))
  show((gRow g _ n).1 ++[(g (gRow g _ n).2).1],(g (gRow g _ n).2).2)=_
  rw[i,hg a (hP a (List.mem_append_right _ (List.mem_singleton.2 rfl))) ex]
theorem gRow_len {α:Type} (g:Src→α×Src) (s:Src):∀ k,(gRow g s k).1.length=k
 |0=>rfl
 |k+1=>by
  show((gRow g s k).1 ++[_]).length=_
  rw[List.length_append,gRow_len g s k];rfl
structure Las4 (l:List Rp) (a b c d:Rp):Prop where
 e:l=[a,b,c,d]
 ac:a.cl=0
 bc:b.cl=1
 cc:c.cl=2
 dc:d.cl=3
 ar:rpB a=true
 br:rpB b=true
 cr:rpB c=true
 dr:rpB d=true
theorem las_h {l:List Rp} (h4:l.length=4) (h:lasB 0 l=true):∃ a b c d,Las4 l a b c d:=by
 obtain⟨a,b,c,d,rfl⟩:∃ a b c d,l=[a,b,c,d]:=by
  match l,h4 with
  |[a,b,c,d],_=>exact⟨a,b,c,d,rfl⟩
 simp only[lasB,Bool.and_eq_true,beq_iff_eq] at h;obtain⟨h1,h2,h3,h5,h6,h7,h8,h9,_⟩:=h;exact⟨a,b,c,d,rfl,h1,h3,h6,h8,h2,h5,h7,h9⟩
theorem gNum_bytes {s:Src} (n:Nat) (h:Bytes s.xs):Bytes (gNum s n).2.xs:=(rNum_bytes s.xs s.bad n h).1
theorem gFlag_bytes {s:Src} (h:Bytes s.xs):Bytes (gFlag s).2.xs:=gNum_bytes 1 h
theorem gFl_bytes {s:Src} (h:Bytes s.xs):Bytes (gFl s).2.xs:=(rTxt_bytes s.xs s.bad _ h).1
theorem gIt_bytes {s:Src} (h:Bytes s.xs):Bytes (gIt s).2.xs:=gFl_bytes (gNum_bytes 8 (gNum_bytes 1 h))
theorem gWt_bytes {s:Src} (h:Bytes s.xs):Bytes (gWt s).2.xs:=gFl_bytes (gFlag_bytes (gNum_bytes 4 (gNum_bytes 1 h)))
theorem gRow_bytes {α:Type} {g:Src→α×Src} (hb:∀ s,Bytes s.xs→Bytes (g s).2.xs) {s:Src} (h:Bytes s.xs):∀ k,Bytes (gRow g s k).2.xs
 |0=>h
 |k+1=>hb _ (gRow_bytes hb h k)
structure MayW (s:Sp):Prop where
 n0:0≤s.now
 n1:s.now≤1099511627776
 r0:0≤s.rd
 r1:s.rd≤15
 w0:0≤s.wr
 w1:s.wr≤15
 il:s.its.length≤64
 it:∀ i∈s.its,itB s.now i=true
 wl:s.wts.length≤16
 wt:∀ x∈s.wts,wtB x=true
 la:lasB 0 s.last=true
theorem spMay_w {s:Sp} (h:spMay s=true):MayW s:=by
 unfold spMay alB itsB wtsB at h;simp only[Bool.and_eq_true,decide_eq_true_eq,List.all_eq_true] at h;obtain⟨h1,h2,⟨h3,h4⟩,⟨h5,h6⟩,⟨h7,h8,_⟩,⟨h9,h10⟩,h11⟩:=h;exact⟨h1,h2,h3,h4,h5,h6,h7,h8,h9,h10,h11⟩
theorem frontS {s:Sp} (ex:List Nat) (h:spMay s=true) (h4:s.last.length=4) (hr:InS s):gotS (putS s++ex)=s∧okS (putS s++ex)=decide (endN ex false=0):=by
 have m:=spMay_w h;obtain⟨a,b,c,d,L⟩:=las_h h4 m.la;have e1:tS1 (putS s++ex)=(s.now.toNat,⟨beN s.rd.toNat 1++(beN s.wr.toNat 1++(beN s.its.length 1++(s.its.flatMap putI++(beN s.wts.length 1++(s.wts.flatMap putW++(s.last.flatMap putL++ex)))))),false,false⟩):=by
  unfold tS1 sSrc putS;simp only[List.append_assoc];exact gNum_front _ 8 _ _ _ (by have:=m.n1;show _<18446744073709551616;omega)
 have e2:tS2 (putS s++ex)=(s.rd.toNat,⟨beN s.wr.toNat 1++(beN s.its.length 1++(s.its.flatMap putI++(beN s.wts.length 1++(s.wts.flatMap putW++(s.last.flatMap putL++ex))))),false,false⟩):=by
  unfold tS2;rw[e1];exact gNum_front _ 1 _ _ _ (by have:=m.r1;show _<256;omega)
 have e3:tS3 (putS s++ex)=(s.wr.toNat,⟨beN s.its.length 1++(s.its.flatMap putI++(beN s.wts.length 1++(s.wts.flatMap putW++(s.last.flatMap putL++ex)))),false,false⟩):=by
  unfold tS3;rw[e2];exact gNum_front _ 1 _ _ _ (by have:=m.w1;show _<256;omega)
 have e4:tS4 (putS s++ex)=(s.its.length,⟨s.its.flatMap putI++(beN s.wts.length 1++(s.wts.flatMap putW++(s.last.flatMap putL++ex))),false,false⟩):=by
  unfold tS4;rw[e3];exact gNum_front _ 1 _ _ _ (by have:=m.il;show _<256;omega)
 have e5:tS5 (putS s++ex)=(s.its,⟨beN s.wts.length 1++(s.wts.flatMap putW++(s.last.flatMap putL++ex)),false,false⟩):=by
  unfold tS5;rw[e4];exact gRow_front (P:=λi=>itB s.now i=true∧InL i.t) (λi hi ex=>gIt_front hi.1 m.n0 hi.2 ex _ _) s.its _ _ rfl (λi hi=>⟨m.it i hi,hr.it i hi⟩)
 have e6:tS6 (putS s++ex)=(s.wts.length,⟨s.wts.flatMap putW++(s.last.flatMap putL++ex),false,false⟩):=by
  unfold tS6;rw[e5];exact gNum_front _ 1 _ _ _ (by have:=m.wl;show _<256;omega)
 have e7:tS7 (putS s++ex)=(s.wts,⟨s.last.flatMap putL++ex,false,false⟩):=by
  unfold tS7;rw[e6];exact gRow_front (P:=λx=>wtB x=true∧InL x.p) (λi hi ex=>gWt_front hi.1 hi.2 ex _ _) s.wts _ _ rfl (λi hi=>⟨m.wt i hi,hr.wt i hi⟩)
 have e8:tS8 (putS s++ex)=(s.last,⟨ex,false,false⟩):=by
  have hl:=L.e;have ra:InL a.t:=hr.la a (by rw[hl];simp);have rb:InL b.t:=hr.la b (by rw[hl];simp);have rc:InL c.t:=hr.la c (by rw[hl];simp);have rd:InL d.t:=hr.la d (by rw[hl];simp);unfold tS8;rw[e7,hl];have x1:gLas ⟨[a,b,c,d].flatMap putL++ex,false,false⟩ 1=([a],⟨putL b++(putL c++(putL d++ex)),false,false⟩):=by
   have:=gLa_front L.ar ra (putL b++(putL c++(putL d++ex))) false false;rw[L.ac] at this;have e:[a,b,c,d].flatMap putL++ex=putL a++(putL b++(putL c++(putL d++ex))):=by simp
   rw[e]
   show([(gLa 0 ⟨putL a++(putL b++(putL c++(putL d++ex))),false,false⟩).1],(gLa 0 ⟨putL a++(putL b++(putL c++(putL d++ex))),false,false⟩).2)=_
   rw[this]
  have x2:gLas ⟨[a,b,c,d].flatMap putL++ex,false,false⟩ 2=([a,b],⟨putL c++(putL d++ex),false,false⟩):=by
   have:=gLa_front L.br rb (putL c++(putL d++ex)) false false;rw[L.bc] at this
   show((gLas _ 1).1 ++[(gLa 1 (gLas _ 1).2).1],(gLa 1 (gLas _ 1).2).2)=_
   rw[x1,this];rfl
  have x3:gLas ⟨[a,b,c,d].flatMap putL++ex,false,false⟩ 3=([a,b,c],⟨putL d++ex,false,false⟩):=by
   have:=gLa_front L.cr rc (putL d++ex) false false;rw[L.cc] at this
   show((gLas _ 2).1 ++[(gLa 2 (gLas _ 2).2).1],(gLa 2 (gLas _ 2).2).2)=_
   rw[x2,this];rfl
  have:=gLa_front L.dr rd ex false false;rw[L.dc] at this
  show((gLas _ 3).1 ++[(gLa 3 (gLas _ 3).2).1],(gLa 3 (gLas _ 3).2).2)=_
  rw[x3,this];rfl
 have hg:gotS (putS s++ex)=s:=by
  unfold gotS;rw[e1,e2,e3,e5,e7,e8]
  dsimp only
  rw[i64_nat m.n0 (by have:=m.n1;omega),show((s.rd.toNat:Nat):Int)=s.rd by have:=m.r0;omega,show((s.wr.toNat:Nat):Int)=s.wr by have:=m.w0;omega]
 refine⟨hg,?_⟩;unfold okS;rw[hg,h,e8,Bool.and_true];rfl
theorem frontS_ok {s:Sp} (h:spMay s=true) (h4:s.last.length=4) (hr:InS s):gotS (putS s)=s∧okS (putS s)=true:=by
 have:=frontS [] h h4 hr;rw[List.append_nil] at this;exact⟨this.1,this.2.trans rfl⟩
theorem putI_bytes (i:It):Bytes (putI i):=app_bytes (beN_bytes _ _) (app_bytes (beN_bytes _ _) (app_bytes (beN_bytes _ _) (pf_bytes _ _)))
theorem putW_bytes (i:Wt):Bytes (putW i):=app_bytes (beN_bytes _ _) (app_bytes (beN_bytes _ _) (app_bytes (beN_bytes _ _) (app_bytes (beN_bytes _ _) (pf_bytes _ _))))
theorem putL_bytes (i:Rp):Bytes (putL i):=app_bytes (beN_bytes _ _) (app_bytes (beN_bytes _ _) (app_bytes (beN_bytes _ _) (app_bytes (beN_bytes _ _) (pf_bytes _ _))))
theorem flat_bytes {α:Type} {f:α→List Nat} (h:∀ a,Bytes (f a)):∀ l:List α,Bytes (l.flatMap f)
 |[]=>nil_bytes
 |a::l=>by rw[List.flatMap_cons];exact app_bytes (h a) (flat_bytes h l)
theorem putS_bytes (s:Sp):Bytes (putS s):=
 app_bytes (beN_bytes _ _) (app_bytes (beN_bytes _ _) (app_bytes (beN_bytes _ _) (app_bytes (beN_bytes _ _) (app_bytes (flat_bytes putI_bytes _) (app_bytes (beN_bytes _ _) (app_bytes (flat_bytes putW_bytes _) (flat_bytes putL_bytes _)))))))
theorem pfl_length {t:List Fld} (h:pF t):(pfl t).length≤271:=pf_length h
theorem putI_length {now:Int} {i:It} (h:itB now i=true) (h0:0≤now):(putI i).length≤284:=by
 have:=pfl_length (itB_h9 h h0).2.2.2.2;unfold putI;simp only[List.length_append,beN_length,txtN];omega
theorem putW_length {x:Wt} (h:wtB x=true):(putW x).length≤284:=by
 have:=pfl_length (wtB_h9 h).2.2.2.2;unfold putW;simp only[List.length_append,beN_length,txtN];omega
theorem putL_length {x:Rp} (h:rpB x=true):(putL x).length≤284:=by
 have:=pfl_length (rpB_h h).2.2.2.2;unfold putL;simp only[List.length_append,beN_length,txtN];omega
theorem RdF.nil {F:Nat→Prop} {w:World} {g:Nat} {b:Bool} (x:Rd w g [] b):RdF F w g [] b:=by
 obtain⟨A,c,h1,h2,h3⟩:=x.is;exact⟨⟨A,c,h1,h2,h3,λh=>absurd h (by decide)⟩,λ_=>rfl⟩
set_option maxHeartbeats 400000 in
theorem rnum_okF (F:Nat→Prop) (g:Nat) (xs:List Nat) (bad:Bool) (n:Nat) (w:World) (x:RdF F w g xs bad) (hb:Bytes xs) (h1:1≤n) (h2:n≤8) (hn:n≤xs.length):
  Calls Tryz.prog 52 #[.pointer (some ⟨g,0,none⟩),.int .i64 n] w λe w'=>e= .returned (.int .u64 (val (xs.take n):Nat))∧RdF F w' g (xs.drop n) bad∧Kept (λk=>k=g) w w':=by
 have HT:=hid (take_F F g xs bad n w x hn);have HB:=hid hb;clear x
 go_enter Tryz.func52,Tryz.ntmps52
 go_wp2_with (first
  |(go_at_call 112;refine(wide_yes n _ (by omega) (by omega)).mono ?_;rintro e w2 ⟨rfl,rfl⟩)
  |(go_at_call 114;refine(HT.out).mono ?_;rintro e w2 ⟨⟨A,c,rfl,hc,hs⟩,x2,k2⟩;have X2:=hid x2;have K2:=hid k2;have HS:=hid hs;clear x2 k2 hs))
 obtain⟨b,o,rfl,_,hby⟩:=HS.out (by rw[List.length_take];omega);have HBY:=hid hby
 clear hby HT
 go_loop [6,18] (λv i=>∃ k:Nat,k≤n∧v= .int .u64 (val (xs.take k):Nat)∧i= .int .i64 k) (λ_ i=>n- (intOf i).toNat)
 case atStart=>exact⟨0,by omega,rfl,rfl⟩
 case round=>
  obtain⟨k,hk,rfl,rfl⟩:=hrel
  by_cases hlt:k<n
  ·have c0:=HBY.out k (by rw[List.length_take];omega);have e0:gt (xs.take n) k=gt xs k:=by simp[gt,List.getD_eq_getElem?_getD,hlt]
   rw[e0] at c0;clear e0;have b0:=HB.out k
   go_wp2
   go_round
   case rel=>
    refine⟨k+1,by omega,?_,by go_num⟩;rw[or_step _ _ (val_small _ (bytes_take HB.out k) (by rw[List.length_take];omega)) b0,List.take_succ_eq_append_getElem (by omega),val_snoc,←gt_of_lt]
   case measure=>simp[intOf];omega
  ·obtain rfl:k=n:=by omega
   go_wp2
   go_ret;exact⟨rfl,X2.out,K2.out⟩
theorem rtext_okF (F:Nat→Prop) (g:Nat) (xs:List Nat) (bad:Bool) (most:Int) (w:World) (x:RdF F w g xs bad) (hb:Bytes xs) (hm: -9223372036854775808≤most∧most≤9223372036854775807) (hl:xs.length≤70368744177664) (hn:4≤xs.length) (s:Nat) (hs:val (xs.take 4)=s) (h1:s≤most.toNat) (h2:s≤xs.length-4):
  Calls Tryz.prog 56 #[.pointer (some ⟨g,0,none⟩),.int .i64 most] w λe w'=>∃ v,e= .returned v∧w'.ownsRow w.heap.size 5 1 v s (u8s ((xs.drop 4).take s))∧RdF F w' g ((xs.drop 4).drop s) bad∧Kept (λk=>k=g) w w':=by
 have HT:=hid (rnum_okF F g xs bad 4 w x hb (by omega) (by omega) hn);have hv:val (xs.take 4)<4294967296:=by have:=val_lt (xs.take 4) (bytes_take hb 4);rw[List.length_take,Nat.min_eq_left hn] at this;exact this
 have hlen:(xs.drop 4).length=xs.length-4:=List.length_drop;rw[hs] at HT hv
 generalize xs.drop 4=ys at *
 rw[←hlen] at h2;have hyl:ys.length≤70368744177664:=by omega
 clear x hn hb hl hlen hs;obtain⟨hm1,hm2⟩:=hm;rcases(show most<0∨0≤most by omega) with h0 |h0
 ·have hs0:s=0:=by omega
  subst hs0
  go_enter Tryz.func56,Tryz.ntmps56
  go_wp2_with fail
  refine HT.out.mono ?_
  rintro e w1 ⟨rfl,x1,k1⟩
  have X1:=hid x1;have K1:=hid k1;clear x1 k1 HT
  go_wp2_with (first
   |(go_at_call 57;refine(left_t g ys bad _ (by exact X1.out.rd)).mono ?_;rintro e w2 ⟨rfl,rfl⟩)
   |(go_at_call 116;refine(raw_F F g ys bad 0 _ (by exact X1.out) (Nat.zero_le _) hyl).mono ?_;rintro e w2 ⟨v,rfl,o2,x2,k2⟩;have O2:=hid o2;have X2:=hid x2;have K2:=hid k2;clear o2 x2 k2))
  go_ret;exact⟨v,rfl,own_base O2.out (λk hk=>by have h1:=K1.out.size;have h2:=O2.out.lt k hk;omega),X2.out,K1.out.trans K2.out⟩
 ·obtain⟨m,rfl⟩:=Int.eq_ofNat_of_zero_le h0;have hsm:s≤m:=by omega
  clear h1
  go_enter Tryz.func56,Tryz.ntmps56
  go_wp2_with fail
  refine HT.out.mono ?_
  rintro e w1 ⟨rfl,x1,k1⟩
  have X1:=hid x1;have K1:=hid k1;clear x1 k1 HT
  go_wp2_with (first
   |(go_at_call 57;refine(left_t g ys bad _ (by exact X1.out.rd)).mono ?_;rintro e w2 ⟨rfl,rfl⟩)
   |(go_at_call 116;refine(raw_F F g ys bad s _ (by exact X1.out) h2 hyl).mono ?_;rintro e w2 ⟨v,rfl,o2,x2,k2⟩;have O2:=hid o2;have X2:=hid x2;have K2:=hid k2;clear o2 x2 k2))
  go_ret;exact⟨v,rfl,own_base O2.out (λk hk=>by have h1:=K1.out.size;have h2:=O2.out.lt k hk;omega),X2.out,K1.out.trans K2.out⟩
theorem rnum_F (F:Nat→Prop) (g:Nat) (xs:List Nat) (bad:Bool) (n:Nat) (w:World) (x:RdF F w g xs bad) (hb:Bytes xs) (h1:1≤n) (h2:n≤8):
  Calls Tryz.prog 52 #[.pointer (some ⟨g,0,none⟩),.int .i64 n] w λe w'=>e= .returned (.int .u64 ((rNum xs bad n).1 :Nat))∧RdF F w' g (rNum xs bad n).2.1 (rNum xs bad n).2.2 ∧Kept (λk=>k=g) w w':=by
 unfold rNum
 by_cases h:xs.length<n
 ·rw[if_pos h];refine(rnum_short g xs bad n w x.rd h1 h2 h).mono ?_
  rintro e w' ⟨rfl,r,k⟩
  exact⟨rfl,.nil r,k⟩
 ·rw[if_neg h];exact rnum_okF F g xs bad n w x hb h1 h2 (by omega)
theorem rtxt_F (F:Nat→Prop) (g:Nat) (xs:List Nat) (bad:Bool) (most:Nat) (w:World) (x:RdF F w g xs bad) (hb:Bytes xs) (hm:most≤1000000) (hl:xs.length≤70368744177664):
  Calls Tryz.prog 56 #[.pointer (some ⟨g,0,none⟩),.int .i64 (most:Int)] w λe w'=>∃ v,e= .returned v∧w'.ownsRow w.heap.size 5 1 v (rTxt xs bad most).1.length (u8s (rTxt xs bad most).1)∧RdF F w' g (rTxt xs bad most).2.1 (rTxt xs bad most).2.2 ∧Kept (λk=>k=g) w w':=by
 unfold rTxt
 by_cases h:4≤xs.length∧val (xs.take 4)≤most∧val (xs.take 4)≤xs.length-4
 ·rw[if_pos h];refine(rtext_okF F g xs bad (most:Int) w x hb (by omega) hl h.1 _ rfl (by simpa using h.2.1) h.2.2).mono ?_
  rintro e w' ⟨v,rfl,o,r,k⟩
  refine⟨v,rfl,?_,r,k⟩
  show w'.ownsRow w.heap.size _ 1 v ((xs.drop 4).take (val (xs.take 4))).length _
  rw[List.length_take,List.length_drop,Nat.min_eq_left h.2.2];exact o
 ·rw[if_neg h]
  by_cases h4:xs.length<4
  ·refine(rtext_short g xs bad (most:Int) w x.rd (by omega) h4).mono ?_
   rintro e w' ⟨v,rfl,o,r,k⟩
   exact⟨v,rfl,o,.nil r,k⟩
  ·refine(rtext_over g xs bad (most:Int) w x.rd hb (by omega) hl (by omega) (by
    have:most<val (xs.take 4)∨xs.length-4<val (xs.take 4):=by omega
    simpa using this)).mono ?_
   rintro e w' ⟨v,rfl,o,r,k⟩
   exact⟨v,rfl,o,.nil r,k⟩
def ixI {α:Type} (B:α→Bool) (l:List α):Int:=match l.findIdx? B with |some k=>(k:Int) |none=> -1
theorem ixI_some {α:Type} {B:α→Bool} {l:List α} {j:Nat} {x:α} (hx:l[j]? =some x) (hb:B x=true) (hn:∀ (i:Nat) (y:α),i<j→l[i]? =some y→B y=false):ixI B l=(j:Int):=by
 have:l.findIdx? B=some j:=by
  rw[List.findIdx?_eq_some_iff_getElem];obtain⟨hj,rfl⟩:=List.getElem?_eq_some_iff.1 hx;exact⟨hj,hb,λi hi=>by simpa using hn i _ hi (List.getElem?_eq_getElem (by omega))⟩
 rw[ixI,this]
theorem ixI_none {α:Type} {B:α→Bool} {l:List α} (hn:∀ (i:Nat) (y:α),l[i]? =some y→B y=false):ixI B l= -1:=by
 have:l.findIdx? B=none:=by
  rw[List.findIdx?_eq_none_iff];intro x hx;obtain⟨i,hi⟩:=List.getElem?_of_mem hx
  simpa using hn i x hi
 rw[ixI,this]
theorem ix_map {α β:Type} (g:β→α) (B:α→Bool) (l:List β):ixI B (l.map g)=ixI (λx=>B (g x)) l:=by
 unfold ixI;rw[List.findIdx?_map];rfl
theorem fnd_ix (p:List Fld) (l:List It):fndI p l=ixI (λi=>mT p i.t) l:=rfl
theorem sv_cells {w:World} {g:Nat} {x:Spv} (h:Blk w g 46 (sv x)):
  w.cell? ⟨g,0,none⟩=some (.int .i64 x.now)∧w.cell? ⟨g,1,none⟩=some (.slice x.ip x.its.length x.ic)∧w.cell? ⟨g,2,none⟩=some (.slice x.wp x.wts.length x.wc)∧w.cell? ⟨g,3,none⟩=some (.int .i64 x.rd)∧w.cell? ⟨g,4,none⟩=some (.int .i64 x.wr):=⟨h.cell 0,h.cell 1,h.cell 2,h.cell 3,h.cell 4⟩
theorem ix_i (q:List Fld) (l:List Itv):ixI (λy:Itv=>mT q y.i.t) l=fndI q (l.map (·.i)):=by rw[fnd_ix,ix_map]
theorem lsS_all {α:Type} {E:α→α→Bool} :∀ {l m:List α},l.length=m.length→(∀ (i:Nat) (x y:α),l[i]? =some x→m[i]? =some y→E x y=true)→lsS E l m=true
 |[],[],_,_=>rfl
 |a::l,b::m,hl,h=>by
  rw[lsS,h 0 a b rfl rfl,Bool.true_and];exact lsS_all (by simpa using hl) (λi x y hx hy=>h (i+1) x y (by simpa using hx) (by simpa using hy))
theorem lsS_no {α:Type} {E:α→α→Bool} :∀ {l m:List α} {i:Nat} {x y:α},l[i]? =some x→m[i]? =some y→E x y=false→lsS E l m=false
 |a::l,b::m,0,x,y,hx,hy,h=>by
  obtain rfl:a=x:=by simpa using hx
  obtain rfl:b=y:=by simpa using hy
  rw[lsS,h,Bool.false_and]
 |a::l,b::m,i+1,x,y,hx,hy,h=>by
  rw[lsS,lsS_no (l:=l) (m:=m) (i:=i) (by simpa using hx) (by simpa using hy) h,Bool.and_false]
theorem iv_oneA (x:Itv):(iv x).toArray.all (·.oneCell')=true:=by simp[iv,Value.oneCell']
theorem wv_oneA (x:Wtv):(wv x).toArray.all (·.oneCell')=true:=by simp[wv,Value.oneCell']
theorem iv_cells {w:World} {g:Nat} {x:Itv} (h:Blk w g 106 (iv x)):
  w.cell? ⟨g,0,none⟩=some (.int .i64 x.i.own)∧w.cell? ⟨g,1,none⟩=some (.int .i64 x.i.un)∧w.cell? ⟨g,2,none⟩=some (.slice x.p x.i.t.length x.c):=⟨h.cell 0,h.cell 1,h.cell 2⟩
theorem wv_cells {w:World} {g:Nat} {x:Wtv} (h:Blk w g 109 (wv x)):
  w.cell? ⟨g,0,none⟩=some (.int .i64 x.x.cl)∧w.cell? ⟨g,1,none⟩=some (.int .i64 x.x.sq)∧w.cell? ⟨g,2,none⟩=some (.bool x.x.tk)∧w.cell? ⟨g,3,none⟩=some (.slice x.p x.x.p.length x.c):=⟨h.cell 0,h.cell 1,h.cell 2,h.cell 3⟩
end Go.Proofs.YtlipjglehongeaaGreatDoor
