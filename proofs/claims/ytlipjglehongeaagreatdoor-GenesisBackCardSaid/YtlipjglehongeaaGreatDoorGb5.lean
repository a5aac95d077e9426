/-
  PACKAGE space, what is pure
  PACKAGE space
-/
import Derived.Test.YtlipjglehongeaaGreatDoorGb4
import Derived.Lib.SliceRun
open Go.Lib (hid)
set_option maxRecDepth 100000
namespace Go.Proofs.YtlipjglehongeaaGreatDoor
open Go Go.RowKit Sh
section
def f0:Fld:=⟨0,0,eS⟩
def gl (l:List Fld):Nat→Fld:=λj=>l.getD j f0
def fl (n:Nat) (G:Nat→Fld):List Fld:=(List.range n).map G
theorem fl_length (n:Nat) (G:Nat→Fld):(fl n G).length=n:=by simp[fl]
theorem gl_fl {n:Nat} {G:Nat→Fld} {j:Nat} (h:j<n):gl (fl n G) j=G j:=by
 simp[gl,fl,List.getD_eq_getElem?_getD,List.getElem?_range h]
theorem gl_get {l:List Fld} {j:Nat} {f:Fld} (h:l[j]? =some f):gl l j=f:=by simp[gl,List.getD_eq_getElem?_getD,h]
theorem fl_gl (l:List Fld):fl l.length (gl l)=l:=by
 apply List.ext_getElem?;intro i;unfold fl;rw[List.getElem?_map];rcases Nat.lt_or_ge i l.length with h |h
 ·rw[List.getElem?_range h,List.getElem?_eq_getElem h];simp[gl,List.getD_eq_getElem?_getD,List.getElem?_eq_getElem h]
 ·rw[List.getElem?_eq_none (by simpa using h),List.getElem?_eq_none h];rfl
structure It where
 own:Int
 un:Int
 t:List Fld
structure Wt where
 cl:Int
 sq:Int
 tk:Bool
 p:List Fld
structure Rp where
 cl:Int
 sq:Int
 kd:Int
 t:List Fld
 lt:Bool
structure Sp where
 now:Int
 its:List It
 wts:List Wt
 rd:Int
 wr:Int
 last:List Rp
structure Qp where
 cl:Int
 sq:Int
 kd:Int
 le:Int
 p:List Fld
 t:List Fld
def qp (r:Rq):Qp:=⟨r.cl,r.sq,r.kd,r.le,fl r.n r.G,fl r.m r.H⟩
def vT (t:List Fld):Bool:=mayV t.length (gl t)
def pT (p:List Fld):Bool:=mayP p.length (gl p)
def mT (p t:List Fld):Bool:=matchN p.length (gl p) t.length (gl t)
def sT (a b:List Fld):Bool:=sameN a.length (gl a) b.length (gl b)
theorem sT_iff {a b:List Fld} :sT a b=true↔a=b:=by
 unfold sT;rw[sameN_iff]
 constructor
 ·rintro⟨h1,h2⟩
  rw[←fl_gl a,←fl_gl b,←h1];exact List.map_congr_left λj hj=>h2 j (List.mem_range.1 hj)
 ·rintro rfl
  exact⟨rfl,λ_ _=>rfl⟩
theorem matchN_congr {n m:Nat} {G G' H H':Nat→Fld} (h:∀ j,j<n→G j=G' j) (k:∀ j,j<m→H j=H' j):matchN n G m H=matchN n G' m H':=by
 unfold matchN;rw[mayP_congr h,mayV_congr k]
 by_cases e:n=m
 ·subst e;rw[allN_congr n (λj hj=>by rw[h j hj,k j hj])]
 ·rw[decide_eq_false e,Bool.false_and,Bool.false_and]
theorem mT_fl {n m:Nat} {G H:Nat→Fld} :mT (fl n G) (fl m H)=matchN n G m H:=by
 unfold mT;rw[fl_length,fl_length];exact matchN_congr (λj hj=>gl_fl hj) (λj hj=>gl_fl hj)
theorem vT_fl {n:Nat} {G:Nat→Fld} :vT (fl n G)=mayV n G:=by
 unfold vT;rw[fl_length];exact mayV_congr (λj hj=>gl_fl hj)
theorem pT_fl {n:Nat} {G:Nat→Fld} :pT (fl n G)=mayP n G:=by
 unfold pT;rw[fl_length];exact mayP_congr (λj hj=>gl_fl hj)
def clB (c:Int):Bool:=decide (0≤c) && decide (c<4)
def lastB (un now:Int):Bool:=(un == 0) || (decide (now<un) && decide (un≤2199023255552))
def ownN (c:Int) (l:List It):Nat:=l.countP (λi=>i.own == c)
def itB (now:Int) (i:It):Bool:=clB i.own && (lastB i.un now && vT i.t)
def itsB (now:Int) (l:List It):Bool:=decide (l.length≤64) && (l.all (itB now) && l.all (λi=>decide (ownN i.own l≤24)))
def wtB (x:Wt):Bool:=clB x.cl && (decide (1≤x.sq) && (decide (x.sq≤1073741824) && pT x.p))
def wtsB (l:List Wt):Bool:=decide (l.length≤16) && l.all wtB
def rpB (r:Rp):Bool:=
 if r.sq=0 then(r.kd == 0) && (r.t.isEmpty && !r.lt)
 else if r.sq<0∨1073741824<r.sq then false
 else if r.kd=2 then vT r.t
 else decide (1≤r.kd) && (decide (r.kd≤6) && (r.t.isEmpty && !r.lt))
def lasB:Nat→List Rp→Bool
 |_,[]=>true
 |c,r::l=>(r.cl == (c:Int)) && (rpB r && lasB (c+1) l)
def alB (x:Int):Bool:=decide (0≤x) && decide (x≤15)
def spMay (s:Sp):Bool:=decide (0≤s.now) && (decide (s.now≤1099511627776) && (alB s.rd && (alB s.wr && (itsB s.now s.its && (wtsB s.wts && lasB 0 s.last)))))
def fnd (p:List Fld) (l:List It):Option Nat:=l.findIdx? (λi=>mT p i.t)
def fndI (p:List Fld) (l:List It):Int:=match fnd p l with |some k=>(k:Int) |none=> -1
def newS (rd wr:Int):Sp:=⟨0,[],[],bits .and .i64 rd 15,bits .and .i64 wr 15,[⟨0,0,0,[],false⟩,⟨1,0,0,[],false⟩,⟨2,0,0,[],false⟩,⟨3,0,0,[],false⟩]⟩
def gone (now:Int) (i:It):Bool:=(i.un != 0) && decide (i.un≤now)
def goOnP (s:Sp) (now:Int):Sp:= { s with now:=now,its:=s.its.filter (λi=> !gone now i) }
def tellP (r:Qp) (k:Int):Rp:=⟨r.cl,r.sq,k,[],false⟩
def giveP (r:Qp) (t:List Fld):Rp:=⟨r.cl,r.sq,2,t,false⟩
def noteP (s:Sp) (r:Rp):Sp:= { s with last:=s.last.set r.cl.toNat r }
def bitB (x c:Int):Bool:=bits .and .i64 x (2 ^ c.toNat) != 0
def allowP (s:Sp) (r:Qp):Bool:=(bitB s.rd r.cl || !rdK r.kd) && (bitB s.wr r.cl || !wrK r.kd)
def lateP (t:List Fld) (x:Wt):Rp:=⟨x.cl,x.sq,2,t,true⟩
def wakeP (t:List Fld):List Wt→List Wt×List Rp×Bool
 |[]=>([],[],false)
 |x::l=>if mT x.p t then(if x.tk then(l,[lateP t x],true) else((wakeP t l).1,lateP t x::(wakeP t l).2.1,(wakeP t l).2.2)) else(x::(wakeP t l).1,(wakeP t l).2.1,(wakeP t l).2.2)
def zR:Rp:=⟨0,0,0,[],false⟩
def lastOf (s:Sp) (c:Int):Rp:=s.last.getD c.toNat zR
def lateS (s:Sp) (x:Rp):Sp:=if (lastOf s x.cl).sq=x.sq then noteP s x else s
def putP (s:Sp) (r:Qp):Sp×List Rp:=
 let w:=wakeP r.t s.wts
 let s2:=w.2.1.foldl lateS { s with wts:=w.1 }
 (if w.2.2 then s2 else { s2 with its:=s2.its++[⟨r.cl,if r.le=0 then 0 else s.now+r.le,r.t⟩] },w.2.1)
def bringP (s:Sp) (r:Qp):Rp×Bool:=if 64≤s.its.length∨24≤ownN r.cl s.its then(tellP r 5,false) else(tellP r 1,true)
def i0:It:=⟨0,0,[]⟩
def replP (s:Sp) (r:Qp):Option Nat→Sp×Rp×Bool
 |none=>(s,tellP r 3,false)
 |some k=>if 24≤ownN r.cl (s.its.eraseIdx k) then(s,tellP r 5,false) else({ s with its:=s.its.eraseIdx k },giveP r (s.its.getD k i0).t,true)
def lookP (s:Sp) (r:Qp):Option Nat→Sp×Rp
 |some k=>if r.kd=3∨r.kd=5 then({ s with its:=s.its.eraseIdx k },giveP r (s.its.getD k i0).t) else(s,giveP r (s.its.getD k i0).t)
 |none=>if r.kd=2∨r.kd=3 then(s,tellP r 3) else if 16≤s.wts.length then(s,tellP r 5) else({ s with wts:=s.wts++[⟨r.cl,r.sq,r.kd == 5,r.p⟩] },tellP r 4)
def actP (s:Sp) (r:Qp):Sp×Rp×Bool:=
 if allowP s r=false then(s,tellP r 6,false)
 else if r.kd=1 then(s,bringP s r)
 else if r.kd=6 then(match fnd r.p s.its with |some _=>(s,tellP r 3,false) |none=>(s,bringP s r))
 else if r.kd=7 then replP s r (fnd r.p s.its)
 else if r.kd=8 then(s,tellP r 1,false)
 else((lookP s r (fnd r.p s.its)).1,(lookP s r (fnd r.p s.its)).2,false)
def answP (s:Sp) (r:Qp):Sp×List Rp:=
 let a:=actP s r
 let s2:=noteP a.1 a.2.1
 if a.2.2 then((putP s2 r).1,a.2.1::(putP s2 r).2) else(s2,[a.2.1])
def okDo (s:Sp) (now:Int) (r:Rq):Bool:=spMay s && (mayR r && (decide (s.now≤now) && decide (now≤1099511627776)))
def doP (s:Sp) (now:Int) (r:Rq):Sp×List Rp:=
 if okDo s now r=false then(s,[])
 else
  let s1:=goOnP s now
  let la:=lastOf s1 r.cl
  if r.sq<la.sq then(s1,[tellP (qp r) 7]) else if r.sq=la.sq then(s1,[la]) else answP s1 (qp r)
def itS (a b:It):Bool:=(a.own == b.own) && ((a.un == b.un) && sT a.t b.t)
def wtS (a b:Wt):Bool:=(a.cl == b.cl) && ((a.sq == b.sq) && ((a.tk == b.tk) && sT a.p b.p))
def rpS (a b:Rp):Bool:=(a.cl == b.cl) && ((a.sq == b.sq) && ((a.kd == b.kd) && ((a.lt == b.lt) && sT a.t b.t)))
def lsS {α:Type} (f:α→α→Bool):List α→List α→Bool
 |[],[]=>true
 |a::l,b::m=>f a b && lsS f l m
 |_,_=>false
def spS (a b:Sp):Bool:=(a.now == b.now) && ((a.rd == b.rd) && ((a.wr == b.wr) && (lsS itS a.its b.its && (lsS wtS a.wts b.wts && lsS rpS a.last b.last))))
theorem itS_iff {a b:It} :itS a b=true↔a=b:=by
 obtain⟨a1,a2,a3⟩:=a;obtain⟨b1,b2,b3⟩:=b;simp[itS,sT_iff]
theorem wtS_iff {a b:Wt} :wtS a b=true↔a=b:=by
 obtain⟨a1,a2,a3,a4⟩:=a;obtain⟨b1,b2,b3,b4⟩:=b;simp[wtS,sT_iff]
theorem rpS_iff {a b:Rp} :rpS a b=true↔a=b:=by
 obtain⟨a1,a2,a3,a4,a5⟩:=a;obtain⟨b1,b2,b3,b4,b5⟩:=b;simp only[rpS,Bool.and_eq_true,beq_iff_eq,sT_iff,Rp.mk.injEq];exact⟨λ⟨h1,h2,h3,h4,h5⟩=>⟨h1,h2,h3,h5,h4⟩,λ⟨h1,h2,h3,h4,h5⟩=>⟨h1,h2,h3,h5,h4⟩⟩
theorem lsS_iff {α:Type} {f:α→α→Bool} (hf:∀ a b,f a b=true↔a=b):∀ {l m:List α},lsS f l m=true↔l=m
 |[],[]=>by simp[lsS]
 |[],b::m=>by simp[lsS]
 |a::l,[]=>by simp[lsS]
 |a::l,b::m=>by simp[lsS,hf,lsS_iff hf (l:=l) (m:=m)]
theorem spS_iff {a b:Sp} :spS a b=true↔a=b:=by
 obtain⟨a1,a2,a3,a4,a5,a6⟩:=a;obtain⟨b1,b2,b3,b4,b5,b6⟩:=b;simp only[spS,Bool.and_eq_true,beq_iff_eq,lsS_iff (λ_ _=>itS_iff),lsS_iff (λ_ _=>wtS_iff),lsS_iff (λ_ _=>rpS_iff),Sp.mk.injEq];exact⟨λ⟨h1,h2,h3,h4,h5,h6⟩=>⟨h1,h4,h5,h2,h3,h6⟩,λ⟨h1,h2,h3,h4,h5,h6⟩=>⟨h1,h4,h5,h2,h3,h6⟩⟩
def RowL {α:Type} (w:World) (p:Option Addr) (sz:Nat) (f:α→List Value) (l:List α):Prop:=
 ∀ j x,l[j]? =some x→∃ b o,p=some ⟨b,o,none⟩∧b<w.heap.size∧w.rangeAt b (o+j * sz) (f x)
section
variable {α : Type} {w w' : World} {p : Option Addr} {sz : Nat} {f : α → List Value} {l : List α}
theorem RowL.below (h:RowL w p sz f l) (hb:Below w.heap.size w w'):RowL w' p sz f l:=λj x hx=>by
 obtain⟨b,o,e,hl,r⟩:=h j x hx;exact⟨b,o,e,Nat.lt_of_lt_of_le hl hb.size,λi v hv=>(hb.cell (p:=⟨b,o+j * sz+i,none⟩) hl).trans (r i v hv)⟩
theorem RowL.nil:RowL w p sz f ([]:List α):=λj x hx=>by simp at hx
theorem RowL.kept {F:Nat→Prop} (h:RowL w p sz f l) (hk:Kept F w w') (hf:∀ a:Addr,p=some a→¬ F a.block):RowL w' p sz f l:=λj x hx=>by
 obtain⟨b,o,e,hl,r⟩:=h j x hx;exact⟨b,o,e,Nat.lt_of_lt_of_le hl hk.size,λi v hv=>(hk.cell (p:=⟨b,o+j * sz+i,none⟩) hl (hf ⟨b,o,none⟩ e)).trans (r i v hv)⟩
theorem flat_length (hf:∀ x,(f x).length=sz):∀ (l:List α),(l.flatMap f).length=l.length * sz
 |[]=>by simp
 |x::l=>by rw[List.flatMap_cons,List.length_append,flat_length hf l,hf,List.length_cons,Nat.add_mul];omega
theorem flat_get (hf:∀ x,(f x).length=sz):∀ (l:List α) (j i:Nat) (x:α),l[j]? =some x→i<sz→(l.flatMap f)[j * sz+i]? =(f x)[i]?
 |[],j,i,x,hx,_=>by simp at hx
 |y::l,0,i,x,hx,hi=>by
  obtain rfl:y=x:=by simpa using hx
  rw[List.flatMap_cons,Nat.zero_mul,Nat.zero_add,List.getElem?_append_left (by rw[hf];exact hi)]
 |y::l,j+1,i,x,hx,hi=>by
  rw[List.flatMap_cons,List.getElem?_append_right (by rw[hf,Nat.add_mul];omega),hf,show(j+1) * sz+i-sz=j * sz+i by rw[Nat.add_mul];omega];exact flat_get hf l j i x (by simpa using hx) hi
theorem flat_one (h1:∀ x,∀ v∈f x,v.oneCell'=true) (l:List α):∀ v∈l.flatMap f,v.oneCell'=true:=λv hv=>by
 obtain⟨x,_,hx⟩:=List.mem_flatMap.1 hv;exact h1 x v hx
theorem RowL.of_own {base n c:Nat} {e:TypeId} (hf:∀ x,(f x).length=sz) (hn:n=l.length) (h:w.ownsRow base e sz (.slice p n c) n (l.flatMap f)):RowL w p sz f l:=λj x hx=>by
 have hj:j<l.length:=(List.getElem?_eq_some_iff.1 hx).1;rcases h.2 with⟨_,h0⟩ |⟨g,cap,cur,e,_,hh,_⟩
 ·omega
 ·have hA:p=some ⟨g,0,none⟩:=by injection e
  subst hA;refine⟨g,0,rfl,(Array.getElem?_eq_some_iff.1 hh).1,λi v hv=>?_⟩;have hi:i<sz:=by have:=(List.getElem?_eq_some_iff.1 hv).1;rwa [hf] at this
  have hm:j * sz+i<n * sz:=by
   have:(j+1) * sz≤n * sz:=Nat.mul_le_mul_right _ (by omega);rw[Nat.add_mul] at this;omega
  rw[show 0+j * sz+i=j * sz+i by omega,h.cellAt (j * sz+i) hm,flat_get hf l j i x hx hi];exact hv
theorem RowL.flat (hf:∀ x,(f x).length=sz) (h:RowL w p sz f l) (hn:0<l.length) (hz:0<sz):∃ a:Addr,p=some a∧a.spot=none∧∀ j u,(l.flatMap f)[j]? =some u→w.cell? (a.add j)=some u:=by
 obtain⟨b,o,rfl,_,_⟩:=h 0 l[0] (List.getElem?_eq_getElem hn);refine⟨⟨b,o,none⟩,rfl,rfl,λj u hu=>?_⟩;have hj:j<l.length * sz:=by have:=(List.getElem?_eq_some_iff.1 hu).1;rwa [flat_length hf] at this
 have hd:j / sz<l.length:=Nat.div_lt_of_lt_mul (by rw[Nat.mul_comm];exact hj);have hm:j % sz<sz:=Nat.mod_lt _ hz;have he:j / sz * sz+j % sz=j:=by rw[Nat.mul_comm];exact Nat.div_add_mod j sz
 obtain⟨b',o',e,_,r⟩:=h (j / sz) l[j / sz] (List.getElem?_eq_getElem hd)
 injection e with e
 injection e with e1 e2
 subst e1 e2;rw[←he,flat_get hf l (j / sz) (j % sz) l[j / sz] (List.getElem?_eq_getElem hd) hm] at hu;have:=r (j % sz) u hu;rw[Nat.add_assoc,he] at this;rw[show(⟨b,o,none⟩:Addr).add j=⟨b,o+j,none⟩ by unfold Addr.add;split<;>simp_all];exact this
end
theorem run_append_rows {α:Type} {P:Program} {w:World} {f:α→List Value} {sz by_:Nat} {z:Value} (t ty e:TypeId) (ht:P.underlying t=some (.slice e)) (hi:(P.info? e).map (λi=>(i.zero,i.size,i.bytes))=some (some z,sz,by_)) (hz:z.cells.size=sz) (h0:0<sz) (hby:by_≤1000)
  (hf:∀ x,(f x).length=sz) (h1:∀ x,∀ v∈f x,v.oneCell'=true) (base:Nat) (v:Value) (n:Nat) (xs:List Value) (hown:w.ownsRow base e sz v n xs) (p:Option Addr) (m c:Nat) (l:List α) (hm:l.length=m) (hp:RowL w p sz f l)
  (h63:n+m≤1000000) (hbase:base≤w.heap.size):
  ∃ v' w',(Builtin.append_ #[t,t] ty #[v,.slice p m c]).run P w= .ok v' w'∧w'.ownsRow base e sz v' (n+m) (xs++l.flatMap f)∧w.grownBy w' v.ownBlock∧(v'.ownBlock=v.ownBlock∨v'.ownBlock=some w.heap.size)∧(m=0→v'=v):=by
 obtain⟨i,hi',hzi,hs,hb⟩:∃ i,P.info? e=some i∧i.zero=some z∧i.size=sz∧i.bytes=by_:=by
  cases hq:P.info? e with
  |none=>simp[hq] at hi
  |some i=>simp[hq] at hi;exact⟨i,rfl,hi⟩
 by_cases hm0:m=0
 ·subst hm0;obtain rfl:l=[]:=List.eq_nil_of_length_eq_zero hm;refine⟨v,w,?_,by simpa using hown,⟨rfl,rfl,rfl,Nat.le_refl _,λ_ _ _=>rfl⟩,.inl rfl,λ_=>rfl⟩;rcases hown.2 with⟨rfl,rfl⟩ |⟨g,cap,cur,rfl,_,hcur,hnc,_⟩
  ·cases p<;>simp[Builtin.append_,run_underlying ht,sizeOf,typeInfo,hi',Builtin.lenOf,Builtin.firstCells,loadCells,loadCellsFrom]
  ·cases p<;>simp[Builtin.append_,run_underlying ht,sizeOf,typeInfo,hi',Builtin.lenOf,Builtin.firstCells,hnc,storeCells,loadCells,loadCellsFrom]
 ·obtain⟨ad,rfl,_,hc⟩:=hp.flat hf (by omega) h0;have hbig:(n+m) * by_≤140737488355328:=Nat.le_trans (Nat.mul_le_mul h63 hby) (by omega);obtain⟨v',w',hr,h2,h3,_,h5⟩:=run_append_own_at (P:=P) w base t ty e i z sz by_ ht hi' hzi hs hb hz h0 v n xs hown ad m c (l.flatMap f) (by rw[flat_length hf,hm]) hc (flat_one h1 l) (by simp only[maxLen];omega) hbig hbase;exact⟨v',w',hr,h2,h3,h5,λh=>absurd h hm0⟩
section
variable {ops : Array Oper} {rest : List Oper} {o : Oper} {a : Act} {Q : Exit → Act → World → Prop} {w : World} {α : Type} {P : Program} {f : α → List Value} {sz by_ : Nat} {z : Value}
theorem wp_append_rows {K:Act→World→Prop} (s x:Operand) (t:TypeId) (ho:o.op= .call { callee:= .builtin .append,args:= #[s,x],argTypes:= #[t,t] })
  (e:TypeId) (ht:P.underlying t=some (.slice e)) (hi:(P.info? e).map (λi=>(i.zero,i.size,i.bytes))=some (some z,sz,by_)) (hz:z.cells.size=sz) (h0:0<sz) (hby:by_≤1000)
  (hf:∀ x,(f x).length=sz) (h1:∀ x,∀ v∈f x,v.oneCell'=true) (base:Nat) (v:Value) (n:Nat) (xs:List Value) (hs:a.eval s=v) (hown:w.ownsRow base e sz v n xs) (p:Option Addr) (m c:Nat) (hx:a.eval x= .slice p m c) (l:List α) (hm:l.length=m) (hp:RowL w p sz f l)
  (h63:n+m≤1000000) (hbase:base≤w.heap.size)
  (h:∀ v' w',Hid (w'.ownsRow base e sz v' (n+m) (xs++l.flatMap f))→Hid (w.grownBy w' v.ownBlock)→Hid (v'.ownBlock=v.ownBlock∨v'.ownBlock=some w.heap.size)→Hid (m=0→v'=v)→K (a.put o.dst v') w'):o.wp P a w K Q:=by
 obtain⟨v',w',hr,h2,h3,h5,h6⟩:=run_append_rows (P:=P) (w:=w) t o.type e ht hi hz h0 hby hf h1 base v n xs hown p m c l hm hp h63 hbase;unfold Oper.wp execOp;simp only[ho,resolve,invoke,builtin,Sem.run_bind,Sem.run_pure,Result.andThen_ok,List.map_toArray,List.map_cons,List.map_nil,hs,hx,hr];exact h v' w' (hid h2) (hid h3) (hid h5) (hid h6)
theorem append_rows (s x:Operand) (t:TypeId) (hgd:o.guard=none) (ho:o.op= .call { callee:= .builtin .append,args:= #[s,x],argTypes:= #[t,t] })
  (e:TypeId) (ht:P.underlying t=some (.slice e)) (hi:(P.info? e).map (λi=>(i.zero,i.size,i.bytes))=some (some z,sz,by_)) (hz:z.cells.size=sz) (h0:0<sz) (hby:by_≤1000)
  (hf:∀ x,(f x).length=sz) (h1:∀ x,∀ v∈f x,v.oneCell'=true) (base:Nat) (v:Value) (n:Nat) (xs:List Value) (hs:a.eval s=v) (hown:w.ownsRow base e sz v n xs) (p:Option Addr) (m c:Nat) (hx:a.eval x= .slice p m c) (l:List α) (hm:l.length=m) (hp:RowL w p sz f l)
  (h63:n+m≤1000000) (hbase:base≤w.heap.size)
  (h:∀ v' w',Hid (w'.ownsRow base e sz v' (n+m) (xs++l.flatMap f))→Hid (w.grownBy w' v.ownBlock)→Hid (v'.ownBlock=v.ownBlock∨v'.ownBlock=some w.heap.size)→Hid (m=0→v'=v)→wpList P ops Q rest (a.put o.dst v') w'):wpList P ops Q (o::rest) a w:=
 wpList_plain hgd λ_ hK=>wp_append_rows s x t ho e ht hi hz h0 hby hf h1 base v n xs hs hown p m c hx l hm hp h63 hbase λv' w' h2 h3 h5 h6=>hK _ _ (h v' w' h2 h3 h5 h6)
end
structure Itv where
 i:It
 p:Option Addr
 c:Nat
structure Wtv where
 x:Wt
 p:Option Addr
 c:Nat
structure Rpv where
 r:Rp
 p:Option Addr
 c:Nat
structure Spv where
 now:Int
 its:List Itv
 ip:Option Addr
 ic:Nat
 wts:List Wtv
 wp:Option Addr
 wc:Nat
 rd:Int
 wr:Int
 last:List Rpv
def iv (x:Itv):List Value:=[.int .i64 x.i.own,.int .i64 x.i.un,.slice x.p x.i.t.length x.c]
def wv (x:Wtv):List Value:=[.int .i64 x.x.cl,.int .i64 x.x.sq,.bool x.x.tk,.slice x.p x.x.p.length x.c]
def pv (x:Rpv):List Value:=[.int .i64 x.r.cl,.int .i64 x.r.sq,.int .i64 x.r.kd,.slice x.p x.r.t.length x.c,.bool x.r.lt]
def sv (x:Spv):List Value:=[.int .i64 x.now,.slice x.ip x.its.length x.ic,.slice x.wp x.wts.length x.wc,.int .i64 x.rd,.int .i64 x.wr]++x.last.flatMap pv
def Spv.sp (x:Spv):Sp:=⟨x.now,x.its.map (·.i),x.wts.map (·.x),x.rd,x.wr,x.last.map (·.r)⟩
theorem iv_len (x:Itv):(iv x).length=3:=rfl
theorem wv_len (x:Wtv):(wv x).length=4:=rfl
theorem pv_len (x:Rpv):(pv x).length=5:=rfl
theorem iv_one (x:Itv):∀ v∈iv x,v.oneCell'=true:=λv hv=>by
 simp only[iv,List.mem_cons,List.not_mem_nil,or_false] at hv;rcases hv with rfl |rfl |rfl<;>rfl
theorem wv_one (x:Wtv):∀ v∈wv x,v.oneCell'=true:=λv hv=>by
 simp only[wv,List.mem_cons,List.not_mem_nil,or_false] at hv;rcases hv with rfl |rfl |rfl |rfl<;>rfl
theorem pv_one (x:Rpv):∀ v∈pv x,v.oneCell'=true:=λv hv=>by
 simp only[pv,List.mem_cons,List.not_mem_nil,or_false] at hv;rcases hv with rfl |rfl |rfl |rfl |rfl<;>rfl
theorem iv_size (x:Itv):(Tryz.prog.info? 106).map (·.size)=some (iv x).length:=by
 show(Tryz.prog.info? 106).map (·.size)=some 3
 kernel_rfl
theorem wv_size (x:Wtv):(Tryz.prog.info? 109).map (·.size)=some (wv x).length:=by
 show(Tryz.prog.info? 109).map (·.size)=some 4
 kernel_rfl
theorem pv_size (x:Rpv):(Tryz.prog.info? 43).map (·.size)=some (pv x).length:=by
 show(Tryz.prog.info? 43).map (·.size)=some 5
 kernel_rfl
theorem sv_len (x:Spv) (h:x.last.length=4):(sv x).length=25:=by
 unfold sv;rw[List.length_append,flat_length pv_len,h];rfl
theorem sv_size (x:Spv) (h:x.last.length=4):(Tryz.prog.info? 46).map (·.size)=some (sv x).length:=by
 rw[sv_len x h]
 kernel_rfl
structure TR (w:World) (p:Option Addr) (l:List Fld):Prop where
 t:Rw w p l.length (gl l)
 n:l.length≤9223372036854775807
theorem TR.below {w w':World} {p:Option Addr} {l:List Fld} (h:TR w p l) (hb:Below w.heap.size w w'):TR w' p l:=⟨h.t.below hb,h.n⟩
structure SpW (w:World) (x:Spv):Prop where
 its:RowL w x.ip 3 iv x.its
 it:∀ y∈x.its,TR w y.p y.i.t
 wts:RowL w x.wp 4 wv x.wts
 wt:∀ y∈x.wts,TR w y.p y.x.p
 l4:x.last.length=4
 la:∀ y∈x.last,TR w y.p y.r.t
 n:x.its.length≤9223372036854775807
 m:x.wts.length≤9223372036854775807
theorem SpW.below {w w':World} {x:Spv} (h:SpW w x) (hb:Below w.heap.size w w'):SpW w' x:=
 ⟨h.its.below hb,λy hy=>(h.it y hy).below hb,h.wts.below hb,λy hy=>(h.wt y hy).below hb,h.l4,λy hy=>(h.la y hy).below hb,h.n,h.m⟩
theorem RowL.at {α:Type} {w:World} {p:Option Addr} {sz:Nat} {f:α→List Value} {l:List α} (h:RowL w p sz f l) {j:Nat} (hj:j<l.length):∃ b o,p=some ⟨b,o,none⟩∧b<w.heap.size∧w.rangeAt b (o+j * sz) (f l[j]):=h j _ (List.getElem?_eq_getElem hj)
end
theorem infoI:(Tryz.prog.info? 106).map (λi=>(i.zero,i.size,i.bytes))=some (some (.agg #[.int .i64 0,.int .i64 0,.slice none 0 0]),3,40):=by kernel_rfl
theorem infoW:(Tryz.prog.info? 109).map (λi=>(i.zero,i.size,i.bytes))=some (some (.agg #[.int .i64 0,.int .i64 0,.bool false,.slice none 0 0]),4,48):=by kernel_rfl
theorem infoP:(Tryz.prog.info? 43).map (λi=>(i.zero,i.size,i.bytes))=some (some (.agg #[.int .i64 0,.int .i64 0,.int .i64 0,.slice none 0 0,.bool false]),5,56):=by kernel_rfl
theorem rw_row {w:World} {p:Option Addr} {l:List Fld} :Rw w p l.length (gl l)↔RowL w p 3 fv l:=by
 constructor
 ·intro h j x hx;have hj:j<l.length:=(List.getElem?_eq_some_iff.1 hx).1;obtain⟨b,o,e,hl,r⟩:=h j hj;rw[gl_get hx] at r;exact⟨b,o,e,hl,r⟩
 ·intro h j hj;have hx:l[j]? =some l[j]:=List.getElem?_eq_getElem hj;rw[gl_get hx];exact h j _ hx
theorem own_empty0 (w:World) (e:TypeId) (sz base:Nat) (h:base≤w.heap.size):(w.alloc (.cells #[] e)).ownsRow base e sz (.slice (some ⟨w.heap.size,0,none⟩) 0 0) 0 []:=by
 have:=World.ownsRow_lit w (e:=e) (size:=sz) (base:=base) #[] 0 h (Nat.zero_le _) (by simp)
 simpa using this
def FT (w:World) (base:Nat) (p:Option Addr) (c:Nat) (l:List Fld):Prop:=w.ownsRow base 154 3 (.slice p l.length c) l.length (l.flatMap fv)
theorem isClient_t (c:Int) (w:World):Calls Tryz.prog 174 #[.int .i64 c] w λe w'=>e= .returned (.bool (clB c))∧w=w':=by
 unfold clB
 by_cases h1:0≤c
 ·rw[decide_eq_true h1,Bool.true_and]
  go_enter Tryz.func174,Tryz.ntmps174
  go_wp2
  go_ret;exact⟨by simp,rfl⟩
 ·rw[decide_eq_false h1,Bool.false_and];have h2:c<0:=by omega
  go_enter Tryz.func174,Tryz.ntmps174
  go_wp2
  go_ret;exact⟨by simp,rfl⟩
theorem mayAllow_t (c:Int) (w:World):Calls Tryz.prog 137 #[.int .i64 c] w λe w'=>e= .returned (.bool (alB c))∧w=w':=by
 unfold alB
 by_cases h1:0≤c
 ·rw[decide_eq_true h1,Bool.true_and]
  go_enter Tryz.func137,Tryz.ntmps137
  go_wp2
  go_ret;exact⟨by simp,rfl⟩
 ·rw[decide_eq_false h1,Bool.false_and];have h2:c<0:=by omega
  go_enter Tryz.func137,Tryz.ntmps137
  go_wp2
  go_ret;exact⟨by simp,rfl⟩
theorem mayLast_t (un now:Int) (w:World):Calls Tryz.prog 175 #[.int .i64 un,.int .i64 now] w λe w'=>e= .returned (.bool (lastB un now))∧w=w':=by
 unfold lastB
 by_cases h0:un=0
 ·subst h0
  go_enter Tryz.func175,Tryz.ntmps175
  go_wp2
  go_ret;exact⟨by simp,rfl⟩
 ·have e0:(un == 0)=false:=by rw[beq_eq_false_iff_ne];exact h0
  rw[e0,Bool.false_or]
  by_cases h1:now<un
  ·rw[decide_eq_true h1,Bool.true_and]
   go_enter Tryz.func175,Tryz.ntmps175
   go_wp2
   go_ret;exact⟨by simp,rfl⟩
  ·rw[decide_eq_false h1,Bool.false_and];have h2:un≤now:=by omega
   go_enter Tryz.func175,Tryz.ntmps175
   go_wp2
   go_ret;exact⟨by simp,rfl⟩
theorem pv_oneA (x:Rpv):(pv x).toArray.all (·.oneCell')=true:=by simp[pv,Value.oneCell']
theorem alloc2_size (w:World) (o o':Obj):((w.alloc o).alloc o').heap.size=w.heap.size+2:=by simp
theorem pv_cells {w:World} {g:Nat} {x:Rpv} (h:Blk w g 43 (pv x)):
  w.cell? ⟨g,0,none⟩=some (.int .i64 x.r.cl)∧w.cell? ⟨g,1,none⟩=some (.int .i64 x.r.sq)∧w.cell? ⟨g,2,none⟩=some (.int .i64 x.r.kd)∧w.cell? ⟨g,3,none⟩=some (.slice x.p x.r.t.length x.c)∧w.cell? ⟨g,4,none⟩=some (.bool x.r.lt):=⟨h.cell 0,h.cell 1,h.cell 2,h.cell 3,h.cell 4⟩
theorem isEmpty_dec {α:Type} (l:List α):l.isEmpty=decide (l.length=0):=by cases l<;>simp
theorem mayReply_t (x:Rpv) (w:World) (h:TR w x.p x.r.t):Calls Tryz.prog 178 #[.agg (pv x).toArray] w λe w'=>e= .returned (.bool (rpB x.r))∧Below w.heap.size w w':=by
 obtain⟨⟨cl,sq,kd,t,lt⟩,p,c⟩:=x;have B0:=hid (Blk.new w 43 (pv ⟨⟨cl,sq,kd,t,lt⟩,p,c⟩));have BW:=hid ((Below.refl w.heap.size w).alloc (Nat.le_refl _) (.cells (pv ⟨⟨cl,sq,kd,t,lt⟩,p,c⟩).toArray 43));have MT:=hid (May_t t.length c p (gl t) _ h.n (h.below BW.out).t);have hf:rpB ⟨cl,sq,kd,t,lt⟩=if sq=0 then(kd == 0) && (decide (t.length=0) && !lt) else if sq<0∨1073741824<sq then false else if kd=2 then vT t else decide (1≤kd) && (decide (kd≤6) && (decide (t.length=0) && !lt)):=by unfold rpB;simp only[isEmpty_dec]
 obtain⟨_,c1,c2,c3,c4⟩:=pv_cells B0.out
 dsimp only at c1 c2 c3 c4
 show Calls _ _ _ _ λe w'=>e= .returned (.bool (rpB ⟨cl,sq,kd,t,lt⟩))∧Below w.heap.size w w'
 rw[hf];change Hid (Calls _ _ _ _ λe w'=>e= .returned (.bool (vT t))∧_) at MT;obtain⟨vb,hvb⟩:∃ b,vT t=b:=⟨_,rfl⟩;rw[hvb] at MT ⊢;obtain⟨n,hn⟩:∃ n,t.length=n:=⟨_,rfl⟩;rw[hn] at MT c3 ⊢;obtain⟨xs,hx⟩:∃ l,pv ⟨⟨cl,sq,kd,t,lt⟩,p,c⟩=l:=⟨_,rfl⟩;rw[hx] at B0 BW MT c1 c2 c3 c4 ⊢;clear hf hvb hn hx h B0
 by_cases s0:sq=0
 ·subst s0;rw[if_pos rfl];clear MT
  by_cases k0:kd=0
  ·subst k0
   by_cases n0:n=0
   ·subst n0
    go_enter Tryz.func178,Tryz.ntmps178
    go_wp2_with fail
    go_ret;exact⟨by simp,BW.out⟩
   ·have e1:((n:Int) == 0)=false:=by rw[beq_eq_false_iff_ne];omega
    go_enter Tryz.func178,Tryz.ntmps178
    go_wp2_with fail
    go_ret;exact⟨by simp,BW.out⟩
  ·have e1:(kd == 0)=false:=by rw[beq_eq_false_iff_ne];exact k0
   go_enter Tryz.func178,Tryz.ntmps178
   go_wp2_with fail
   go_ret;exact⟨by simp,BW.out⟩
 ·have e0:(sq == 0)=false:=by rw[beq_eq_false_iff_ne];exact s0
  rw[if_neg s0]
  by_cases s1:sq<0
  ·rw[if_pos (.inl s1)];clear MT
   go_enter Tryz.func178,Tryz.ntmps178
   go_wp2_with fail
   go_ret;exact⟨rfl,BW.out⟩
  ·by_cases s2:1073741824<sq
   ·rw[if_pos (.inr s2)];clear MT;have s3:0≤sq:=by omega
    go_enter Tryz.func178,Tryz.ntmps178
    go_wp2_with fail
    go_ret;exact⟨rfl,BW.out⟩
   ·rw[if_neg (by omega)];have s3:0≤sq:=by omega
    have s4:sq≤1073741824:=by omega
    by_cases k2:kd=2
    ·subst k2;rw[if_pos rfl]
     go_enter Tryz.func178,Tryz.ntmps178
     go_wp2_with fail
     refine MT.out.mono ?_
     rintro e w2 ⟨rfl,b2⟩
     go_wp2_with fail
     go_ret;exact⟨rfl,BW.out.trans (b2.mono BW.out.size)⟩
    ·rw[if_neg k2];have e2:(kd == 2)=false:=by rw[beq_eq_false_iff_ne];exact k2
     clear MT
     by_cases k1:1≤kd
     ·by_cases k6:kd≤6
      ·by_cases n0:n=0
       ·subst n0
        go_enter Tryz.func178,Tryz.ntmps178
        go_wp2_with fail
        go_ret;exact⟨by simp,BW.out⟩
       ·have e1:((n:Int) == 0)=false:=by rw[beq_eq_false_iff_ne];omega
        go_enter Tryz.func178,Tryz.ntmps178
        go_wp2_with fail
        go_ret;exact⟨by simp,BW.out⟩
      ·have k7:6<kd:=by omega
       go_enter Tryz.func178,Tryz.ntmps178
       go_wp2_with fail
       go_ret;exact⟨by rw[show decide (kd≤6)=false from decide_eq_false (by omega)];simp,BW.out⟩
     ·have k3:kd<1:=by omega
      go_enter Tryz.func178,Tryz.ntmps178
      go_wp2_with fail
      go_ret;exact⟨by rw[show decide (1≤kd)=false from decide_eq_false (by omega)];simp,BW.out⟩
end Go.Proofs.YtlipjglehongeaaGreatDoor
