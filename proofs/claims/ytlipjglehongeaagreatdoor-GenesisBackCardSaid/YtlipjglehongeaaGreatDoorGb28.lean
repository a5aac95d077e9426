/-
  THE REFERENCE
  PACKAGE space, what is pure, for its laws
-/
import Derived.Test.YtlipjglehongeaaGreatDoorGb9
import Derived.Test.YtlipjglehongeaaGreatDoorGb24
import Derived.Test.YtlipjglehongeaaGreatDoorGb11
open Go.Lib (hid)
set_option maxRecDepth 100000
namespace Go.Proofs.YtlipjglehongeaaGreatDoor
open Go Go.RowKit Sh
theorem refOwn_t (x:Spv) (c:Int) (w:World) (hx:SpW w x):
  Calls Tryz.prog 122 #[.agg (sv x).toArray,.int .i64 c] w λe w'=>e= .returned (.int .i64 (ownN c x.sp.its:Nat))∧Below w.heap.size w w':=by
 have S0:=hid (SB.new hx);have HN:=hid hx.n
 show Calls _ _ _ _ λe w'=>e= .returned (.int .i64 (ownN c (x.its.map (·.i)):Nat))∧_
 clear hx
 go_enter Tryz.func122,Tryz.ntmps122
 go_upto_region 1 with(fail)
 change Code.wp _ _ _ _ (w.alloc (.cells (sv x).toArray 46));obtain⟨V,hV⟩:∃ V,w.alloc (.cells (sv x).toArray 46)=V:=⟨_,rfl⟩;rw[hV] at S0 ⊢;clear hV;obtain⟨_,c1,_,_,_⟩:=sv_cells S0.out.a;have HI:=hid S0.out.rx.its;obtain⟨ip,hip⟩:∃ p,x.ip=p:=⟨_,rfl⟩;obtain⟨n,hn⟩:∃ n,x.its.length=n:=⟨_,rfl⟩;rw[hip,hn] at c1;rw[hip] at HI;rw[hn] at HN;have HL:=hid hn;have nB:(n:Int)≤9223372036854775807:=by have:=HN.out;omega
 clear hip hn
 go_upto_region 3 with(fail)
 go_loopw [5,6] (λs t wr=>∃ j cn:Nat,j≤n∧s= .int .i64 (cn:Int)∧t= .int .i64 (j:Int)∧cn=ownN c ((x.its.take j).map (·.i))∧V=wr) (λ_ t _=>n- (intOf t).toNat)
 case atStart=>exact⟨0,0,by omega,rfl,rfl,rfl,rfl⟩
 case round=>
  obtain⟨j,cn,hj,rfl,rfl,hcn,rfl⟩:=hrel
  by_cases hlt:j<n
  ·obtain⟨y,hy⟩:∃ y,x.its[j]? =some y:=⟨_,List.getElem?_eq_getElem (by rw[HL.out];exact hlt)⟩;obtain⟨b,o,rfl,hbl,rg⟩:=HI.out j y hy;have y0:V.cell? ⟨b,o+j * 3,none⟩=some (.int .i64 y.i.own):=rg 0 _ rfl;have j1:(j:Int)< (n:Int):=by omega
   have hs:ownN c ((x.its.take (j+1)).map (·.i))=cn+if y.i.own == c then 1 else 0:=by rw[take_snoc hy,List.map_append,hcn];exact ownN_snoc _ _ _
   have cb:cn≤j:=by
    rw[hcn];exact Nat.le_trans (ownN_le _ _) (by rw[List.length_map,List.length_take];omega)
   have cnB:(cn:Int)<9223372036854775807:=by omega
   obtain⟨z,hz⟩:∃ z,y.i.own=z:=⟨_,rfl⟩;rw[hz] at y0 hs;clear hcn rg hy hbl cb
   cases he:(z == c) with
   |true=>
    rw[he,if_pos rfl] at hs;have HS:=hid hs;clear hs;go_wp2_with fail
    go_roundw
    case rel=>exact⟨j+1,cn+1,hlt,by go_num,by go_num,HS.out.symm,trivial⟩
    case measure=>simp[intOf];omega
   |false=>
    rw[he,if_neg (by decide)] at hs;have HS:=hid hs;clear hs;go_wp2_with fail
    go_roundw
    case rel=>exact⟨j+1,cn,hlt,rfl,by go_num,HS.out.symm,trivial⟩
    case measure=>simp[intOf];omega
  ·obtain rfl:j=n:=by omega
   have hr:cn=ownN c (x.its.map (·.i)):=by rw[hcn,List.take_of_length_le (by rw[HL.out];exact Nat.le_refl _)]
   have HR:=hid hr;clear hlt hcn hr;go_wp2_with fail
   go_ret;exact⟨by rw[HR.out];rfl,S0.out.bel⟩
theorem refFind_t (x:Spv) (pp:Option Addr) (m c:Nat) (G:Nat→Fld) (w:World) (hm:m≤9223372036854775807) (hr:Rw w pp m G) (hx:SpW w x):
  Calls Tryz.prog 80 #[.agg (sv x).toArray,.slice pp m c] w λe w'=>e= .returned (.int .i64 (fndI (fl m G) x.sp.its))∧Below w.heap.size w w':=by
 have S0:=hid (SB.new hx);have HN:=hid hx.n
 show Calls _ _ _ _ λe w'=>e= .returned (.int .i64 (fndI (fl m G) (x.its.map (·.i))))∧_
 rw[←ix_i];have IS:=hid (λj y=>ixI_some (B:=λy:Itv=>mT (fl m G) y.i.t) (l:=x.its) (j:=j) (x:=y));have IN:=hid (ixI_none (B:=λy:Itv=>mT (fl m G) y.i.t) (l:=x.its));obtain⟨r,hrr⟩:∃ r,ixI (λy:Itv=>mT (fl m G) y.i.t) x.its=r:=⟨_,rfl⟩;rw[hrr] at IS IN ⊢;have HR:=hid hr;have HM:=hid hm;clear hx hrr hr hm
 go_enter Tryz.func80,Tryz.ntmps80
 go_upto_region 1 with(fail)
 change Code.wp _ _ _ _ (w.alloc (.cells (sv x).toArray 46));obtain⟨V,hV⟩:∃ V,w.alloc (.cells (sv x).toArray 46)=V:=⟨_,rfl⟩;rw[hV] at S0 ⊢;clear hV;obtain⟨ip,hip⟩:∃ p,x.ip=p:=⟨_,rfl⟩;obtain⟨n,hn⟩:∃ n,x.its.length=n:=⟨_,rfl⟩;rw[hn] at HN;have HL:=hid hn;have HIP:=hid hip;have nB:(n:Int)≤9223372036854775807:=by have:=HN.out;omega
 clear hip hn
 go_upto_region 2 with(fail)
 go_loopw [5] (λt wr=>∃ j:Nat,j≤n∧t= .int .i64 (j:Int)∧SB w wr x∧∀ (i:Nat) (y:Itv),i<j→x.its[i]? =some y→mT (fl m G) y.i.t=false) (λt _=>n- (intOf t).toNat)
 case atStart=>exact⟨0,by omega,rfl,S0.out,λi y hi=>absurd hi (by omega)⟩
 case round=>
  clear S0;obtain⟨j,hj,rfl,s0,hb⟩:=hrel;have S0:=hid s0;have HB:=hid hb;clear s0 hb;have c1:=(sv_cells S0.out.a).2.1;rw[HIP.out,HL.out] at c1
  by_cases hlt:j<n
  ·obtain⟨y,hy⟩:∃ y,x.its[j]? =some y:=⟨_,List.getElem?_eq_getElem (by rw[HL.out];exact hlt)⟩;obtain⟨b,o,hpe,hbl,rg⟩:=S0.out.rx.its j y hy;obtain rfl:ip=some ⟨b,o,none⟩:=HIP.out.symm.trans hpe;have y0:wr.cell? ⟨b,o+j * 3+2,none⟩=some (.slice y.p y.i.t.length y.c):=rg 2 _ rfl;have j1:(j:Int)< (n:Int):=by omega
   have MT:=hid (refmatch_t m c y.i.t.length y.c pp y.p G (gl y.i.t) wr HM.out (S0.out.rx.it y (List.mem_of_getElem? hy)).n (HR.out.below S0.out.bel) (S0.out.rx.it y (List.mem_of_getElem? hy)).t);have he:matchN m G y.i.t.length (gl y.i.t)=mT (fl m G) y.i.t:=by rw[←fl_gl y.i.t,mT_fl,fl_length];exact matchN_congr (λ_ _=>rfl) (λj hj=>gl_fl hj)
   rw[he] at MT;have HY:=hid hy;obtain⟨bb,hbb⟩:∃ b,mT (fl m G) y.i.t=b:=⟨_,rfl⟩;rw[hbb] at MT;have HBB:=hid hbb;clear he hbb hy rg hbl hpe;go_wp2_with fail
   refine MT.out.mono ?_
   rintro e w2 ⟨rfl,b2⟩
   have S2:=hid (S0.out.below b2);clear b2 MT S0 c1 y0
   cases bb with
   |true=>
    have hR:=IS.out j y HY.out HBB.out HB.out;subst hR;clear IS IN;go_wp2_with fail
    go_ret;exact⟨rfl,S2.out.bel⟩
   |false=>
    have HB2:=hid (show ∀ (i:Nat) (y:Itv),i<j+1→x.its[i]? =some y→mT (fl m G) y.i.t=false from λi y hi hy=>by
     rcases Nat.lt_or_ge i j with h |h
     ·exact HB.out i y h hy
     ·obtain rfl:i=j:=by omega
      rw[HY.out] at hy;obtain rfl:=Option.some.inj hy;exact HBB.out)
    go_wp2_with fail
    go_roundw
    case rel=>exact⟨j+1,hlt,by go_num,S2.out,HB2.out⟩
    case measure=>simp[intOf];omega
  ·obtain rfl:j=n:=by omega
   have hR:=IN.out (λi y hy=>HB.out i y (by have:=(List.getElem?_eq_some_iff.1 hy).1;rw[HL.out] at this;exact this) hy);subst hR;clear hlt;go_wp2_with fail
   go_ret;exact⟨rfl,S0.out.bel⟩
structure MayS (s:Sp):Prop where
 n0:0≤s.now
 n1:s.now≤1099511627776
 rd:alB s.rd=true
 wr:alB s.wr=true
 il:s.its.length≤64
 it:∀ y∈s.its,itB s.now y=true
 io:∀ c,ownN c s.its≤24
 wl:s.wts.length≤16
 wt:∀ y∈s.wts,wtB y=true
 la:∀ (j:Nat) (y:Rp),s.last[j]? =some y→y.cl=(j:Int)∧rpB y=true
theorem lasB_iff:∀ {l:List Rp} {c:Nat},lasB c l=true↔∀ (j:Nat) (y:Rp),l[j]? =some y→y.cl=((c+j:Nat):Int)∧rpB y=true
 |[],c=>by simp[lasB]
 |r::l,c=>by
  unfold lasB;simp only[Bool.and_eq_true,beq_iff_eq];rw[lasB_iff (l:=l) (c:=c+1)]
  constructor
  ·rintro⟨h1,h2,h3⟩ j y hy
   cases j with
   |zero=>
    obtain rfl:r=y:=by simpa using hy
    exact⟨by simpa using h1,h2⟩
   |succ j=>
    have:=h3 j y (by simpa using hy);exact⟨by rw[this.1];congr 1;omega,this.2⟩
  ·intro h;have h0:=h 0 r rfl;refine⟨by simpa using h0.1,h0.2,λj y hy=>?_⟩;have:=h (j+1) y (by simpa using hy);exact⟨by rw[this.1];congr 1;omega,this.2⟩
theorem ownN_pos {c:Int} {l:List It} (h:ownN c l≠0):∃ i∈l,i.own=c:=by
 unfold ownN at h;have h1:0<l.countP (λi=>i.own == c):=by omega
 rw[List.countP_pos_iff] at h1;obtain⟨i,hi,e⟩:=h1;exact⟨i,hi,by simpa using e⟩
theorem mayS_iff {s:Sp} :spMay s=true↔MayS s:=by
 unfold spMay itsB wtsB;simp only[Bool.and_eq_true,decide_eq_true_eq,List.all_eq_true,lasB_iff]
 constructor
 ·rintro⟨h1,h2,h3,h4,⟨h5,h6,h7⟩,⟨h8,h9⟩,h10⟩
  refine⟨h1,h2,h3,h4,h5,h6,λc=>?_,h8,h9,λj y hy=>by simpa using h10 j y hy⟩
  by_cases hc:ownN c s.its=0
  ·omega
  ·obtain⟨i,hi,rfl⟩:=ownN_pos hc;exact h7 i hi
 ·intro h;exact⟨h.n0,h.n1,h.rd,h.wr,⟨h.il,h.it,λy _=>h.io y.own⟩,⟨h.wl,h.wt⟩,λj y hy=>by simpa using h.la j y hy⟩
theorem wtB_h {y:Wt} (h:wtB y=true):clB y.cl=true∧1≤y.sq∧y.sq≤1073741824∧pT y.p=true:=by
 unfold wtB at h
 simpa only[Bool.and_eq_true,decide_eq_true_eq] using h
theorem itB_h {now:Int} {y:It} (h:itB now y=true):clB y.own=true∧lastB y.un now=true∧vT y.t=true:=by
 unfold itB at h
 simpa only[Bool.and_eq_true] using h
theorem lastB_go {un n n':Int} (h:lastB un n=true) (hg:((un != 0) && decide (un≤n'))=false):lastB un n'=true:=by
 unfold lastB at h ⊢;simp only[Bool.or_eq_true,Bool.and_eq_true,beq_iff_eq,decide_eq_true_eq,Bool.and_eq_false_iff,bne_eq_false_iff_eq,decide_eq_false_iff_not] at h hg ⊢;omega
theorem MayS.goOn {s:Sp} (h:MayS s) {now:Int} (h0:s.now≤now) (h1:now≤1099511627776):MayS (goOnP s now):=by
 refine⟨by have:=h.n0;show 0≤now;omega,h1,h.rd,h.wr,Nat.le_trans (List.length_filter_le _ _) h.il,λy hy=>?_,λc=>?_,h.wl,h.wt,h.la⟩
 ·obtain⟨hy,hg⟩:=List.mem_filter.1 hy;obtain⟨a,b,c⟩:=itB_h (h.it y hy);unfold itB;rw[a,c];have:lastB y.un now=true:=lastB_go b (show gone now y=false by simpa using hg)
  show(true && (lastB y.un now && true))=true
  rw[this];rfl
 ·exact Nat.le_trans (List.Sublist.countP_le List.filter_sublist) (h.io c)
theorem MayS.sub {s:Sp} (h:MayS s) {l:List It} (hl:l.Sublist s.its):MayS { s with its:=l } :=
 ⟨h.n0,h.n1,h.rd,h.wr,Nat.le_trans hl.length_le h.il,λy hy=>h.it y (hl.subset hy),λc=>Nat.le_trans (List.Sublist.countP_le hl) (h.io c),h.wl,h.wt,h.la⟩
theorem MayS.wsub {s:Sp} (h:MayS s) {l:List Wt} (hl:l.Sublist s.wts):MayS { s with wts:=l } :=
 ⟨h.n0,h.n1,h.rd,h.wr,h.il,h.it,h.io,Nat.le_trans hl.length_le h.wl,λy hy=>h.wt y (hl.subset hy),h.la⟩
theorem clB_q {c:Int} (h:clB c=true):((c.toNat:Nat):Int)=c∧c.toNat<4:=by
 unfold clB at h;simp only[Bool.and_eq_true,decide_eq_true_eq] at h;omega
theorem MayS.note {s:Sp} (h:MayS s) {r:Rp} (hc:clB r.cl=true) (hr:rpB r=true):MayS (noteP s r):=by
 refine⟨h.n0,h.n1,h.rd,h.wr,h.il,h.it,h.io,h.wl,h.wt,λj y hy=>?_⟩;change (s.last.set r.cl.toNat r)[j]? =some y at hy;rw[List.getElem?_set] at hy
 split at hy
 ·rename_i e
  split at hy
  ·obtain rfl:r=y:=by simpa using hy
   exact⟨by rw[←e];exact(clB_q hc).1.symm,hr⟩
  ·cases hy
 ·exact h.la j y hy
structure MayQ (r:Qp):Prop where
 cl:clB r.cl=true
 s1:1≤r.sq
 s2:r.sq≤1073741824
 k1:1≤r.kd
 k8:r.kd≤8
 p:rdK r.kd=true→pT r.p=true
 t:brK r.kd=true→vT r.t=true∧0≤r.le∧r.le≤1099511627776
theorem mayR_q {r:Rq} (h:mayR r=true):MayQ (qp r):=by
 have h':=h;unfold mayR headB isK findB bringB at h';simp only[Bool.and_eq_true,decide_eq_true_eq] at h';obtain⟨⟨⟨c0,c4⟩,⟨s1,s2⟩,k1,k8⟩,f,b⟩:=h';refine⟨by unfold clB;simp[qp,c0,c4],s1,s2,k1,k8,λhk=>?_,λhk=>?_⟩
 ·have hk':rdK r.kd=true:=hk;rw[if_pos hk'] at f
  show pT (fl r.n r.G)=true
  rw[pT_fl];exact f
 ·have hk':brK r.kd=true:=hk;rw[if_pos hk'] at b;simp only[Bool.and_eq_true,decide_eq_true_eq] at b;refine⟨?_,b.2.1,b.2.2⟩
  show vT (fl r.m r.H)=true
  rw[vT_fl];exact b.1
theorem tell_ok {r:Qp} (h:MayQ r) {k:Int} (h1:1≤k) (h6:k≤6) (h2:k≠2):rpB (tellP r k)=true:=by
 have h1':=h.s1;have h2':=h.s2;unfold rpB tellP;rw[if_neg (show ¬ r.sq=0 by omega),if_neg (show ¬ (r.sq<0∨1073741824<r.sq) by omega),if_neg h2,decide_eq_true h1,decide_eq_true h6];rfl
theorem give_ok {r:Qp} (h:MayQ r) {t:List Fld} (ht:vT t=true):rpB (giveP r t)=true:=by
 have h1':=h.s1;have h2':=h.s2;unfold rpB giveP;rw[if_neg (show ¬ r.sq=0 by omega),if_neg (show ¬ (r.sq<0∨1073741824<r.sq) by omega),if_pos rfl];exact ht
theorem late_ok {x:Wt} (h:wtB x=true) {t:List Fld} (ht:vT t=true):rpB (lateP t x)=true:=by
 obtain⟨_,h1',h2',_⟩:=wtB_h h;unfold rpB lateP;rw[if_neg (show ¬ x.sq=0 by omega),if_neg (show ¬ (x.sq<0∨1073741824<x.sq) by omega),if_pos rfl];exact ht
theorem wake_sub (t:List Fld):∀ l:List Wt,(wakeP t l).1.Sublist l
 |[]=>List.Sublist.refl _
 |x::l=>by
  unfold wakeP
  split
  ·split
   ·exact List.sublist_cons_self x l
   ·exact(wake_sub t l).cons x
  ·exact(wake_sub t l).cons_cons x
theorem wake_late (t:List Fld):∀ (l:List Wt),∀ z∈(wakeP t l).2.1,∃ x∈l,z=lateP t x
 |[],z,hz=>by simp[wakeP] at hz
 |x::l,z,hz=>by
  unfold wakeP at hz
  split at hz
  ·split at hz
   ·exact⟨x,List.mem_cons_self,by simpa using hz⟩
   ·rcases List.mem_cons.1 hz with rfl |hz
    ·exact⟨x,List.mem_cons_self,rfl⟩
    ·obtain⟨y,hy,e⟩:=wake_late t l z hz;exact⟨y,List.mem_cons_of_mem _ hy,e⟩
  ·obtain⟨y,hy,e⟩:=wake_late t l z hz;exact⟨y,List.mem_cons_of_mem _ hy,e⟩
theorem wake_left (t:List Fld):∀ (l:List Wt),(wakeP t l).2.2 =false→∀ y∈(wakeP t l).1,mT y.p t=false
 |[],_,y,hy=>by simp[wakeP] at hy
 |x::l,h,y,hy=>by
  unfold wakeP at h hy
  split at h
  ·split at h
   ·cases h
   ·rename_i hm hk
    rw[if_pos hm,if_neg hk] at hy;exact wake_left t l h y hy
  ·rename_i hm
   rw[if_neg hm] at hy;rcases List.mem_cons.1 hy with rfl |hy
   ·simpa using hm
   ·exact wake_left t l h y hy
theorem late_fold:∀ {l:List Rp} {s:Sp},MayS s→(∀ z∈l,clB z.cl=true∧rpB z=true)→MayS (l.foldl lateS s)∧(l.foldl lateS s).its=s.its∧(l.foldl lateS s).wts=s.wts∧(l.foldl lateS s).now=s.now
 |[],s,h,_=>⟨h,rfl,rfl,rfl⟩
 |z::l,s,h,hl=>by
  have hz:=hl z List.mem_cons_self;have h1:MayS (lateS s z)∧(lateS s z).its=s.its∧(lateS s z).wts=s.wts∧(lateS s z).now=s.now:=by
   unfold lateS
   split
   ·exact⟨h.note hz.1 hz.2,rfl,rfl,rfl⟩
   ·exact⟨h,rfl,rfl,rfl⟩
  obtain⟨a,b,c,d⟩:=late_fold (l:=l) (s:=lateS s z) h1.1 λz hz=>hl z (List.mem_cons_of_mem _ hz)
  exact⟨a,b.trans h1.2.1,c.trans h1.2.2.1,d.trans h1.2.2.2⟩
theorem fnd_none {p:List Fld} {l:List It} :fnd p l=none↔∀ i∈l,mT p i.t=false:=by
 unfold fnd;rw[List.findIdx?_eq_none_iff]
def NoW (s:Sp):Prop:=∀ y∈s.wts,∀ i∈s.its,mT y.p i.t=false
theorem MayS.put {s:Sp} (h:MayS s) {r:Qp} (hr:MayQ r) (hb:brK r.kd=true) (hl:s.its.length<64) (ho:ownN r.cl s.its<24):MayS (putP s r).1 ∧(NoW s→NoW (putP s r).1)∧(∀ z∈(putP s r).2,clB z.cl=true∧rpB z=true):=by
 obtain⟨ht,l0,l1⟩:=hr.t hb;have hw:=h.wsub (wake_sub r.t s.wts);have hz:∀ z∈(wakeP r.t s.wts).2.1,clB z.cl=true∧rpB z=true:=λz hz=>by
  obtain⟨x,hx,rfl⟩:=wake_late r.t s.wts z hz;exact⟨(wtB_h (h.wt x hx)).1,late_ok (h.wt x hx) ht⟩
 obtain⟨f1,f2,f3,f4⟩:=late_fold hw hz;unfold putP
 dsimp only
 refine⟨?_,?_,hz⟩
 ·split
  ·exact f1
  ·refine⟨f1.n0,f1.n1,f1.rd,f1.wr,?_,λy hy=>?_,λc=>?_,f1.wl,f1.wt,f1.la⟩
   ·show(_++[_]).length≤64
    rw[List.length_append,f2]
    show s.its.length+1≤64
    omega
   ·rcases List.mem_append.1 hy with hy |hy
    ·exact f1.it y hy
    ·obtain rfl:=List.mem_singleton.1 hy;unfold itB;rw[hr.cl,ht,f4];have n0:0≤s.now:=h.n0;have n1:s.now≤1099511627776:=h.n1
     show(true && (lastB (if r.le=0 then 0 else s.now+r.le) s.now && true))=true
     have:lastB (if r.le=0 then 0 else s.now+r.le) s.now=true:=by
      unfold lastB
      split
      ·rfl
      ·rw[decide_eq_true (show s.now<s.now+r.le by omega),decide_eq_true (show s.now+r.le≤2199023255552 by omega)];simp
     rw[this];rfl
   ·show ownN c (_++[_])≤24
    unfold ownN;rw[List.countP_append,f2];have h1:List.countP (λi=>i.own == c) s.its≤24:=h.io c
    show List.countP (λi=>i.own == c) s.its+_≤24
    by_cases e:r.cl=c
    ·subst e;have:List.countP (λi=>i.own == r.cl) s.its<24:=ho;have:=List.countP_le_length (p:=λi:It=>i.own == r.cl) (l:=[⟨r.cl,if r.le=0 then 0 else s.now+r.le,r.t⟩]);simp only[List.length_singleton] at this;omega
    ·rw[List.countP_cons_of_neg (by simpa using e)]
     simpa using h1
 ·intro hn y hy i hi
  split at hy
  ·rename_i hk
   rw[if_pos hk] at hi;rw[f3] at hy;rw[f2] at hi;exact hn y ((wake_sub _ _).subset hy) i hi
  ·rename_i hk
   rw[if_neg hk] at hi;change y∈(List.foldl lateS _ _).wts at hy;rw[f3] at hy;change i∈(List.foldl lateS _ _).its++_ at hi;rw[f2] at hi;rcases List.mem_append.1 hi with hi |hi
   ·exact hn y ((wake_sub _ _).subset hy) i hi
   ·obtain rfl:=List.mem_singleton.1 hi;exact wake_left r.t s.wts (by simpa using hk) y hy
structure ActOk (s:Sp) (r:Qp) (a:Sp×Rp×Bool):Prop where
 may:MayS a.1
 rp:rpB a.2.1=true
 cl:a.2.1.cl=r.cl
 sq:a.2.1.sq=r.sq
 puts:a.2.2=true→brK r.kd=true∧a.1.its.length<64∧ownN r.cl a.1.its<24
 now:NoW s→NoW a.1
 nw:a.1.now=s.now
 ls:a.1.last=s.last
theorem item_t {s:Sp} (h:MayS s) {k:Nat} (hk:k<s.its.length):vT (s.its.getD k i0).t=true:=by
 rw[List.getD_eq_getElem?_getD,List.getElem?_eq_getElem hk];exact(itB_h (h.it _ (List.getElem_mem hk))).2.2
theorem fnd_lt0 {p:List Fld} {l:List It} {k:Nat} (h:fnd p l=some k):k<l.length:=(List.findIdx?_eq_some_iff_findIdx_eq.1 h).1
theorem bring_ok {s:Sp} {r:Qp} (h:MayS s) (hr:MayQ r) (hb:brK r.kd=true):ActOk s r (s,bringP s r):=by
 unfold bringP
 split
 ·exact⟨h,tell_ok hr (by decide) (by decide) (by decide),rfl,rfl,λh=>(by cases h),id,rfl,rfl⟩
 ·exact⟨h,tell_ok hr (by decide) (by decide) (by decide),rfl,rfl,λ_=>⟨hb,by show s.its.length<64;omega,by show ownN r.cl s.its<24;omega⟩,id,rfl,rfl⟩
theorem tell_act {s:Sp} {r:Qp} (h:MayS s) (hr:MayQ r) {k:Int} (h1:1≤k) (h6:k≤6) (h2:k≠2):ActOk s r (s,tellP r k,false):=
 ⟨h,tell_ok hr h1 h6 h2,rfl,rfl,λh=>(by cases h),id,rfl,rfl⟩
theorem MayS.act {s:Sp} (h:MayS s) {r:Qp} (hr:MayQ r):ActOk s r (actP s r):=by
 cases ha:allowP s r with
 |false=>
  unfold actP;rw[if_pos ha];exact tell_act h hr (by decide) (by decide) (by decide)
 |true=>
  rw[actP_o ha]
  split
  ·rename_i hk
   exact bring_ok h hr (by rw[hk];rfl)
  ·split
   ·rename_i hk
    unfold casP
    split
    ·exact tell_act h hr (by decide) (by decide) (by decide)
    ·exact bring_ok h hr (by rw[hk];rfl)
   ·split
    ·rename_i hk
     have hb:brK r.kd=true:=by rw[hk];rfl
     cases hf:fnd r.p s.its with
     |none=>exact tell_act h hr (by decide) (by decide) (by decide)
     |some k=>
      have hlt:=fnd_lt0 hf;unfold replP
      dsimp only
      split
      ·exact tell_act h hr (by decide) (by decide) (by decide)
      ·refine⟨h.sub (List.eraseIdx_sublist _ _),give_ok hr (item_t h hlt),rfl,rfl,λ_=>⟨hb,?_,?_⟩,λhn y hy i hi=>hn y hy i ((List.eraseIdx_sublist _ _).subset hi),rfl,rfl⟩
       ·show(s.its.eraseIdx k).length<64
        rw[List.length_eraseIdx,if_pos hlt];have:=h.il;omega
       ·show ownN r.cl (s.its.eraseIdx k)<24
        omega
    ·split
     ·exact tell_act h hr (by decide) (by decide) (by decide)
     ·rename_i k1 k6 k7 k8
      have hrd:rdK r.kd=true:=by
       have:=hr.k1;have:=hr.k8;unfold rdK;rw[decide_eq_true (show 2≤r.kd by omega),decide_eq_true (show r.kd≤7 by omega)];rfl
      cases hf:fnd r.p s.its with
      |some k=>
       have hlt:=fnd_lt0 hf;unfold lookP
       dsimp only
       split
       ·exact⟨h.sub (List.eraseIdx_sublist _ _),give_ok hr (item_t h hlt),rfl,rfl,λh=>(by cases h),λhn y hy i hi=>hn y hy i ((List.eraseIdx_sublist _ _).subset hi),rfl,rfl⟩
       ·exact⟨h,give_ok hr (item_t h hlt),rfl,rfl,λh=>(by cases h),id,rfl,rfl⟩
      |none=>
       unfold lookP
       dsimp only
       split
       ·exact tell_act h hr (by decide) (by decide) (by decide)
       ·split
        ·exact tell_act h hr (by decide) (by decide) (by decide)
        ·rename_i hw
         refine⟨⟨h.n0,h.n1,h.rd,h.wr,h.il,h.it,h.io,?_,λy hy=>?_,h.la⟩,tell_ok hr (by decide) (by decide) (by decide),rfl,rfl,λh=>(by cases h),λhn y hy i hi=>?_,rfl,rfl⟩
         ·show(s.wts++[_]).length≤16
          rw[List.length_append,List.length_singleton];omega
         ·rcases List.mem_append.1 hy with hy |hy
          ·exact h.wt y hy
          ·obtain rfl:=List.mem_singleton.1 hy;unfold wtB
           show(clB r.cl && (decide (1≤r.sq) && (decide (r.sq≤1073741824) && pT r.p)))=true
           rw[hr.cl,decide_eq_true hr.s1,decide_eq_true hr.s2,hr.p hrd];rfl
         ·rcases List.mem_append.1 hy with hy |hy
          ·exact hn y hy i hi
          ·obtain rfl:=List.mem_singleton.1 hy;exact fnd_none.1 hf i hi
theorem answ_ok {s:Sp} (h:MayS s) {r:Qp} (hr:MayQ r):MayS (answP s r).1 ∧(NoW s→NoW (answP s r).1):=by
 have ha:=h.act hr;have hn:=ha.may.note (r:=(actP s r).2.1) (by rw[ha.cl];exact hr.cl) ha.rp;unfold answP
 dsimp only
 split
 ·rename_i hp
  obtain⟨b1,b2,b3⟩:=ha.puts hp;obtain⟨p1,p2,_⟩:=hn.put hr b1 b2 b3;exact⟨p1,λhw=>p2 (ha.now hw)⟩
 ·exact⟨hn,λhw=>ha.now hw⟩
theorem okDo_h {s:Sp} {now:Int} {r:Rq} (h:okDo s now r=true):MayS s∧mayR r=true∧s.now≤now∧now≤1099511627776:=by
 unfold okDo at h;simp only[Bool.and_eq_true,decide_eq_true_eq] at h;exact⟨mayS_iff.1 h.1,h.2.1,h.2.2.1,h.2.2.2⟩
theorem NoW.goOn {s:Sp} (h:NoW s) (now:Int):NoW (goOnP s now):=λy hy i hi=>h y hy i (List.mem_filter.1 hi).1
theorem do_ok {s:Sp} (h:MayS s) (now:Int) (r:Rq):MayS (doP s now r).1 ∧(NoW s→NoW (doP s now r).1):=by
 cases ho:okDo s now r with
 |false=>
  rw[do_no ho];exact⟨h,id⟩
 |true=>
  obtain⟨_,hm,h0,h1⟩:=okDo_h ho;have hg:=h.goOn h0 h1;unfold doP;rw[if_neg (by rw[ho];decide)]
  dsimp only
  split
  ·exact⟨hg,λhw=>hw.goOn now⟩
  ·split
   ·exact⟨hg,λhw=>hw.goOn now⟩
   ·have:=answ_ok hg (mayR_q hm);exact⟨this.1,λhw=>this.2 (hw.goOn now)⟩
theorem newS_may (rd wr:Int) (h1:alB (bits .and .i64 rd 15)=true) (h2:alB (bits .and .i64 wr 15)=true):MayS (newS rd wr):=
 ⟨Int.le_refl 0,(show(0:Int)≤1099511627776 by decide),h1,h2,Nat.zero_le _,(λy hy=>by cases hy),(λc=>by simp[newS,ownN]),Nat.zero_le _,(λy hy=>by cases hy),λj y hy=>by
  have hj:j<4:=by have:=(List.getElem?_eq_some_iff.1 hy).1;simpa [newS] using this
  rcases(show j=0∨j=1∨j=2∨j=3 by omega) with rfl |rfl |rfl |rfl<;>obtain rfl:=Option.some.inj hy<;>exact⟨rfl,rfl⟩⟩
theorem lastOf_note (s:Sp) (x:Rp) (c:Int):lastOf (noteP s x) c=if x.cl.toNat=c.toNat∧x.cl.toNat<s.last.length then x else lastOf s c:=by
 unfold lastOf noteP
 dsimp only
 rw[List.getD_eq_getElem?_getD,List.getD_eq_getElem?_getD,List.getElem?_set]
 by_cases h:x.cl.toNat=c.toNat
 ·rw[if_pos h]
  by_cases hl:x.cl.toNat<s.last.length
  ·rw[if_pos hl,if_pos ⟨h,hl⟩];rfl
  ·rw[if_neg hl,if_neg (λe=>hl e.2),List.getElem?_eq_none (by omega)]
 ·rw[if_neg h,if_neg (λe=>h e.1)]
theorem lateS_sq (s:Sp) (x:Rp) (c:Int):(lastOf (lateS s x) c).sq=(lastOf s c).sq:=by
 unfold lateS
 split
 ·rename_i h
  rw[lastOf_note]
  split
  ·rename_i e
   rw[←h];unfold lastOf;rw[e.1]
  ·rfl
 ·rfl
theorem late_sq (c:Int):∀ (l:List Rp) (s:Sp),(lastOf (l.foldl lateS s) c).sq=(lastOf s c).sq
 |[],s=>rfl
 |x::l,s=>by rw[List.foldl_cons,late_sq c l,lateS_sq]
theorem lateS_kept (s:Sp) (x:Rp):(lateS s x).rd=s.rd∧(lateS s x).wr=s.wr∧(lateS s x).last.length=s.last.length∧(lateS s x).now=s.now∧(lateS s x).its=s.its∧(lateS s x).wts=s.wts:=by
 unfold lateS
 split
 ·exact⟨rfl,rfl,by simp[noteP],rfl,rfl,rfl⟩
 ·exact⟨rfl,rfl,rfl,rfl,rfl,rfl⟩
theorem late_kept:∀ (l:List Rp) (s:Sp),(l.foldl lateS s).rd=s.rd∧(l.foldl lateS s).wr=s.wr∧(l.foldl lateS s).last.length=s.last.length∧(l.foldl lateS s).now=s.now∧(l.foldl lateS s).its=s.its∧(l.foldl lateS s).wts=s.wts
 |[],s=>⟨rfl,rfl,rfl,rfl,rfl,rfl⟩
 |x::l,s=>by
  obtain⟨a1,a2,a3,a4,a5,a6⟩:=late_kept l (lateS s x);obtain⟨b1,b2,b3,b4,b5,b6⟩:=lateS_kept s x;exact⟨a1.trans b1,a2.trans b2,a3.trans b3,a4.trans b4,a5.trans b5,a6.trans b6⟩
theorem put_kept (s:Sp) (r:Qp):(putP s r).1.rd=s.rd∧(putP s r).1.wr=s.wr∧(putP s r).1.last.length=s.last.length∧(putP s r).1.now=s.now:=by
 obtain⟨a1,a2,a3,a4,_,_⟩:=late_kept (wakeP r.t s.wts).2.1 { s with wts:=(wakeP r.t s.wts).1 };unfold putP
 dsimp only
 split
 ·exact⟨a1,a2,a3,a4⟩
 ·exact⟨a1,a2,a3,a4⟩
theorem act_kept (s:Sp) (r:Qp):(actP s r).1.rd=s.rd∧(actP s r).1.wr=s.wr∧(actP s r).1.last=s.last∧(actP s r).1.now=s.now:=by
 refine act_cases (P:=λa=>a.1.rd=s.rd∧a.1.wr=s.wr∧a.1.last=s.last∧a.1.now=s.now) ⟨rfl,rfl,rfl,rfl⟩ ⟨rfl,rfl,rfl,rfl⟩ ⟨rfl,rfl,rfl,rfl⟩ (λo=>?_) ⟨rfl,rfl,rfl,rfl⟩ (λo=>?_)
 ·cases o with
  |none=>exact⟨rfl,rfl,rfl,rfl⟩
  |some k=>
   unfold replP
   dsimp only
   split<;>exact⟨rfl,rfl,rfl,rfl⟩
 ·cases o with
  |none=>
   unfold lookP
   dsimp only
   split
   ·exact⟨rfl,rfl,rfl,rfl⟩
   ·split<;>exact⟨rfl,rfl,rfl,rfl⟩
  |some k=>
   unfold lookP
   dsimp only
   split<;>exact⟨rfl,rfl,rfl,rfl⟩
theorem answ_kept (s:Sp) (r:Qp):(answP s r).1.rd=s.rd∧(answP s r).1.wr=s.wr∧(answP s r).1.last.length=s.last.length∧(answP s r).1.now=s.now:=by
 obtain⟨a1,a2,a3,a4⟩:=act_kept s r;unfold answP
 dsimp only
 split
 ·obtain⟨b1,b2,b3,b4⟩:=put_kept (noteP (actP s r).1 (actP s r).2.1) r;refine⟨b1.trans a1,b2.trans a2,b3.trans ?_,b4.trans a4⟩
  show((actP s r).1.last.set _ _).length=_
  rw[List.length_set,a3]
 ·refine⟨a1,a2,?_,a4⟩
  show((actP s r).1.last.set _ _).length=_
  rw[List.length_set,a3]
theorem do_kept (s:Sp) (now:Int) (r:Rq):(doP s now r).1.rd=s.rd∧(doP s now r).1.wr=s.wr∧(doP s now r).1.last.length=s.last.length∧(doP s now r).1.now=(if okDo s now r=false then s.now else now):=by
 cases ho:okDo s now r with
 |false=>
  rw[do_no ho];exact⟨rfl,rfl,rfl,rfl⟩
 |true=>
  rw[if_neg (by decide)];unfold doP;rw[if_neg (by rw[ho];decide)]
  dsimp only
  split
  ·exact⟨rfl,rfl,rfl,rfl⟩
  ·split
   ·exact⟨rfl,rfl,rfl,rfl⟩
   ·obtain⟨a1,a2,a3,a4⟩:=answ_kept (goOnP s now) (qp r);exact⟨a1,a2,a3,a4⟩
end Go.Proofs.YtlipjglehongeaaGreatDoor
