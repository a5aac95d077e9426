/-
  PACKAGE space
  PACKAGE space
  PACKAGE space
  PACKAGE space
  PACKAGE space
  PACKAGE space
  PACKAGE space
  PACKAGE state
-/
import Derived.Test.YtlipjglehongeaaGreatDoorGb8
import Derived.ArgAppend
import Derived.Test.YtlipjglehongeaaGreatDoorGb7
open Go.Lib (hid)
set_option maxRecDepth 100000
namespace Go.Proofs.YtlipjglehongeaaGreatDoor
open Go Go.RowKit Sh
section
section
section
section
section
theorem list4 {α:Type} {l:List α} (h:l.length=4):∃ a b c d,l=[a,b,c,d]:=by
 match l,h with
 |[a,b,c,d],_=>exact⟨a,b,c,d,rfl⟩
def rpOk (l:List Rpv) (j:Nat):Bool:=match l[j]? with
 |some x=>(x.r.cl == (j:Int)) && rpB x.r
 |none=>true
theorem las_all {l:List Rpv} (h:l.length=4):lasB 0 (l.map (·.r))=allN (rpOk l) 4:=by
 obtain⟨a,b,c,d,rfl⟩:=list4 h;simp only[List.map_cons,List.map_nil,lasB,allN,rpOk,List.getElem?_cons_zero,List.getElem?_cons_succ,Bool.true_and,Bool.and_true];simp[Bool.and_assoc]
theorem index_pv (l:List Rpv) (h:l.length=4) (j:Nat) (x:Rpv) (hx:l[j]? =some x) (k:IntKind) (W:World):(Instr.index 44 (.agg (l.flatMap pv).toArray) (.int k (j:Int))).run Tryz.prog W= .ok (.agg (pv x).toArray) W:=by
 obtain⟨a,b,c,d,rfl⟩:=list4 h;have i0:∀ k W,(Instr.index 44 (.agg ([a,b,c,d].flatMap pv).toArray) (.int k 0)).run Tryz.prog W= .ok (.agg (pv a).toArray) W:=λk W=>by kernel_rfl
 have i1:∀ k W,(Instr.index 44 (.agg ([a,b,c,d].flatMap pv).toArray) (.int k 1)).run Tryz.prog W= .ok (.agg (pv b).toArray) W:=λk W=>by kernel_rfl
 have i2:∀ k W,(Instr.index 44 (.agg ([a,b,c,d].flatMap pv).toArray) (.int k 2)).run Tryz.prog W= .ok (.agg (pv c).toArray) W:=λk W=>by kernel_rfl
 have i3:∀ k W,(Instr.index 44 (.agg ([a,b,c,d].flatMap pv).toArray) (.int k 3)).run Tryz.prog W= .ok (.agg (pv d).toArray) W:=λk W=>by kernel_rfl
 have hj:j=0∨j=1∨j=2∨j=3:=by have:=(List.getElem?_eq_some_iff.1 hx).1;simp at this;omega
 rcases hj with rfl |rfl |rfl |rfl<;>obtain rfl:=Option.some.inj hx
 ·exact i0 k W
 ·exact i1 k W
 ·exact i2 k W
 ·exact i3 k W
theorem pvs_size (l:List Rpv) (h:l.length=4):(Tryz.prog.info? 44).map (·.size)=some (l.flatMap pv).length:=by
 rw[flat_length pv_len,h]
 kernel_rfl
set_option maxHeartbeats 800000 in
theorem mayReplies_t (l:List Rpv) (w:World) (h4:l.length=4) (ht:∀ y∈l,TR w y.p y.r.t):
  Calls Tryz.prog 140 #[.agg (l.flatMap pv).toArray] w λe w'=>e= .returned (.bool (lasB 0 (l.map (·.r))))∧Below w.heap.size w w':=by
 have IX:=hid (λj x hx k W=>index_pv l h4 j x hx k W);have HT:=hid ht;have H4:=hid h4;have B0:=hid (Blk.new w 44 (l.flatMap pv));have BW0:=hid ((Below.refl w.heap.size w).alloc (Nat.le_refl _) (.cells (l.flatMap pv).toArray 44));have PS:=hid (pvs_size l h4);rw[las_all h4];have AY:=hid (λh=>(allN_iff (rpOk l) 4).2 h);have AN:=hid (λj hj h=>allN_no (B:=rpOk l) (n:=4) (j:=j) hj h);obtain⟨r,hr⟩:∃ r,allN (rpOk l) 4=r:=⟨_,rfl⟩;rw[hr] at AY AN ⊢;obtain⟨cs,hcs⟩:∃ cs,l.flatMap pv=cs:=⟨_,rfl⟩;rw[hcs] at IX B0 BW0 PS ⊢;clear ht hr hcs h4
 go_enter Tryz.func140,Tryz.ntmps140
 go_upto_region 2 with(((with_reducible refine load_blk 44 (.tmp 1) w.heap.size 44 cs _ rfl rfl ?_ Tryz.underlying44 ?_ ?_ ?_ ?_);exact B0.out;exact rfl;exact PS.out;exact rfl))
 go_loopw [6] (λx wr=>∃ j:Nat,j≤4∧x= .int .i64 (j:Int)∧(∀ i,i<j→rpOk l i=true)∧Below w.heap.size w wr) (λx _=>4- (intOf x).toNat)
 case atStart=>exact⟨0,by omega,rfl,λi hi=>absurd hi (by omega),BW0.out⟩
 case round=>
  obtain⟨j,hj,rfl,hb,bw⟩:=hrel;have HB:=hid hb;have BW:=hid bw;clear hb bw B0 BW0 PS
  by_cases hlt:j<4
  ·obtain⟨x,hx⟩:∃ x,l[j]? =some x:=by have:=H4.out;exact⟨_,List.getElem?_eq_getElem (by omega)⟩
   have ix:=λW=>IX.out j x hx .i64 W
   have FS:=hid (pv_size x);have F1:=hid (pv_oneA x);have j1:(j:Int)<4:=by omega
   have A0:=hid (Blk.new wr 43 [.int .i64 0,.int .i64 0,.int .i64 0,.slice none 0 0,.bool false]);have A1:=hid (A0.out.setRow (pv x));have W1:=hid (below_setRow ((Below.refl wr.heap.size wr).alloc (Nat.le_refl _) (.cells #[.int .i64 0,.int .i64 0,.int .i64 0,.slice none 0 0,.bool false] 43)) (Nat.le_refl _) (pv x).toArray);have WX:=hid (BW.out.trans (W1.out.mono BW.out.size));have MR:=hid (mayReply_t x _ ((HT.out x (List.mem_of_getElem? hx)).below WX.out));have c0:=(pv_cells A1.out).1;have hok:rpOk l j=((x.r.cl == (j:Int)) && rpB x.r):=by unfold rpOk;rw[hx]
   obtain⟨b1,hb1⟩:∃ n,rpB x.r=n:=⟨_,rfl⟩;rw[hb1] at MR hok;clear hb1;obtain⟨cl,hcl⟩:∃ n,x.r.cl=n:=⟨_,rfl⟩;rw[hcl] at c0 hok;clear hcl;clear hx
   cases he:(cl == (j:Int)) with
   |false=>
    rw[he,Bool.false_and] at hok;have hR:=AN.out j hlt hok;subst hR;have e1:(cl != (j:Int))=true:=by rw[bne,he];rfl
    clear hok MR
    go_wp2_with (first
     |((with_reducible refine store_blk 43 (.tmp 4) (.tmp 9) wr.heap.size 43 [.int .i64 0,.int .i64 0,.int .i64 0,.slice none 0 0,.bool false] (pv x) rfl rfl ?_ ?_ ?_ ?_ ?_ ?_ ?_);exact A0.out;exact rfl;exact FS.out;exact F1.out;exact rfl;exact rfl)
     |fail)
    go_ret;exact⟨rfl,WX.out⟩
   |true=>
    rw[he,Bool.true_and] at hok;have e1:(cl != (j:Int))=false:=by rw[bne,he];rfl
    have HOK:=hid hok;clear hok
    go_wp2_with (first
     |((with_reducible refine store_blk 43 (.tmp 4) (.tmp 9) wr.heap.size 43 [.int .i64 0,.int .i64 0,.int .i64 0,.slice none 0 0,.bool false] (pv x) rfl rfl ?_ ?_ ?_ ?_ ?_ ?_ ?_);exact A0.out;exact rfl;exact FS.out;exact F1.out;exact rfl;exact rfl)
     |((with_reducible refine load_blk_gdO 15 43 (.tmp 4) wr.heap.size 43 (pv x) _ ?_ ?_ rfl ?_ Tryz.underlying43 ?_ ?_ ?_ ?_);exact rfl;kernel_rfl;exact A1.out;exact rfl;exact FS.out;exact rfl))
    refine MR.out.mono ?_
    rintro e w2 ⟨rfl,b2⟩
    have B2:=hid (WX.out.trans (b2.mono WX.out.size));clear b2 A0 A1 FS F1 W1 WX BW MR
    cases b1 with
    |false=>
     have hR:=AN.out j hlt HOK.out;subst hR;clear HOK;go_wp2_with fail
     go_ret;exact⟨rfl,B2.out⟩
    |true=>
     have HB2:=hid (show ∀ i,i<j+1→rpOk l i=true from λi hi=>by
      rcases Nat.lt_or_ge i j with h |h
      ·exact HB.out i h
      ·obtain rfl:i=j:=by omega
       exact HOK.out)
     clear HOK c0 ix;go_wp2_with fail
     go_roundw
     case rel=>exact⟨j+1,hlt,by go_num,HB2.out,B2.out⟩
     case measure=>simp[intOf];omega
  ·obtain rfl:j=4:=by omega
   have hR:=AY.out HB.out;subst hR;clear hlt;go_wp2_with fail
   go_ret;exact⟨rfl,BW.out⟩
theorem load_part_gdO {P:Program} {ops:Array Oper} {rest:List Oper} {o:Oper} {a:Act} {w:World} {Q:Exit→Act→World→Prop} (D:Nat) (ty:TypeId) (x:Operand) (g off:Nat) (t:TypeId) (A M C:List Value) (d:TypeDesc)
  (_hD:o.dst=some D) (hw:Region.wanted o (yielded ops a.tmps)=true) (ho:o.op= .load ty x) (hg:Blk w g t (A++(M++C))) (hoff:off=A.length) (hu:P.underlying ty=some d) (hd:d.isRow=true) (hi:(P.info? ty).map (·.size)=some M.length)
  (hx:a.eval x= .pointer (some ⟨g,off,none⟩)) (h:wpList P ops Q rest (a.put o.dst (.agg M.toArray)) w):wpList P ops Q (o::rest) a w:=
 BigFrame.wpList_want hw λ_ hK=>wload_part ty x g off t A M C d ho hg hoff hu hd hi hx (hK _ _ h)
def svA (x:Spv):List Value:=[.int .i64 x.now,.slice x.ip x.its.length x.ic,.slice x.wp x.wts.length x.wc,.int .i64 x.rd,.int .i64 x.wr]
theorem sv_split (x:Spv):sv x=svA x++(x.last.flatMap pv++[]):=by rw[List.append_nil];rfl
structure SB (w0 W:World) (x:Spv):Prop where
 a:Blk W w0.heap.size 46 (sv x)
 rx:SpW W x
 bel:Below w0.heap.size w0 W
theorem SB.below {w0 W W':World} {x:Spv} (h:SB w0 W x) (hb:Below W.heap.size W W'):SB w0 W' x:=⟨h.a.below hb h.a.lt,h.rx.below hb,h.bel.trans (hb.mono h.bel.size)⟩
theorem SB.new {w:World} {x:Spv} (hx:SpW w x):SB w (w.alloc (.cells (sv x).toArray 46)) x:=by
 have b1:=(Below.refl w.heap.size w).alloc (Nat.le_refl _) (.cells (sv x).toArray 46);exact⟨Blk.new w 46 (sv x),hx.below b1,b1⟩
set_option maxHeartbeats 1000000 in
theorem SpMay_t (x:Spv) (w:World) (hx:SpW w x):
  Calls Tryz.prog 96 #[.agg (sv x).toArray] w λe w'=>e= .returned (.bool (spMay x.sp))∧Below w.heap.size w w':=by
 have S0:=hid (SB.new hx);have PS:=hid (pvs_size x.last hx.l4);have AR:=hid (mayAllow_t x.rd (w.alloc (.cells (sv x).toArray 46)));have AW:=hid (mayAllow_t x.wr (w.alloc (.cells (sv x).toArray 46)));have MI_:=hid (λW (h:SB w W x)=>mayItems_t x.its x.ip x.ic x.now W h.rx.n h.rx.its h.rx.it);have MW_:=hid (λW (h:SB w W x)=>mayWaiters_t x.wts x.wp x.wc W h.rx.m h.rx.wts h.rx.wt);have MR_:=hid (λW (h:SB w W x)=>mayReplies_t x.last W h.rx.l4 h.rx.la);have hf:spMay x.sp=(decide (0≤x.now) && (decide (x.now≤1099511627776) && (alB x.rd && (alB x.wr && (itsB x.now (x.its.map (·.i)) && (wtsB (x.wts.map (·.x)) && lasB 0 (x.last.map (·.r)))))))):=rfl;rw[hf];clear hf hx;obtain⟨b1,hb1⟩:∃ n,alB x.rd=n:=⟨_,rfl⟩;rw[hb1] at AR ⊢;clear hb1;obtain⟨b2,hb2⟩:∃ n,alB x.wr=n:=⟨_,rfl⟩;rw[hb2] at AW ⊢;clear hb2;obtain⟨b3,hb3⟩:∃ n,itsB x.now (x.its.map (·.i))=n:=⟨_,rfl⟩;rw[hb3] at MI_ ⊢;clear hb3;obtain⟨b4,hb4⟩:∃ n,wtsB (x.wts.map (·.x))=n:=⟨_,rfl⟩;rw[hb4] at MW_ ⊢;clear hb4;obtain⟨b5,hb5⟩:∃ n,lasB 0 (x.last.map (·.r))=n:=⟨_,rfl⟩;rw[hb5] at MR_ ⊢;clear hb5
 by_cases h1:0≤x.now
 ·rw[decide_eq_true h1,Bool.true_and]
  by_cases h2:x.now≤1099511627776
  ·rw[decide_eq_true h2,Bool.true_and]
   cases b1 with
   |false=>
    go_enter Tryz.func96,Tryz.ntmps96
    obtain⟨c0,c1,c2,c3,c4⟩:=sv_cells S0.out.a;go_wp2_with fail
    refine AR.out.mono ?_
    rintro e w1 ⟨rfl,rfl⟩
    go_wp2_with fail
    go_ret;exact⟨rfl,S0.out.bel⟩
   |true=>
   cases b2 with
   |false=>
    go_enter Tryz.func96,Tryz.ntmps96
    obtain⟨c0,c1,c2,c3,c4⟩:=sv_cells S0.out.a;go_wp2_with fail
    refine AR.out.mono ?_
    rintro e w1 ⟨rfl,rfl⟩
    go_wp2_with fail
    refine AW.out.mono ?_
    rintro e w1 ⟨rfl,rfl⟩
    go_wp2_with fail
    go_ret;exact⟨rfl,S0.out.bel⟩
   |true=>
   cases b3 with
   |false=>
    go_enter Tryz.func96,Tryz.ntmps96
    obtain⟨c0,c1,c2,c3,c4⟩:=sv_cells S0.out.a;go_wp2_with fail
    refine AR.out.mono ?_
    rintro e w1 ⟨rfl,rfl⟩
    go_wp2_with fail
    refine AW.out.mono ?_
    rintro e w1 ⟨rfl,rfl⟩
    go_wp2_with fail
    refine(MI_.out _ S0.out).mono ?_
    rintro e w1 ⟨rfl,b1⟩
    have S1:=hid (S0.out.below b1);clear b1 c0 c1 c2 c3 c4;obtain⟨c0,c1,c2,c3,c4⟩:=sv_cells S1.out.a;go_wp2_with fail
    go_ret;exact⟨rfl,S1.out.bel⟩
   |true=>
   cases b4 with
   |false=>
    go_enter Tryz.func96,Tryz.ntmps96
    obtain⟨c0,c1,c2,c3,c4⟩:=sv_cells S0.out.a;go_wp2_with fail
    refine AR.out.mono ?_
    rintro e w1 ⟨rfl,rfl⟩
    go_wp2_with fail
    refine AW.out.mono ?_
    rintro e w1 ⟨rfl,rfl⟩
    go_wp2_with fail
    refine(MI_.out _ S0.out).mono ?_
    rintro e w1 ⟨rfl,b1⟩
    have S1:=hid (S0.out.below b1);clear b1 c0 c1 c2 c3 c4;obtain⟨c0,c1,c2,c3,c4⟩:=sv_cells S1.out.a;go_wp2_with fail
    refine(MW_.out _ S1.out).mono ?_
    rintro e w2 ⟨rfl,b2⟩
    have S2:=hid (S1.out.below b2);clear b2;go_wp2_with fail
    go_ret;exact⟨rfl,S2.out.bel⟩
   |true=>
    go_enter Tryz.func96,Tryz.ntmps96
    obtain⟨c0,c1,c2,c3,c4⟩:=sv_cells S0.out.a;go_wp2_with fail
    refine AR.out.mono ?_
    rintro e w1 ⟨rfl,rfl⟩
    go_wp2_with fail
    refine AW.out.mono ?_
    rintro e w1 ⟨rfl,rfl⟩
    go_wp2_with fail
    refine(MI_.out _ S0.out).mono ?_
    rintro e w1 ⟨rfl,b1⟩
    have S1:=hid (S0.out.below b1);clear b1 c0 c1 c2 c3 c4;obtain⟨c0,c1,c2,c3,c4⟩:=sv_cells S1.out.a;go_wp2_with fail
    refine(MW_.out _ S1.out).mono ?_
    rintro e w2 ⟨rfl,b2⟩
    have S2:=hid (S1.out.below b2);have S2A:=hid (show Blk w2 w.heap.size 46 (svA x++(x.last.flatMap pv++[])) from by rw[←sv_split];exact S2.out.a);clear b2 c0 c1 c2 c3 c4
    go_wp2_with ((with_reducible refine load_part_gdO 35 44 (.tmp 34) w.heap.size 5 46 (svA x) (x.last.flatMap pv) [] _ ?_ ?_ rfl ?_ ?_ Tryz.underlying44 ?_ ?_ ?_ ?_);exact rfl;kernel_rfl;exact S2A.out;exact rfl;exact rfl;exact PS.out;exact rfl)
    refine(MR_.out _ S2.out).mono ?_
    rintro e w3 ⟨rfl,b3⟩
    have S3:=hid (S2.out.below b3);clear b3;go_wp2_with fail
    go_ret;exact⟨rfl,S3.out.bel⟩
  ·rw[decide_eq_false h2,Bool.false_and];have h3:1099511627776<x.now:=by omega
   go_enter Tryz.func96,Tryz.ntmps96
   obtain⟨c0,c1,c2,c3,c4⟩:=sv_cells S0.out.a;go_wp2_with fail
   go_ret;exact⟨rfl,S0.out.bel⟩
 ·rw[decide_eq_false h1,Bool.false_and];have h3:x.now<0:=by omega
  go_enter Tryz.func96,Tryz.ntmps96
  obtain⟨c0,c1,c2,c3,c4⟩:=sv_cells S0.out.a;go_wp2_with fail
  go_ret;exact⟨rfl,S0.out.bel⟩
structure SF (B:Nat) (W:World) (x:Spv):Prop where
 its:W.ownsRow B 106 3 (.slice x.ip x.its.length x.ic) x.its.length (x.its.flatMap iv)
 it:∀ y∈x.its,FT W B y.p y.c y.i.t
 wts:W.ownsRow B 109 4 (.slice x.wp x.wts.length x.wc) x.wts.length (x.wts.flatMap wv)
 wt:∀ y∈x.wts,FT W B y.p y.c y.x.p
 l4:x.last.length=4
 la:∀ y∈x.last,FT W B y.p y.c y.r.t
structure CL (w0 W:World) (z:Spv) (x:Spv) (j k m:Nat):Prop where
 box:Blk W w0.heap.size 46 (sv x)
 out:Blk W (w0.heap.size+1) 46 [.int .i64 0,.slice none 0 0,.slice none 0 0,.int .i64 0,.int .i64 0,.int .i64 0,.int .i64 0,.int .i64 0,.slice none 0 0,.bool false,.int .i64 0,.int .i64 0,.int .i64 0,.slice none 0 0,.bool false,.int .i64 0,.int .i64 0,.int .i64 0,.slice none 0 0,.bool false,.int .i64 0,.int .i64 0,.int .i64 0,.slice none 0 0,.bool false]
 its:W.ownsRow w0.heap.size 106 3 (.slice x.ip x.its.length x.ic) x.its.length (x.its.flatMap iv)
 it:∀ i y,i<j→x.its[i]? =some y→FT W w0.heap.size y.p y.c y.i.t
 itz:∀ i,j≤i→x.its[i]? =z.its[i]?
 wts:0<k→W.ownsRow w0.heap.size 109 4 (.slice x.wp x.wts.length x.wc) x.wts.length (x.wts.flatMap wv)
 wt:∀ i y,i+1<k→x.wts[i]? =some y→FT W w0.heap.size y.p y.c y.x.p
 wtz:∀ i,k≤i+1→x.wts[i]? =z.wts[i]?
 l4:x.last.length=4
 la:∀ i y,i<m→x.last[i]? =some y→FT W w0.heap.size y.p y.c y.r.t
 laz:∀ i,m≤i→x.last[i]? =z.last[i]?
 sp:x.sp=z.sp
 wpz:k=0→x.wp=z.wp∧x.wc=z.wc∧x.wts=z.wts
 bel:Below w0.heap.size w0 W
theorem own_kind {w:World} {B:Nat} {e:TypeId} {size:Nat} {v:Value} {n:Nat} {xs:List Value} (h:w.ownsRow B e size v n xs) {g:Nat} (hg:v.ownBlock=some g):∃ cs,Blk w g e cs:=by
 rcases h.2 with⟨rfl,_⟩ |⟨g',cap,cur,rfl,_,hh,_⟩
 ·cases hg
 ·obtain rfl:g'=g:=by simpa [Value.ownBlock] using hg
  exact⟨cur.toList,by simpa [Blk] using hh⟩
theorem own_two {w:World} {B B':Nat} {e e':TypeId} {size size':Nat} {v v':Value} {n n':Nat} {xs xs':List Value} (h:w.ownsRow B e size v n xs) (h':w.ownsRow B' e' size' v' n' xs') (hne:e≠e') {g:Nat} (hg:v.ownBlock=some g):v'.ownBlock≠some g:=λhg'=>by
 obtain⟨cs,hb⟩:=own_kind h hg;exact own_apart h' hb (Ne.symm hne) hg'
def svL (x:Spv) (j:Nat):List Value:=svA x++(x.last.take j).flatMap pv
def svR (x:Spv) (j:Nat):List Value:=(x.last.drop (j+1)).flatMap pv
theorem svL_len (x:Spv) (j:Nat) (h:j≤x.last.length):(svL x j).length=5+j * 5:=by
 unfold svL;rw[List.length_append,flat_length pv_len,List.length_take,Nat.min_eq_left h];rfl
theorem sv_at (x:Spv) (j:Nat) (y:Rpv) (hy:x.last[j]? =some y):sv x=svL x j++(pv y++svR x j):=by
 obtain⟨hj,rfl⟩:=List.getElem?_eq_some_iff.1 hy;have e:x.last=x.last.take j++(x.last[j]::x.last.drop (j+1)):=by rw[←List.drop_eq_getElem_cons hj,List.take_append_drop]
 show svA x++x.last.flatMap pv=_
 conv=>lhs;rw[e]
 unfold svL svR;rw[List.flatMap_append,List.flatMap_cons,List.append_assoc]
theorem sv_put (x:Spv) (j:Nat) (y y':Rpv) (hy:x.last[j]? =some y):sv { x with last:=x.last.set j y' } =svL x j++(pv y'++svR x j):=by
 obtain⟨hj,rfl⟩:=List.getElem?_eq_some_iff.1 hy
 show svA x++(x.last.set j y').flatMap pv=_
 rw[List.set_eq_take_append_cons_drop,if_pos hj];unfold svL svR;rw[List.flatMap_append,List.flatMap_cons,List.append_assoc]
theorem sv_one (x:Spv):(sv x).toArray.all (·.oneCell')=true:=by
 rw[Array.all_eq_true'];intro v hv;have hv:v∈sv x:=by simpa using hv
 unfold sv at hv;rcases List.mem_append.1 hv with h |h
 ·simp only[List.mem_cons,List.not_mem_nil,or_false] at h;rcases h with rfl |rfl |rfl |rfl |rfl<;>rfl
 ·exact flat_one pv_one x.last v h
theorem slice_lowS {P:Program} {t e:TypeId} {sz:Nat} (hu:P.underlying t=some (.slice e)) (hs:(P.info? e).map (·.size)=some sz) (p:Option Addr) (n c:Nat) (k:IntKind) (l:Nat) (h1:l≤n) (_hc:n≤c):
  ∃ p2,(l<n→∀ g off,p=some ⟨g,off,none⟩→p2=some ⟨g,off+l * sz,none⟩)∧∀ W,(Instr.slice t (.slice p n c) (some (.int k (l:Int))) none none).run P W= .ok (.slice p2 (n-l) (c-l)) W:=by
 have hz:∀ W,(sizeOf e).run P W= .ok sz W:=by
  cases hq:P.info? e with
  |none=>simp[hq] at hs
  |some i=>simp[hq] at hs;intro W;simp[sizeOf,typeInfo,hq,hs]
 have e1:∀ W,(Instr.sliceBound (.int k (l:Int)) n .sliceB).run P W= .ok l W:=λW=>by
  simp[Instr.sliceBound,asIntOf,h1]
 refine⟨if c=l then p else p.map (·.add (l * sz)),λh g off hp=>?_,λW=>?_⟩
 ·rw[if_neg (by omega),hp];simp[Addr.add_mid]
 ·simp[Instr.slice,run_underlying hu,Instr.sliceBounds,e1,hz,Result.andThen]
theorem slice_highS {P:Program} {t e:TypeId} {sz:Nat} (hu:P.underlying t=some (.slice e)) (hs:(P.info? e).map (·.size)=some sz) (p:Option Addr) (n c:Nat) (k:IntKind) (m:Nat) (hc:m≤c):
  ∀ W,(Instr.slice t (.slice p n c) none (some (.int k (m:Int))) none).run P W= .ok (.slice p m c) W:=by
 have hz:∀ W,(sizeOf e).run P W= .ok sz W:=by
  cases hq:P.info? e with
  |none=>simp[hq] at hs
  |some i=>simp[hq] at hs;intro W;simp[sizeOf,typeInfo,hq,hs]
 intro W;have e1:∀ W,(Instr.sliceBound (.int k (m:Int)) c .sliceAcap).run P W= .ok m W:=λW=>by
  simp[Instr.sliceBound,asIntOf,hc]
 simp[Instr.slice,run_underlying hu,Instr.sliceBounds,e1,hz,Result.andThen];intro _
 cases p<;>simp[Addr.add]
section
variable {P : Program} {ops : Array Oper} {rest : List Oper} {o : Oper} {a : Act} {w : World} {Q : Exit → Act → World → Prop}
end
structure DF (W0 W:World) (g:Nat) (sp:List Value) (l R:List Itv) (P:Itv→Bool) (i j:Nat):Prop where
 blk:Blk W g 106 (R.flatMap iv++sp)
 len:R.length=l.length
 front:R.take i=(l.take j).filter (λx=> !P x)
 back:R.drop j=l.drop j
 ij:i<j
 jl:j≤l.length
 kept:Kept (λk=>k=g) W0 W
def OB (q:Option Addr) (k:Nat):Prop:=∃ a:Addr,q=some a∧a.block=k
end
end
section
variable {P : Program} {ops : Array Oper} {o : Oper} {a : Act} {w : World} {Q : Exit → Act → World → Prop} {sz : Nat}
end
end
def FF (x:Spv) (g k:Nat):Prop:=k=g∨OB x.ip k∨OB x.wp k
structure SM (wB W:World) (g:Nat) (x:Spv):Prop where
 box:Blk W g 46 (sv x)
 ge:wB.heap.size≤g
 bel:Below wB.heap.size wB W
 sf:SF wB.heap.size W x
theorem OB.own {q:Option Addr} {k n c:Nat} (h:OB q k):Value.ownBlock (.slice q n c)=some k:=by
 obtain⟨a,rfl,rfl⟩:=h;rfl
theorem map_erase {α β:Type} (g:α→β) (l:List α) (k:Nat):(l.eraseIdx k).map g=(l.map g).eraseIdx k:=by
 rw[List.eraseIdx_eq_take_drop_succ,List.eraseIdx_eq_take_drop_succ,List.map_append,List.map_take,List.map_drop]
theorem map_set_to {α β:Type} (g:α→β) (l:List α) (j:Nat) (y:α):(l.set j y).map g=(l.map g).set j (g y):=List.map_set
end
theorem wake_snoc (t:List Fld) (x:Wt):∀ l:List Wt,wakeP t (l++[x])=(if ((wakeP t l).2.2 || !mT x.p t)=true then((wakeP t l).1 ++[x],(wakeP t l).2.1,(wakeP t l).2.2) else((wakeP t l).1,(wakeP t l).2.1 ++[lateP t x],x.tk))
 |[]=>by
  cases hm:mT x.p t<;>cases hk:x.tk<;>simp[wakeP,hm,hk]
 |y::l=>by
  have ih:=wake_snoc t x l
  cases hm:mT y.p t with
  |true=>
   cases hk:y.tk with
   |true=>simp[wakeP,hm,hk]
   |false=>
    simp only[List.cons_append,wakeP,hm,hk,if_true];rw[ih]
    by_cases hc:((wakeP t l).2.2 || !mT x.p t)=true
    ·simp[hc]
    ·simp[hc]
  |false=>
   simp only[List.cons_append,wakeP,hm];rw[ih]
   by_cases hc:((wakeP t l).2.2 || !mT x.p t)=true
   ·simp[hc]
   ·simp[hc]
theorem own_grown_blk {w w':World} {base:Nat} {e t:TypeId} {size n g:Nat} {v:Value} {xs cs:List Value} (h:w.ownsRow base e size v n xs) (hg:w.grownBy w' v.ownBlock) (hb:Blk w g t cs) (hne:e≠t):Blk w' g t cs:=
 (hg.block g hb.lt (λe'=>own_apart h hb hne e'.symm)).trans hb
theorem own_grown {w w':World} {B B':Nat} {e e':TypeId} {sz sz' n n':Nat} {v v':Value} {xs xs':List Value} (h:w.ownsRow B e sz v n xs) (ho:w.ownsRow B' e' sz' v' n' xs') (hg:w.grownBy w' v'.ownBlock) (hne:e'≠e):w'.ownsRow B e sz v n xs:=
 own_kept (F:=λk=>v'.ownBlock=some k) h ((Kept.refl (λk=>v'.ownBlock=some k) w).grown hg (λ_ hk=> .inl hk)) (λ_ hk e'=>own_two ho h hne e' hk)
theorem wake_take {t:List Fld} {x:Spv} {j:Nat} {y:Wtv} (hy:x.wts[j]? =some y):wakeP t ((x.wts.take (j+1)).map (·.x))=(if ((wakeP t ((x.wts.take j).map (·.x))).2.2 || !mT y.x.p t)=true then((wakeP t ((x.wts.take j).map (·.x))).1 ++[y.x],(wakeP t ((x.wts.take j).map (·.x))).2.1,(wakeP t ((x.wts.take j).map (·.x))).2.2) else((wakeP t ((x.wts.take j).map (·.x))).1,(wakeP t ((x.wts.take j).map (·.x))).2.1 ++[lateP t y.x],y.x.tk)):=by
 rw[take_snoc hy,List.map_append];exact wake_snoc t y.x _
theorem wake_tk {t:List Fld} {x:Spv} {j:Nat} {y:Wtv} (hy:x.wts[j]? =some y):(wakeP t ((x.wts.take (j+1)).map (·.x))).2.2 =(if ((wakeP t ((x.wts.take j).map (·.x))).2.2 || !mT y.x.p t)=true then(wakeP t ((x.wts.take j).map (·.x))).2.2 else y.x.tk):=by
 rw[wake_take hy]
 split<;>rfl
theorem row_one {α:Type} (f:α→List Value) (sz:Nat) (x:α) (w:World) (e:TypeId):RowL (w.alloc (.cells (f x).toArray e)) (some ⟨w.heap.size,0,none⟩) sz f [x]:=λj y hy=>by
 cases j with
 |zero=>
  obtain rfl:x=y:=by simpa using hy
  exact⟨w.heap.size,0,rfl,by simp,by simpa using rows_of_blk (Blk.new w e (f x))⟩
 |succ j=>simp at hy
section
variable {P : Program} {ops : Array Oper} {rest : List Oper} {o : Oper} {a : Act} {w : World} {Q : Exit → Act → World → Prop}
theorem wp_build1 {K:Act→World→Prop} (t e:TypeId) (x:Operand) (ho:o.op= .buildSlice t 1 #[(0,x)]) (cs:List Value) (hx:a.eval x= .agg cs.toArray)
  (hb:(Instr.buildSlice t 1 #[(0,.agg cs.toArray)]).run P w= .ok (.slice (some ⟨w.heap.size,0,none⟩) 1 1) (w.alloc (.cells cs.toArray e)))
  (h:K (a.put o.dst (.slice (some ⟨w.heap.size,0,none⟩) 1 1)) (w.alloc (.cells cs.toArray e))):o.wp P a w K Q:=by
 have e:((#[(0,x)]:Array (Nat×Operand)).map λ(i,x)=>(i,a.eval x))= #[(0,.agg cs.toArray)]:=by simp[hx]
 unfold Oper.wp execOp;simp only[ho,e,Sem.run_bind,hb,Result.andThen_ok];exact h
theorem build1 (t e:TypeId) (x:Operand) (hgd:o.guard=none) (ho:o.op= .buildSlice t 1 #[(0,x)]) (cs:List Value) (hx:a.eval x= .agg cs.toArray)
  (hb:(Instr.buildSlice t 1 #[(0,.agg cs.toArray)]).run P w= .ok (.slice (some ⟨w.heap.size,0,none⟩) 1 1) (w.alloc (.cells cs.toArray e)))
  (h:wpList P ops Q rest (a.put o.dst (.slice (some ⟨w.heap.size,0,none⟩) 1 1)) (w.alloc (.cells cs.toArray e))):wpList P ops Q (o::rest) a w:=
 wpList_plain hgd λ_ hK=>wp_build1 t e x ho cs hx hb (hK _ _ h)
end
theorem build_wv (y:Wtv) (W:World):(Instr.buildSlice 40 1 #[(0,.agg (wv y).toArray)]).run Tryz.prog W= .ok (.slice (some ⟨W.heap.size,0,none⟩) 1 1) (W.alloc (.cells (wv y).toArray 109)):=by
 kernel_rfl
theorem build_iv (y:Itv) (W:World):(Instr.buildSlice 39 1 #[(0,.agg (iv y).toArray)]).run Tryz.prog W= .ok (.slice (some ⟨W.heap.size,0,none⟩) 1 1) (W.alloc (.cells (iv y).toArray 106)):=by
 kernel_rfl
theorem build_pv (y:Rpv) (W:World):(Instr.buildSlice 57 1 #[(0,.agg (pv y).toArray)]).run Tryz.prog W= .ok (.slice (some ⟨W.heap.size,0,none⟩) 1 1) (W.alloc (.cells (pv y).toArray 43)):=by
 kernel_rfl
end
structure SR (B:Nat) (W:World) (gs g:Nat) (s:Src):Prop where
 bx:Blk W gs 183 [.pointer (some ⟨g,0,none⟩),.bool s.wr]
 rd:RdF (λk=>k<B) W g s.xs s.bad
 ne:gs≠g
 by_:Bytes s.xs
 lb:B≤gs
theorem SR.below {W W':World} {B gs g:Nat} {s:Src} (h:SR B W gs g s) (hb:Below W.heap.size W W'):SR B W' gs g s:=⟨h.bx.below hb h.bx.lt,h.rd.below hb,h.ne,h.by_,h.lb⟩
theorem gNum_len (s:Src) (n:Nat):(gNum s n).2.xs.length≤s.xs.length:=by
 unfold gNum rNum
 dsimp only
 split
 ·simp
 ·simp
theorem SR.set {W:World} {B gs g:Nat} {s:Src} (h:SR B W gs g s) (b:Bool):SR B (W.setCell ⟨gs,1,none⟩ (.bool b)) gs g { s with wr:=b } ∧Kept (λk=>k=gs) W (W.setCell ⟨gs,1,none⟩ (.bool b)):=by
 have k:Kept (λk=>k=gs) W (W.setCell ⟨gs,1,none⟩ (.bool b)):=(Kept.refl (λk=>k=gs) W).setCell (p:=⟨gs,1,none⟩) (.inl rfl) _;exact⟨⟨h.bx.store 1 (.bool b),h.rd.stays k h.ne.symm (λi hi e=>by have:=h.lb;omega),h.ne,h.by_,h.lb⟩,k⟩
theorem snum_t (B gs g n:Nat) (s:Src) (W:World) (x:SR B W gs g s) (h1:1≤n) (h2:n≤8):
  Calls Tryz.prog 154 #[.pointer (some ⟨gs,0,none⟩),.int .i64 n] W λe W'=>e= .returned (.int .i64 (i64N (gNum s n).1))∧SR B W' gs g (gNum s n).2 ∧Kept (λk=>k=g) W W':=by
 have RT:=hid (rnum_F _ g s.xs s.bad n W x.rd x.by_ h1 h2);have X:=hid x;have c0:W.cell? ⟨gs,0,none⟩=some (.pointer (some ⟨g,0,none⟩)):=x.bx.cell 0;obtain⟨v,hv⟩:∃ v,(rNum s.xs s.bad n).1 =v:=⟨_,rfl⟩;have E:=hid (show i64N (gNum s n).1 =IntKind.i64.wrap (v:Int) from by unfold i64N gNum;rw[hv]);rw[hv] at RT;rw[E.out];obtain⟨z,hz⟩:∃ z,IntKind.i64.wrap (v:Int)=z:=⟨_,rfl⟩;rw[hz];clear x hv E
 go_enter Tryz.func154,Tryz.ntmps154
 go_wp2_with fail
 refine RT.out.mono ?_
 rintro e W2 ⟨rfl,r2,k2⟩
 have S2:=hid (show SR B W2 gs g (gNum s n).2 from⟨X.out.bx.kept k2 X.out.ne,r2,X.out.ne,gNum_bytes n X.out.by_,X.out.lb⟩);have K2:=hid k2;clear r2 k2 c0 X RT;go_wp2_with fail
 go_ret;exact⟨rfl,S2.out,K2.out⟩
theorem sflag_t (B gs g:Nat) (s:Src) (W:World) (x:SR B W gs g s):
  Calls Tryz.prog 160 #[.pointer (some ⟨gs,0,none⟩)] W λe W'=>e= .returned (.bool (gFlag s).1)∧SR B W' gs g (gFlag s).2 ∧Kept (λk=>k=g∨k=gs) W W':=by
 have RT:=hid (rnum_F _ g s.xs s.bad 1 W x.rd x.by_ (by decide) (by decide));have X:=hid x;have c0:W.cell? ⟨gs,0,none⟩=some (.pointer (some ⟨g,0,none⟩)):=x.bx.cell 0;have HV:=hid (rNum_bytes s.xs s.bad 1 x.by_).2.2;obtain⟨⟨v,u⟩,hv⟩:∃ r,gNum s 1=r:=⟨_,rfl⟩;have hv1:(rNum s.xs s.bad 1).1 =v:=congrArg Prod.fst hv;have E1:=hid (show(gFlag s).1 =(v == 1) from by unfold gFlag;rw[hv]);have E2:=hid (show(gFlag s).2 = { u with wr:=s.wr || decide (1<v) } from by unfold gFlag;rw[hv]);have HU:=hid (congrArg Prod.snd hv);rw[hv1] at RT HV;obtain⟨sw,hsw⟩:∃ b,s.wr=b:=⟨_,rfl⟩;rw[E1.out,E2.out,hsw];have HSW:=hid hsw;clear x hv hv1 E1 E2 hsw
 go_enter Tryz.func160,Tryz.ntmps160
 go_wp2_with fail
 refine RT.out.mono ?_
 rintro e W2 ⟨rfl,r2,k2⟩
 have S2:=hid (show SR B W2 gs g u from by
  have h:SR B W2 gs g (gNum s 1).2 :=⟨X.out.bx.kept k2 X.out.ne,r2,X.out.ne,gNum_bytes 1 X.out.by_,X.out.lb⟩
  rwa [HU.out] at h)
 have HW:=hid (show u.wr=sw from by have:=HU.out;exact(congrArg Src.wr this).symm.trans HSW.out);have K2:=hid k2;clear r2 k2 c0 RT;have c1:W2.cell? ⟨gs,1,none⟩=some (.bool u.wr):=S2.out.bx.cell 1;have fz:=S2.out.bx.frozen 1;rw[HW.out] at c1;have hb1:((v:Int) == 1)=(v == 1):=by
  by_cases h:v=1
  ·subst h;rfl
  ·rw[beq_eq_false_iff_ne.2 h,beq_eq_false_iff_ne];omega
 have S3:=hid (S2.out.set (sw || decide (1<v)));have hb9:v<256:=HV.out;clear HW X HSW
 cases sw with
 |true=>
  go_wp2_with fail
  go_ret;exact⟨rfl,S3.out.1,(K2.out.mono λk e=> .inl e).trans (S3.out.2.mono λk e=> .inr e)⟩
 |false=>
  by_cases h1:1<v
  ·have e1:decide ((1:Int)< (v:Int))=true:=decide_eq_true (by omega);have e2:decide (1<v)=true:=decide_eq_true h1;rw[e2] at S3;go_wp2_with fail
   go_ret;exact⟨rfl,by rw[e2];exact S3.out.1,(K2.out.mono λk e=> .inl e).trans (S3.out.2.mono λk e=> .inr e)⟩
  ·have e1:decide ((1:Int)< (v:Int))=false:=decide_eq_false (by omega);have e2:decide (1<v)=false:=decide_eq_false h1;rw[e2] at S3;go_wp2_with fail
   go_ret;exact⟨rfl,by rw[e2];exact S3.out.1,(K2.out.mono λk e=> .inl e).trans (S3.out.2.mono λk e=> .inr e)⟩
theorem send_t (B gs g:Nat) (s:Src) (W:World) (x:SR B W gs g s):
  Calls Tryz.prog 161 #[.pointer (some ⟨gs,0,none⟩)] W λe W'=>e= .returned (.int .i64 (endS s:Nat))∧W=W':=by
 have ET:=hid (end_t g s.xs s.bad W x.rd.rd);have c0:W.cell? ⟨gs,0,none⟩=some (.pointer (some ⟨g,0,none⟩)):=x.bx.cell 0;have c1:W.cell? ⟨gs,1,none⟩=some (.bool s.wr):=x.bx.cell 1;have E:=hid (show endS s=if s.wr then 2 else endN s.xs s.bad from rfl);obtain⟨en,hen⟩:∃ n,endN s.xs s.bad=n:=⟨_,rfl⟩;obtain⟨b,hb⟩:∃ n,s.wr=n:=⟨_,rfl⟩;rw[hen] at ET E;rw[hb] at c1 E;rw[E.out];clear x hen hb E
 cases b with
 |true=>
  go_enter Tryz.func161,Tryz.ntmps161
  go_wp2_with fail
  go_ret;exact⟨rfl,rfl⟩
 |false=>
  go_enter Tryz.func161,Tryz.ntmps161
  go_wp2_with fail
  refine ET.out.mono ?_
  rintro e W2 ⟨rfl,rfl⟩
  go_wp2_with fail
  go_ret;exact⟨rfl,rfl⟩
end Go.Proofs.YtlipjglehongeaaGreatDoor
