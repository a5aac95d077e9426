/-
  PACKAGE state, what is pure
  LAYER 9's LAWS
  THE REFERENCE
-/
import Derived.Test.YtlipjglehongeaaGreatDoorGb7
import Derived.Test.YtlipjglehongeaaGreatDoorGb17
import Derived.Test.YtlipjglehongeaaGreatDoorGb28
import Derived.Test.YtlipjglehongeaaGreatDoorGb14
import Derived.Test.YtlipjglehongeaaGreatDoorGb39
import Derived.Test.YtlipjglehongeaaGreatDoorGb11
import Derived.BigQuiet
namespace Go.Proofs.YtlipjglehongeaaGreatDoor
open Go Go.RowKit Sh
section
theorem inL_nil:InL []:=λf hf=>by cases hf
theorem in_new (rd wx:Int):InS (newS rd wx):=by
 refine⟨λi hi=>?_,λi hi=>?_,λr hr=>?_⟩
 ·cases hi
 ·cases hi
 ·simp only[newS,List.mem_cons,List.not_mem_nil,or_false] at hr;rcases hr with rfl |rfl |rfl |rfl<;>exact inL_nil
theorem in_goOn {s:Sp} (h:InS s) (now:Int):InS (goOnP s now):=⟨λi hi=>h.it i (List.mem_filter.1 hi).1,h.wt,h.la⟩
theorem in_note {s:Sp} (h:InS s) {r:Rp} (hr:InL r.t):InS (noteP s r):=⟨h.it,h.wt,λx hx=>by
 rcases List.mem_or_eq_of_mem_set hx with hx |rfl
 ·exact h.la x hx
 ·exact hr⟩
theorem in_getD {s:Sp} (h:InS s) (k:Nat):InL (s.its.getD k i0).t:=by
 rw[List.getD_eq_getElem?_getD]
 cases hq:s.its[k]? with
 |none=>exact inL_nil
 |some i=>exact h.it i (List.mem_of_getElem? hq)
theorem in_erase {s:Sp} (h:InS s) (k:Nat):InS { s with its:=s.its.eraseIdx k } :=⟨λi hi=>h.it i (List.mem_of_mem_eraseIdx hi),h.wt,h.la⟩
theorem in_bring (s:Sp) (r:Qp):InL (bringP s r).1.t:=by
 unfold bringP
 split
 ·exact inL_nil
 ·exact inL_nil
theorem in_repl {s:Sp} {r:Qp} (h:InS s) (o:Option Nat):InS (replP s r o).1 ∧InL (replP s r o).2.1.t:=by
 cases o with
 |none=>exact⟨h,inL_nil⟩
 |some k=>
  unfold replP
  dsimp only
  split
  ·exact⟨h,inL_nil⟩
  ·exact⟨in_erase h k,in_getD h k⟩
theorem in_look {s:Sp} {r:Qp} (h:InS s) (hp:InL r.p) (o:Option Nat):InS (lookP s r o).1 ∧InL (lookP s r o).2.t:=by
 cases o with
 |some k=>
  unfold lookP
  dsimp only
  split
  ·exact⟨in_erase h k,in_getD h k⟩
  ·exact⟨h,in_getD h k⟩
 |none=>
  unfold lookP
  dsimp only
  split
  ·exact⟨h,inL_nil⟩
  ·split
   ·exact⟨h,inL_nil⟩
   ·refine⟨⟨h.it,λx hx=>?_,h.la⟩,inL_nil⟩;rcases List.mem_append.1 hx with hx |hx
    ·exact h.wt x hx
    ·rw[List.mem_singleton.1 hx];exact hp
theorem in_act {s:Sp} {r:Qp} (h:InS s) (hp:InL r.p):InS (actP s r).1 ∧InL (actP s r).2.1.t:=by
 unfold actP
 split
 ·exact⟨h,inL_nil⟩
 ·split
  ·exact⟨h,in_bring s r⟩
  ·split
   ·split
    ·exact⟨h,inL_nil⟩
    ·exact⟨h,in_bring s r⟩
   ·split
    ·exact in_repl h _
    ·split
     ·exact⟨h,inL_nil⟩
     ·exact in_look h hp _
theorem in_wake {t:List Fld} (ht:InL t):∀ {l:List Wt},(∀ x∈l,InL x.p)→(∀ x∈(wakeP t l).1,InL x.p)∧∀ r∈(wakeP t l).2.1,InL r.t
 |[],h=>⟨h,λr hr=>by cases hr⟩
 |x::l,h=>by
  have i:=in_wake ht (l:=l) (λz hz=>h z (List.mem_cons_of_mem _ hz));unfold wakeP
  split
  ·split
   ·refine⟨λz hz=>h z (List.mem_cons_of_mem _ hz),λr hr=>?_⟩;rw[List.mem_singleton.1 hr];exact ht
   ·refine⟨i.1,λr hr=>?_⟩;rcases List.mem_cons.1 hr with rfl |hr
    ·exact ht
    ·exact i.2 r hr
  ·refine⟨λz hz=>?_,i.2⟩;rcases List.mem_cons.1 hz with rfl |hz
   ·exact h _ List.mem_cons_self
   ·exact i.1 z hz
theorem in_lates:∀ {l:List Rp} {s:Sp},InS s→(∀ r∈l,InL r.t)→InS (l.foldl lateS s)
 |[],_,h,_=>h
 |r::l,s,h,hl=>by
  refine in_lates (l:=l) ?_ (λz hz=>hl z (List.mem_cons_of_mem _ hz));unfold lateS
  split
  ·exact in_note h (hl r List.mem_cons_self)
  ·exact h
theorem in_put {s:Sp} {r:Qp} (h:InS s) (ht:InL r.t):InS (putP s r).1 :=by
 have i:=in_wake ht h.wt;have j:InS ((wakeP r.t s.wts).2.1.foldl lateS { s with wts:=(wakeP r.t s.wts).1 }):=in_lates ⟨h.it,i.1,h.la⟩ i.2;unfold putP
 dsimp only
 split
 ·exact j
 ·refine⟨λx hx=>?_,j.wt,j.la⟩;rcases List.mem_append.1 hx with hx |hx
  ·exact j.it x hx
  ·rw[List.mem_singleton.1 hx];exact ht
theorem do_in {s:Sp} (h:InS s) (now:Int) (r:Rq) (hp:InL (fl r.n r.G)) (ht:InL (fl r.m r.H)):InS (doP s now r).1 :=by
 unfold doP
 split
 ·exact h
 ·dsimp only
  have g:=in_goOn h now
  split
  ·exact g
  ·split
   ·exact g
   ·have a:=in_act (r:=qp r) g hp;unfold answP
    dsimp only
    split
    ·exact in_put (in_note a.1 a.2) ht
    ·exact in_note a.1 a.2
section
variable {P : Program} {ops : Array Oper} {Q : Exit → Act → World → Prop} {md : Region.Mode} {S : World → Prop} {last : Nat → Bool}
theorem wpAnyE_load {i:Nat} {o:Oper} {fuel:Nat} {listed:Array Bool} {a:Act} {w:World} (hr:Region.ready md ops listed=[i]) (hi:ops[i]? =some o) (hwd:Region.wanted o (yielded ops a.tmps)=true)
  (ty:TypeId) (x:Operand) (g:Nat) (t:TypeId) (cs:List Value) (d:TypeDesc) (ho:o.op= .load ty x) (hg:Blk w g t cs) (hu:P.underlying ty=some d) (hd:d.isRow=true) (hz:(P.info? ty).map (·.size)=some cs.length) (hx:a.eval x= .pointer (some ⟨g,0,none⟩))
  (hS:last i=true∨S w) (h:wpAnyE P md ops Q S last fuel (listed.setIfInBounds i true) (a.put o.dst (.agg cs.toArray)) w):wpAnyE P md ops Q S last (fuel+1) listed a w:=
 wpAnyE_one hr hi hwd λ_ hK=>wload_part ty x g 0 t [] cs [] d ho (by simpa using hg) rfl hu hd hz hx (hK.out _ _ hS h)
theorem wpAnyE_store {i:Nat} {o:Oper} {fuel:Nat} {listed:Array Bool} {a:Act} {w:World} (hr:Region.ready md ops listed=[i]) (hi:ops[i]? =some o) (hwd:Region.wanted o (yielded ops a.tmps)=true)
  (ty:TypeId) (x y:Operand) (g:Nat) (t:TypeId) (cs cs':List Value) (ho:o.op= .store ty x y) (hg:Blk w g t cs) (hl:cs.length=cs'.length) (hz:(P.info? ty).map (·.size)=some cs'.length) (h1:cs'.toArray.all (·.oneCell')=true)
  (hx:a.eval x= .pointer (some ⟨g,0,none⟩)) (hy:a.eval y= .agg cs'.toArray)
  (h:∀ w',Blk w' g t cs'→Kept (λb=>b=g) w w'→(last i=true∨S w')∧wpAnyE P md ops Q S last fuel (listed.setIfInBounds i true) (a.put o.dst undef) w'):wpAnyE P md ops Q S last (fuel+1) listed a w:=
 wpAnyE_one hr hi hwd λ_ hK=>wstore_part ty x y g 0 t [] cs [] cs' ho (by simpa using hg) rfl hl hz h1 hx hy λw' a1 a2 _=>by
  obtain⟨h1,h2⟩:=h w' (by simpa using a1.out) (a2.out.keptOne rfl);exact hK.out _ _ h1 h2
end
structure Av where
 r:Rv
 d:Int
def al (x:Av):List Value:=rv x.r++[.int .i64 x.d]
structure AW (w:World) (A:Option Addr) (n:Nat) (F:Nat→Av):Prop where
 at_:∀ j,j<n→∃ b o,A=some ⟨b,o,none⟩∧b<w.heap.size∧w.rangeAt b (o+j * 7) (al (F j))
 r:∀ j,j<n→RvW w (F j).r
theorem AW.read {w:World} {A:Option Addr} {n:Nat} {F:Nat→Av} (h:AW w A n F) {j:Nat} (hj:j<n):∃ b o,A=some ⟨b,o,none⟩∧b<w.heap.size∧w.rangeAt b (o+j * 7) (rv (F j).r)∧w.cell? ⟨b,o+j * 7+6,none⟩=some (.int .i64 (F j).d):=by
 obtain⟨b,o,e,hl,r⟩:=h.at_ j hj;refine⟨b,o,e,hl,λi v hv=>r i v ?_,r 6 _ rfl⟩;unfold al;rw[List.getElem?_append_left (List.getElem?_eq_some_iff.1 hv).1];exact hv
theorem mod_s (m:Nat) (hm:0<m) (hm2:m≤1000) (n:Int):∃ k:Nat,k<m∧wrap64 ((IntKind.u64.wrap n).tmod (m:Int))=(k:Int):=by
 have h0:0≤IntKind.u64.wrap n:=by simp[IntKind.wrap,IntKind.bits,IntKind.signed];omega
 rw[Int.tmod_eq_emod_of_nonneg h0]
 generalize IntKind.u64.wrap n=x at *
 have h3:0≤x % (m:Int):=Int.emod_nonneg _ (by omega);have h4:x % (m:Int)< (m:Int):=Int.emod_lt_of_pos _ (by omega);refine⟨(x % (m:Int)).toNat,by omega,?_⟩
 generalize x % (m:Int)=y at *
 unfold wrap64;omega
theorem putS_pos (s:Sp):0< (putS s).length:=by
 unfold putS;rw[List.length_append,beN_length];omega
structure PB (w0 W:World) (g:Nat) (x:Spv):Prop where
 box:Blk W g 46 (sv x)
 sf:SF w0.heap.size W x
 mx:MayS x.sp
 inn:InS x.sp
 ge:w0.heap.size≤g
 bel:Below w0.heap.size w0 W
end
variable {E : Nat → Prop}
section
variable {P : Program} {ops : Array Oper} {Q : Exit → Act → World → Prop} {md : Region.Mode} {S : World → Prop} {last : Nat → Bool}
theorem wpAnyE_two {i j:Nat} {o p:Oper} {fuel:Nat} {listed:Array Bool} {a:Act} {w:World} (hr:Region.ready md ops listed=[i,j]) (hi:ops[i]? =some o) (hwd:Region.wanted o (yielded ops a.tmps)=true) (hj:ops[j]? =some p) (hwj:Region.wanted p (yielded ops a.tmps)=true)
  (h:∀ K:Act→World→Prop,Hid (∀ a' w',(last i=true∨S w')→wpAnyE P md ops Q S last fuel (listed.setIfInBounds i true) a' w'→K a' w')→o.wp P a w K Q)
  (g:∀ K:Act→World→Prop,Hid (∀ a' w',(last j=true∨S w')→wpAnyE P md ops Q S last fuel (listed.setIfInBounds j true) a' w'→K a' w')→p.wp P a w K Q):wpAnyE P md ops Q S last (fuel+1) listed a w:=by
 refine⟨λh0=>(by rw[hr] at h0;cases h0),λk hk=>?_⟩;rw[hr] at hk;have hk':k=i∨k=j:=by simpa using hk
 rcases hk' with rfl |rfl
 ·unfold wpOp;rw[hi];simp only[hwd,if_true];exact Or.inl (h _ (λa' w' h1 h2=>⟨h1,h2⟩))
 ·unfold wpOp;rw[hj];simp only[hwj,if_true];exact Or.inl (g _ (λa' w' h1 h2=>⟨h1,h2⟩))
end
theorem lateS_wts (s:Sp) (v:List Wt) (x:Rp):lateS { s with wts:=v } x= { lateS s x with wts:=v } :=by
 unfold lateS
 show(if (lastOf s x.cl).sq=x.sq then _ else _)=_
 split<;>rfl
theorem late_wts (v:List Wt):∀ (l:List Rp) (s:Sp),l.foldl lateS { s with wts:=v } = { l.foldl lateS s with wts:=v }
 |[],_=>rfl
 |x::l,s=>by rw[List.foldl_cons,List.foldl_cons,lateS_wts];exact late_wts v l (lateS s x)
theorem GW.blkOff {w0 W:World} {gg c b:Nat} {x:Spv} {q:Option Addr} {R:List Rpv} {T:TypeId} {cs:List Value} (h:GW E w0 W gg x q c R) (hb:Blk W b T cs) (h1:43≠T) (h2:b≠gg):¬ GFr gg q b:=λe=>by
 rcases e with e |e
 ·exact h2 e
 ·exact own_apart h.ro hb h1 e.own
theorem gB_sq {x:Spv} {k n c:Nat} {lz:Rpv} {q:Option Addr} (h:x.last[k]? =some lz):(gB x q n c)[5+k * 5+1]? =some (.int .i64 lz.r.sq):=by
 have hk:=(List.getElem?_eq_some_iff.1 h).1;have hl:=svL_len x k (by omega);rw[gB_at x k lz q n c h,List.getElem?_append_right (by omega),hl,Nat.add_sub_cancel_left];rfl
theorem GW.notq {w0 W:World} {gg c:Nat} {x:Spv} {q:Option Addr} {R:List Rpv} (h:GW E w0 W gg x q c R) {b:Nat} (hb:W.heap.size≤b):¬ GFr gg q b:=λe=>by
 rcases e with e |e
 ·have:=h.box.lt;omega
 ·have:=(h.ro.lt b e.own).2;omega
theorem off_q {W1:World} {gg:Nat} {q1 q p:Option Addr} {t:List Fld} (ht:TR W1 p t) (ho:OffT (GFr gg q1) p t) (hq:∀ k,OB q k→OB q1 k∨W1.heap.size≤k):OffT (GFr gg q) p t:=λhne k hk hf=>by
 rcases hf with e |e
 ·exact ho hne k hk (.inl e)
 ·rcases hq k e with e |e
  ·exact ho hne k hk (.inr e)
  ·have:=(rw_row.1 ht.t).lt hne hk;omega
theorem GW.other {w0 W1 W W':World} {gg c:Nat} {x:Spv} {q:Option Addr} {R:List Rpv} {F:Nat→Prop} (h:GW E w0 W gg x q c R) (hs:SpW W1 x) (hr:∀ y∈R,TR W1 y.p y.r.t) (hk:Kept F W W') (hF:∀ k,F k→W1.heap.size≤k) (hw:w0.heap.size≤W1.heap.size) (hg:¬ F gg) (hq:∀ k,OB q k→¬ F k):GW E w0 W' gg x q c R:=
 ⟨h.box.kept hk hg,h.sp.keptF hk (hs.offNew hF),h.off,own_kept h.ro hk (λk hk' e=>hq k (ob_own' hk') e),λy hy=>(h.rt y hy).keptF hk ((hr y hy).offNew hF),h.rof,h.ge,
  h.bel.trans ⟨hk.os,hk.tape,hk.output,hk.size,λb hb=>hk.block b (Nat.lt_of_lt_of_le hb h.bel.size) (λe=>by have:=hF b e;omega)⟩,h.oe,h.eo⟩
theorem Kept.moreF {F G:Nat→Prop} {a b w:World} (h:Kept F a b) (k:Kept G b w) (hG:∀ i,G i→F i∨a.heap.size≤i):Kept F a w:=
 ⟨k.os.trans h.os,k.tape.trans h.tape,k.output.trans h.output,Nat.le_trans h.size k.size,λi hi hf=>(k.block i (Nat.lt_of_lt_of_le hi h.size) (λg=>(hG i g).elim hf (λe=>by omega))).trans (h.block i hi hf)⟩
structure GP (E:Nat→Prop) (w0 W1 W:World) (gg:Nat) (q1:Option Addr) (x:Spv) (t:List Fld) (R0:List Rpv) (j:Nat) (L:List Wtv) (lv:Value) (las:List Rpv) (q:Option Addr) (c:Nat) (R:List Rpv):Prop where
 gw:GW E w0 W gg { x with last:=las } q c (R0++R)
 lo:W.ownsRow W1.heap.size 109 4 lv L.length (L.flatMap wv)
 s1:SpW W1 { x with last:=las }
 r1:∀ y∈R0++R,TR W1 y.p y.r.t
 lm:∀ y∈L,y∈x.wts
 ll:L.length≤j
 rl:R.length≤j
 le:L.map (·.x)=(wakeP t ((x.wts.take j).map (·.x))).1
 re:R.map (·.r)=(wakeP t ((x.wts.take j).map (·.x))).2.1
 ls:({ x with last:=las } :Spv).sp=(R.map (·.r)).foldl lateS x.sp
 kp:Kept (GFr gg q1) W1 W
 qq:∀ k,OB q k→OB q1 k∨W1.heap.size≤k
section
variable {w0 W1 W W' : World} {gg : Nat} {q1 : Option Addr} {x : Spv} {t : List Fld} {R0 : List Rpv} {j : Nat} {L : List Wtv} {lv lv' : Value} {las : List Rpv} {q : Option Addr} {c : Nat} {R : List Rpv}
theorem GP.below (h:GP E w0 W1 W gg q1 x t R0 j L lv las q c R) (hb:Below W.heap.size W W'):GP E w0 W1 W' gg q1 x t R0 j L lv las q c R:=
 ⟨h.gw.below hb,own_below h.lo hb,h.s1,h.r1,h.lm,h.ll,h.rl,h.le,h.re,h.ls,h.kp.trans (Kept.of_below hb),h.qq⟩
theorem GP.left {y:Wtv} (h:GP E w0 W1 W gg q1 x t R0 j L lv las q c R) (hw:w0.heap.size≤W1.heap.size) (hy:x.wts[j]? =some y) (hc:((wakeP t ((x.wts.take j).map (·.x))).2.2 || !mT y.x.p t)=true)
  (ho:W'.ownsRow W1.heap.size 109 4 lv' (L.length+1) (L.flatMap wv++[y].flatMap wv)) (hg:W.grownBy W' lv.ownBlock):GP E w0 W1 W' gg q1 x t R0 (j+1) (L++[y]) lv' las q c R:=by
 have e:=wake_take (t:=t) hy;rw[if_pos hc] at e;have hk:Kept (λk=>lv.ownBlock=some k) W W':=(Kept.refl _ W).grown hg (λk e=> .inl e);refine⟨h.gw.other h.s1 h.r1 hk (λk e=>(h.lo.lt k e).1) hw (own_apart h.lo h.gw.box (by decide)) (λk hk e=>own_two h.gw.ro h.lo (by decide) hk.own e),?_,h.s1,h.r1,λz hz=>?_,?_,Nat.le_succ_of_le h.rl,?_,?_,h.ls,h.kp.moreF hk (λk e=> .inr (h.lo.lt k e).1),h.qq⟩
 ·rw[List.length_append,List.flatMap_append];exact ho
 ·rcases List.mem_append.1 hz with hz |hz
  ·exact h.lm z hz
  ·rw[List.mem_singleton.1 hz];exact List.mem_of_getElem? hy
 ·rw[List.length_append];exact Nat.succ_le_succ h.ll
 ·rw[e,List.map_append,h.le];rfl
 ·rw[e,h.re]
theorem GP.late {y:Wtv} {k:Nat} {lz:Rpv} {rt:Option Addr} {rd:Nat} {las':List Rpv} {q':Option Addr} {c':Nat} (h:GP E w0 W1 W gg q1 x t R0 j L lv las q c R) (hy:x.wts[j]? =some y) (hc:((wakeP t ((x.wts.take j).map (·.x))).2.2 || !mT y.x.p t)=false)
  (hk:y.x.cl=(k:Int)) (hz:las[k]? =some lz) (hl:las'=if lz.r.sq=y.x.sq then las.set k ⟨lateP t y.x,rt,rd⟩ else las) (ht:TR W1 rt t)
  (g:GW E w0 W' gg { x with last:=las' } q' c' (R0++(R++[⟨lateP t y.x,rt,rd⟩]))) (hlo:W'.ownsRow W1.heap.size 109 4 lv L.length (L.flatMap wv)) (kp:Kept (GFr gg q) W W') (qq:∀ b,OB q' b→OB q b∨W1.heap.size≤b):
  GP E w0 W1 W' gg q1 x t R0 (j+1) L lv las' q' c' (R++[⟨lateP t y.x,rt,rd⟩]):=by
 have e:=wake_take (t:=t) hy;rw[hc,if_neg (by decide)] at e;have hsl:SpW W1 { x with last:=las' } :=by
  rw[hl]
  split
  ·exact h.s1.setLast (z:=⟨lateP t y.x,rt,rd⟩) ht
  ·exact h.s1
 refine⟨g,hlo,hsl,λz hz=>?_,h.lm,Nat.le_succ_of_le h.ll,?_,?_,?_,?_,?_,λb hb=>?_⟩
 ·rcases List.mem_append.1 hz with hz |hz
  ·exact h.r1 z (List.mem_append_left _ hz)
  ·rcases List.mem_append.1 hz with hz |hz
   ·exact h.r1 z (List.mem_append_right _ hz)
   ·rw[List.mem_singleton.1 hz];exact ht
 ·rw[List.length_append];exact Nat.succ_le_succ h.rl
 ·rw[e,h.le]
 ·rw[e,List.map_append,h.re];rfl
 ·rw[List.map_append,List.foldl_append,←h.ls]
  show _=lateS _ (lateP t y.x)
  have hla:lastOf ({ x with last:=las } :Spv).sp (lateP t y.x).cl=lz.r:=by
   show lastOf _ y.x.cl=_
   rw[hk];exact lastOf_at (x:= { x with last:=las }) hz
  unfold lateS;rw[hla,hl]
  by_cases hs:lz.r.sq=y.x.sq
  ·rw[if_pos hs,if_pos (show lz.r.sq=(lateP t y.x).sq from hs)];unfold Spv.sp noteP
   dsimp only
   rw[map_set_to,show(lateP t y.x).cl=(k:Int) from hk,Int.toNat_natCast]
  ·rw[if_neg hs,if_neg (show ¬ lz.r.sq=(lateP t y.x).sq from hs)]
 ·exact h.kp.moreF kp (λb e=>e.elim (λe=> .inl (.inl e)) (λe=>(h.qq b e).imp .inr id))
 ·rcases qq b hb with e |e
  ·exact h.qq b e
  ·exact .inr e
end
theorem GP.loKept {w0 W1 W W':World} {gg:Nat} {q1:Option Addr} {x:Spv} {t:List Fld} {R0:List Rpv} {j:Nat} {L:List Wtv} {lv:Value} {las:List Rpv} {q:Option Addr} {c:Nat} {R:List Rpv} (h:GP E w0 W1 W gg q1 x t R0 j L lv las q c R) (hk:Kept (GFr gg q) W W'):W'.ownsRow W1.heap.size 109 4 lv L.length (L.flatMap wv):=
 own_kept h.lo hk (λk hk' e=>by
  rcases e with e |e
  ·exact own_apart h.lo h.gw.box (by decide) (by rw[hk',e])
  ·exact own_two h.gw.ro h.lo (by decide) e.own hk')
theorem GP.fin {w0 W1 W:World} {gg:Nat} {q1:Option Addr} {x:Spv} {t:List Fld} {R0:List Rpv} {j:Nat} {L:List Wtv} {lq:Option Addr} {lc:Nat} {las:List Rpv} {q:Option Addr} {c:Nat} {R:List Rpv} (h:GP E w0 W1 W gg q1 x t R0 j L (.slice lq L.length lc) las q c R) (hl:L.length≤16) (hw:w0.heap.size≤W1.heap.size):
  GW E w0 (W.setCell ⟨gg,2,none⟩ (.slice lq L.length lc)) gg { x with last:=las,wts:=L,wp:=lq,wc:=lc } q c (R0++R)∧Kept (GFr gg q1) W1 (W.setCell ⟨gg,2,none⟩ (.slice lq L.length lc)):=by
 have hk:Kept (λb=>b=gg) W (W.setCell ⟨gg,2,none⟩ (.slice lq L.length lc)):=(Kept.refl (λb=>b=gg) W).setCell (p:=⟨gg,2,none⟩) (.inl rfl) _;have f:∀ k,k=gg→GFr gg q k:=λk e=> .inl e
 have hlo:=own_kept h.lo hk (λb hb e=>own_apart h.lo h.gw.box (by decide) (by rw[hb,e]));have s:=h.gw.sp.keptF hk (h.gw.off.mono f);refine⟨⟨?_,⟨s.its,s.it,RowL.of_own wv_len rfl hlo,λy hy=>s.wt y (h.lm y hy),s.l4,s.la,s.n,by show L.length≤_;omega⟩,⟨h.gw.off.its,h.gw.off.it,λ_ k hk' e=>?_,λy hy=>h.gw.off.wt y (h.lm y hy),h.gw.off.la⟩,own_kept h.gw.ro hk (λb hb e=>own_apart h.gw.ro h.gw.box (by decide) (by rw[hb,e])),λy hy=>(h.gw.rt y hy).keptF hk ((h.gw.rof y hy).mono f),h.gw.rof,h.gw.ge,?_,⟨h.gw.oe.its,h.gw.oe.it,λ_ k hk' e=>by have h1:=(h.lo.lt k hk'.own).1;have h2:=h.gw.eo k e;omega,λy hy=>h.gw.oe.wt y (h.lm y hy),h.gw.oe.la⟩,h.gw.eo⟩,h.kp.trans (hk.mono λk e=> .inl e)⟩
 ·exact h.gw.box.store 2 (.slice lq L.length lc)
 ·rcases e with e |e
  ·exact own_apart h.lo h.gw.box (by decide) (by rw[←e];exact hk'.own)
  ·exact own_two h.gw.ro h.lo (by decide) e.own hk'.own
 ·exact h.gw.bel.trans ⟨hk.os,hk.tape,hk.output,hk.size,λb hb=>hk.block b (Nat.lt_of_lt_of_le hb h.gw.bel.size) (λe=>by have:=h.gw.ge;omega)⟩
theorem GW.items {w0 W W':World} {gg c:Nat} {x:Spv} {q:Option Addr} {R:List Rpv} {l:List Itv} {lq:Option Addr} {lc:Nat} (h:GW E w0 W gg x q c R) (hb:Below W.heap.size W W') (ho:W'.ownsRow W.heap.size 106 3 (.slice lq l.length lc) l.length (l.flatMap iv)) (ht:∀ y∈l,TR W' y.p y.i.t) (hto:∀ y∈l,OffT (GFr gg q) y.p y.i.t) (hte:∀ y∈l,OffT E y.p y.i.t) (hn:l.length≤1000):
  GW E w0 (W'.setCell ⟨gg,1,none⟩ (.slice lq l.length lc)) gg { x with its:=l,ip:=lq,ic:=lc } q c R∧Kept (GFr gg q) W (W'.setCell ⟨gg,1,none⟩ (.slice lq l.length lc)):=by
 have g:=h.below hb;have hk:Kept (λb=>b=gg) W' (W'.setCell ⟨gg,1,none⟩ (.slice lq l.length lc)):=(Kept.refl (λb=>b=gg) W').setCell (p:=⟨gg,1,none⟩) (.inl rfl) _;have f:∀ k,k=gg→GFr gg q k:=λk e=> .inl e
 have hlo:=own_kept ho hk (λb hb' e=>own_apart ho g.box (by decide) (by rw[hb',e]));have s:=g.sp.keptF hk (g.off.mono f);refine⟨⟨?_,⟨RowL.of_own iv_len rfl hlo,λy hy=>(ht y hy).keptF hk ((hto y hy).mono f),s.wts,s.wt,s.l4,s.la,by show l.length≤_;omega,s.m⟩,⟨λ_ k hk' e=>?_,hto,g.off.wts,g.off.wt,g.off.la⟩,own_kept g.ro hk (λb hb e=>own_apart g.ro g.box (by decide) (by rw[hb,e])),λy hy=>(g.rt y hy).keptF hk ((g.rof y hy).mono f),g.rof,g.ge,?_,⟨λ_ k hk' e=>by have h1:=(ho.lt k hk'.own).1;have h2:=g.eo k e;have h3:=h.bel.size;omega,hte,g.oe.wts,g.oe.wt,g.oe.la⟩,g.eo⟩,(Kept.of_below hb).trans (hk.mono f)⟩
 ·exact g.box.store 1 (.slice lq l.length lc)
 ·have:=(ho.lt k hk'.own).1;exact h.notq this e
 ·exact g.bel.trans ⟨hk.os,hk.tape,hk.output,hk.size,λb hb=>hk.block b (Nat.lt_of_lt_of_le hb g.bel.size) (λe=>by have:=g.ge;omega)⟩
end Go.Proofs.YtlipjglehongeaaGreatDoor
