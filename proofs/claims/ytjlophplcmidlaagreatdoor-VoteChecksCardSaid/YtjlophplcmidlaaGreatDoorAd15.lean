/-
  PACKAGE space
  PACKAGE space
  PACKAGE space
  PACKAGE space
  PACKAGE space
  PACKAGE space
  PACKAGE state
  PACKAGE state
-/
import Derived.Test.YtjlophplcmidlaaGreatDoorAd14
import Derived.ArgAppend
import Derived.Test.YtjlophplcmidlaaGreatDoorAd12
import Derived.Test.YtjlophplcmidlaaGreatDoorTk
open Go.Lib (hid)
set_option maxRecDepth 100000
namespace Go.Proofs.YtjlophplcmidlaaGreatDoor
open Go Go.RowKit Sh
section
section
section
section
section
section
structure SF (B:Nat) (W:World) (x:Spv):Prop where
 its:W.ownsRow B 133 3 (.slice x.ip x.its.length x.ic) x.its.length (x.its.flatMap iv)
 it:∀ y∈x.its,FT W B y.p y.c y.i.t
 wts:W.ownsRow B 136 4 (.slice x.wp x.wts.length x.wc) x.wts.length (x.wts.flatMap wv)
 wt:∀ y∈x.wts,FT W B y.p y.c y.x.p
 l4:x.last.length=4
 la:∀ y∈x.last,FT W B y.p y.c y.r.t
structure CL (w0 W:World) (z:Spv) (x:Spv) (j k m:Nat):Prop where
 box:Blk W w0.heap.size 80 (sv x)
 out:Blk W (w0.heap.size+1) 80 [.int .i64 0,.slice none 0 0,.slice none 0 0,.int .i64 0,.int .i64 0,.int .i64 0,.int .i64 0,.int .i64 0,.slice none 0 0,.bool false,.int .i64 0,.int .i64 0,.int .i64 0,.slice none 0 0,.bool false,.int .i64 0,.int .i64 0,.int .i64 0,.slice none 0 0,.bool false,.int .i64 0,.int .i64 0,.int .i64 0,.slice none 0 0,.bool false]
 its:W.ownsRow w0.heap.size 133 3 (.slice x.ip x.its.length x.ic) x.its.length (x.its.flatMap iv)
 it:∀ i y,i<j→x.its[i]? =some y→FT W w0.heap.size y.p y.c y.i.t
 itz:∀ i,j≤i→x.its[i]? =z.its[i]?
 wts:0<k→W.ownsRow w0.heap.size 136 4 (.slice x.wp x.wts.length x.wc) x.wts.length (x.wts.flatMap wv)
 wt:∀ i y,i+1<k→x.wts[i]? =some y→FT W w0.heap.size y.p y.c y.x.p
 wtz:∀ i,k≤i+1→x.wts[i]? =z.wts[i]?
 l4:x.last.length=4
 la:∀ i y,i<m→x.last[i]? =some y→FT W w0.heap.size y.p y.c y.r.t
 laz:∀ i,m≤i→x.last[i]? =z.last[i]?
 sp:x.sp=z.sp
 wpz:k=0→x.wp=z.wp∧x.wc=z.wc∧x.wts=z.wts
 bel:Below w0.heap.size w0 W
theorem own_kind {w:World} {B:Nat} {e:TypeId} {size:Nat} {v:Value} {n:Nat} {xs:List Value} (h:w.ownsRow B e size v n xs) {g:Nat} (hg:v.ownBlock=some g):∃ cs,Blk w g e cs:=by
 rcases h.2 with⟨rfl,_⟩ |⟨g',cap,cur,rfl,_,hh,_⟩
 ·cases hg
 ·obtain rfl:g'=g:=by simpa [Value.ownBlock] using hg
  exact⟨cur.toList,by simpa [Blk] using hh⟩
theorem own_two {w:World} {B B':Nat} {e e':TypeId} {size size':Nat} {v v':Value} {n n':Nat} {xs xs':List Value} (h:w.ownsRow B e size v n xs) (h':w.ownsRow B' e' size' v' n' xs') (hne:e≠e') {g:Nat} (hg:v.ownBlock=some g):v'.ownBlock≠some g:=λhg'=>by
 obtain⟨cs,hb⟩:=own_kind h hg;exact own_apart h' hb (Ne.symm hne) hg'
structure CI (w0 W:World) (x:Spv) (g:Nat) (j:Nat) (y:Itv):Prop where
 c1:W.cell? ⟨w0.heap.size,1,none⟩=some (.slice (some ⟨g,0,none⟩) x.its.length x.ic)
 ct:W.cell? ⟨g,j * 3+2,none⟩=some (.slice y.p y.i.t.length y.c)
def svL (x:Spv) (j:Nat):List Value:=svA x++(x.last.take j).flatMap pv
def svR (x:Spv) (j:Nat):List Value:=(x.last.drop (j+1)).flatMap pv
theorem svL_len (x:Spv) (j:Nat) (h:j≤x.last.length):(svL x j).length=5+j * 5:=by
 unfold svL;rw[List.length_append,flat_length pv_len,List.length_take,Nat.min_eq_left h];rfl
theorem sv_at (x:Spv) (j:Nat) (y:Rpv) (hy:x.last[j]? =some y):sv x=svL x j++(pv y++svR x j):=by
 obtain⟨hj,rfl⟩:=List.getElem?_eq_some_iff.1 hy;have e:x.last=x.last.take j++(x.last[j]::x.last.drop (j+1)):=by rw[←List.drop_eq_getElem_cons hj,List.take_append_drop]
 show svA x++x.last.flatMap pv=_
 conv=>lhs;rw[e]
 unfold svL svR;rw[List.flatMap_append,List.flatMap_cons,List.append_assoc]
theorem sv_put (x:Spv) (j:Nat) (y y':Rpv) (hy:x.last[j]? =some y):sv { x with last:=x.last.set j y' } =svL x j++(pv y'++svR x j):=by
 obtain⟨hj,rfl⟩:=List.getElem?_eq_some_iff.1 hy
 show svA x++(x.last.set j y').flatMap pv=_
 rw[List.set_eq_take_append_cons_drop,if_pos hj];unfold svL svR;rw[List.flatMap_append,List.flatMap_cons,List.append_assoc]
theorem sv_one (x:Spv):(sv x).toArray.all (·.oneCell')=true:=by
 rw[Array.all_eq_true'];intro v hv;have hv:v∈sv x:=by simpa using hv
 unfold sv at hv;rcases List.mem_append.1 hv with h |h
 ·simp only[List.mem_cons,List.not_mem_nil,or_false] at h;rcases h with rfl |rfl |rfl |rfl |rfl<;>rfl
 ·exact flat_one pv_one x.last v h
section
variable {P : Program} {ops : Array Oper} {rest : List Oper} {o : Oper} {a : Act} {w : World} {Q : Exit → Act → World → Prop}
end
def OB (q:Option Addr) (k:Nat):Prop:=∃ a:Addr,q=some a∧a.block=k
end
end
section
variable {P : Program} {ops : Array Oper} {o : Oper} {a : Act} {w : World} {Q : Exit → Act → World → Prop} {sz : Nat}
end
end
structure SM (wB W:World) (g:Nat) (x:Spv):Prop where
 box:Blk W g 80 (sv x)
 ge:wB.heap.size≤g
 bel:Below wB.heap.size wB W
 sf:SF wB.heap.size W x
end
theorem own_grown {w w':World} {B B':Nat} {e e':TypeId} {sz sz' n n':Nat} {v v':Value} {xs xs':List Value} (h:w.ownsRow B e sz v n xs) (ho:w.ownsRow B' e' sz' v' n' xs') (hg:w.grownBy w' v'.ownBlock) (hne:e'≠e):w'.ownsRow B e sz v n xs:=
 own_kept (F:=λk=>v'.ownBlock=some k) h ((Kept.refl (λk=>v'.ownBlock=some k) w).grown hg (λ_ hk=> .inl hk)) (λ_ hk e'=>own_two ho h hne e' hk)
theorem row_one {α:Type} (f:α→List Value) (sz:Nat) (x:α) (w:World) (e:TypeId):RowL (w.alloc (.cells (f x).toArray e)) (some ⟨w.heap.size,0,none⟩) sz f [x]:=λj y hy=>by
 cases j with
 |zero=>
  obtain rfl:x=y:=by simpa using hy
  exact⟨w.heap.size,0,rfl,by simp,by simpa using rows_of_blk (Blk.new w e (f x))⟩
 |succ j=>simp at hy
section
variable {P : Program} {ops : Array Oper} {rest : List Oper} {o : Oper} {a : Act} {w : World} {Q : Exit → Act → World → Prop}
theorem wp_build1 {K:Act→World→Prop} (t e:TypeId) (x:Operand) (ho:o.op= .buildSlice t 1 #[(0,x)]) (cs:List Value) (hx:a.eval x= .agg cs.toArray)
  (hb:(Instr.buildSlice t 1 #[(0,.agg cs.toArray)]).run P w= .ok (.slice (some ⟨w.heap.size,0,none⟩) 1 1) (w.alloc (.cells cs.toArray e)))
  (h:K (a.put o.dst (.slice (some ⟨w.heap.size,0,none⟩) 1 1)) (w.alloc (.cells cs.toArray e))):o.wp P a w K Q:=by
 have e:((#[(0,x)]:Array (Nat×Operand)).map λ(i,x)=>(i,a.eval x))= #[(0,.agg cs.toArray)]:=by simp[hx]
 unfold Oper.wp execOp;simp only[ho,e,Sem.run_bind,hb,Result.andThen_ok];exact h
theorem build1 (t e:TypeId) (x:Operand) (hgd:o.guard=none) (ho:o.op= .buildSlice t 1 #[(0,x)]) (cs:List Value) (hx:a.eval x= .agg cs.toArray)
  (hb:(Instr.buildSlice t 1 #[(0,.agg cs.toArray)]).run P w= .ok (.slice (some ⟨w.heap.size,0,none⟩) 1 1) (w.alloc (.cells cs.toArray e)))
  (h:wpList P ops Q rest (a.put o.dst (.slice (some ⟨w.heap.size,0,none⟩) 1 1)) (w.alloc (.cells cs.toArray e))):wpList P ops Q (o::rest) a w:=
 wpList_plain hgd λ_ hK=>wp_build1 t e x ho cs hx hb (hK _ _ h)
end
theorem build_wv (y:Wtv) (W:World):(Instr.buildSlice 74 1 #[(0,.agg (wv y).toArray)]).run Tryz.prog W= .ok (.slice (some ⟨W.heap.size,0,none⟩) 1 1) (W.alloc (.cells (wv y).toArray 136)):=by
 kernel_rfl
theorem build_iv (y:Itv) (W:World):(Instr.buildSlice 73 1 #[(0,.agg (iv y).toArray)]).run Tryz.prog W= .ok (.slice (some ⟨W.heap.size,0,none⟩) 1 1) (W.alloc (.cells (iv y).toArray 133)):=by
 kernel_rfl
end
structure SR (B:Nat) (W:World) (gs g:Nat) (s:Src):Prop where
 bx:Blk W gs 145 [.pointer (some ⟨g,0,none⟩),.bool s.wr]
 rd:RdF (λk=>k<B) W g s.xs s.bad
 ne:gs≠g
 by_:Bytes s.xs
 lb:B≤gs
theorem SR.below {W W':World} {B gs g:Nat} {s:Src} (h:SR B W gs g s) (hb:Below W.heap.size W W'):SR B W' gs g s:=⟨h.bx.below hb h.bx.lt,h.rd.below hb,h.ne,h.by_,h.lb⟩
theorem gNum_len (s:Src) (n:Nat):(gNum s n).2.xs.length≤s.xs.length:=by
 unfold gNum rNum
 dsimp only
 split
 ·simp
 ·simp
theorem SR.set {W:World} {B gs g:Nat} {s:Src} (h:SR B W gs g s) (b:Bool):SR B (W.setCell ⟨gs,1,none⟩ (.bool b)) gs g { s with wr:=b } ∧Kept (λk=>k=gs) W (W.setCell ⟨gs,1,none⟩ (.bool b)):=by
 have k:Kept (λk=>k=gs) W (W.setCell ⟨gs,1,none⟩ (.bool b)):=(Kept.refl (λk=>k=gs) W).setCell (p:=⟨gs,1,none⟩) (.inl rfl) _;exact⟨⟨h.bx.store 1 (.bool b),h.rd.stays k h.ne.symm (λi hi e=>by have:=h.lb;omega),h.ne,h.by_,h.lb⟩,k⟩
theorem snum_t (B gs g n:Nat) (s:Src) (W:World) (x:SR B W gs g s) (h1:1≤n) (h2:n≤8):
  Calls Tryz.prog 97 #[.pointer (some ⟨gs,0,none⟩),.int .i64 n] W λe W'=>e= .returned (.int .i64 (i64N (gNum s n).1))∧SR B W' gs g (gNum s n).2 ∧Kept (λk=>k=g) W W':=by
 have RT:=hid (rnum_F _ g s.xs s.bad n W x.rd x.by_ h1 h2);have X:=hid x;have c0:W.cell? ⟨gs,0,none⟩=some (.pointer (some ⟨g,0,none⟩)):=x.bx.cell 0;obtain⟨v,hv⟩:∃ v,(rNum s.xs s.bad n).1 =v:=⟨_,rfl⟩;have E:=hid (show i64N (gNum s n).1 =IntKind.i64.wrap (v:Int) from by unfold i64N gNum;rw[hv]);rw[hv] at RT;rw[E.out];obtain⟨z,hz⟩:∃ z,IntKind.i64.wrap (v:Int)=z:=⟨_,rfl⟩;rw[hz];clear x hv E
 go_enter Tryz.func97,Tryz.ntmps97
 go_wp2_with fail
 refine RT.out.mono ?_
 rintro e W2 ⟨rfl,r2,k2⟩
 have S2:=hid (show SR B W2 gs g (gNum s n).2 from⟨X.out.bx.kept k2 X.out.ne,r2,X.out.ne,gNum_bytes n X.out.by_,X.out.lb⟩);have K2:=hid k2;clear r2 k2 c0 X RT;go_wp2_with fail
 go_ret;exact⟨rfl,S2.out,K2.out⟩
theorem sflag_t (B gs g:Nat) (s:Src) (W:World) (x:SR B W gs g s):
  Calls Tryz.prog 103 #[.pointer (some ⟨gs,0,none⟩)] W λe W'=>e= .returned (.bool (gFlag s).1)∧SR B W' gs g (gFlag s).2 ∧Kept (λk=>k=g∨k=gs) W W':=by
 have RT:=hid (rnum_F _ g s.xs s.bad 1 W x.rd x.by_ (by decide) (by decide));have X:=hid x;have c0:W.cell? ⟨gs,0,none⟩=some (.pointer (some ⟨g,0,none⟩)):=x.bx.cell 0;have HV:=hid (rNum_bytes s.xs s.bad 1 x.by_).2.2;obtain⟨⟨v,u⟩,hv⟩:∃ r,gNum s 1=r:=⟨_,rfl⟩;have hv1:(rNum s.xs s.bad 1).1 =v:=congrArg Prod.fst hv;have E1:=hid (show(gFlag s).1 =(v == 1) from by unfold gFlag;rw[hv]);have E2:=hid (show(gFlag s).2 = { u with wr:=s.wr || decide (1<v) } from by unfold gFlag;rw[hv]);have HU:=hid (congrArg Prod.snd hv);rw[hv1] at RT HV;obtain⟨sw,hsw⟩:∃ b,s.wr=b:=⟨_,rfl⟩;rw[E1.out,E2.out,hsw];have HSW:=hid hsw;clear x hv hv1 E1 E2 hsw
 go_enter Tryz.func103,Tryz.ntmps103
 go_wp2_with fail
 refine RT.out.mono ?_
 rintro e W2 ⟨rfl,r2,k2⟩
 have S2:=hid (show SR B W2 gs g u from by
  have h:SR B W2 gs g (gNum s 1).2 :=⟨X.out.bx.kept k2 X.out.ne,r2,X.out.ne,gNum_bytes 1 X.out.by_,X.out.lb⟩
  rwa [HU.out] at h)
 have HW:=hid (show u.wr=sw from by have:=HU.out;exact(congrArg Src.wr this).symm.trans HSW.out);have K2:=hid k2;clear r2 k2 c0 RT;have c1:W2.cell? ⟨gs,1,none⟩=some (.bool u.wr):=S2.out.bx.cell 1;have fz:=S2.out.bx.frozen 1;rw[HW.out] at c1;have hb1:((v:Int) == 1)=(v == 1):=by
  by_cases h:v=1
  ·subst h;rfl
  ·rw[beq_eq_false_iff_ne.2 h,beq_eq_false_iff_ne];omega
 have S3:=hid (S2.out.set (sw || decide (1<v)));have hb9:v<256:=HV.out;clear HW X HSW
 cases sw with
 |true=>
  go_wp2_with fail
  go_ret;exact⟨rfl,S3.out.1,(K2.out.mono λk e=> .inl e).trans (S3.out.2.mono λk e=> .inr e)⟩
 |false=>
  by_cases h1:1<v
  ·have e1:decide ((1:Int)< (v:Int))=true:=decide_eq_true (by omega);have e2:decide (1<v)=true:=decide_eq_true h1;rw[e2] at S3;go_wp2_with fail
   go_ret;exact⟨rfl,by rw[e2];exact S3.out.1,(K2.out.mono λk e=> .inl e).trans (S3.out.2.mono λk e=> .inr e)⟩
  ·have e1:decide ((1:Int)< (v:Int))=false:=decide_eq_false (by omega);have e2:decide (1<v)=false:=decide_eq_false h1;rw[e2] at S3;go_wp2_with fail
   go_ret;exact⟨rfl,by rw[e2];exact S3.out.1,(K2.out.mono λk e=> .inl e).trans (S3.out.2.mono λk e=> .inr e)⟩
theorem send_t (B gs g:Nat) (s:Src) (W:World) (x:SR B W gs g s):
  Calls Tryz.prog 104 #[.pointer (some ⟨gs,0,none⟩)] W λe W'=>e= .returned (.int .i64 (endS s:Nat))∧W=W':=by
 have ET:=hid (end_t g s.xs s.bad W x.rd.rd);have c0:W.cell? ⟨gs,0,none⟩=some (.pointer (some ⟨g,0,none⟩)):=x.bx.cell 0;have c1:W.cell? ⟨gs,1,none⟩=some (.bool s.wr):=x.bx.cell 1;have E:=hid (show endS s=if s.wr then 2 else endN s.xs s.bad from rfl);obtain⟨en,hen⟩:∃ n,endN s.xs s.bad=n:=⟨_,rfl⟩;obtain⟨b,hb⟩:∃ n,s.wr=n:=⟨_,rfl⟩;rw[hen] at ET E;rw[hb] at c1 E;rw[E.out];clear x hen hb E
 cases b with
 |true=>
  go_enter Tryz.func104,Tryz.ntmps104
  go_wp2_with fail
  go_ret;exact⟨rfl,rfl⟩
 |false=>
  go_enter Tryz.func104,Tryz.ntmps104
  go_wp2_with fail
  refine ET.out.mono ?_
  rintro e W2 ⟨rfl,rfl⟩
  go_wp2_with fail
  go_ret;exact⟨rfl,rfl⟩
end
theorem rTxt_textS (xs:List Nat) (bad:Bool) (n:Nat) (h:Bytes xs):Bytes (rTxt xs bad n).1 :=by
 unfold rTxt
 split
 ·exact bytes_take (bytes_drop h 4) _
 ·exact nil_bytes
theorem fNr_le (l:List Nat) (hb:Bytes l):fNr l≤9223372036854775807:=by
 have h1:cntN l<256 ^ 1:=(rNum_bytes l false 1 hb).2.2;unfold fNr
 split
 ·omega
 ·omega
theorem tr_flS {w:World} {p:Option Addr} {n:Nat} {G:Nat→Fld} (h:Rw w p n G) (hn:n≤9223372036854775807):TR w p (fl n G):=by
 refine⟨?_,by rw[fl_length];exact hn⟩;rw[fl_length];exact h.congr λj hj=>(gl_fl hj).symm
theorem Rw.keptS {F:Nat→Prop} {w w':World} {p:Option Addr} {n:Nat} {G:Nat→Fld} (h:Rw w p n G) (hk:Kept F w w') (hf:∀ a:Addr,p=some a→¬ F a.block):Rw w' p n G:=λj hj=>by
 obtain⟨b,o,rfl,hl,r⟩:=h j hj;exact⟨b,o,rfl,Nat.lt_of_lt_of_le hl hk.size,λi v hv=>(hk.cell (p:=⟨b,o+j * 3+i,none⟩) hl (λe=>hf ⟨b,o,none⟩ rfl e)).trans (r i v hv)⟩
theorem Rw.nilS {w:World} {p:Option Addr} {G:Nat→Fld} :Rw w p 0 G:=λj hj=>absurd hj (by omega)
theorem isEmpty_lenS (l:List Nat):l.isEmpty=decide (l.length=0):=by cases l<;>rfl
theorem TR.keptS {F:Nat→Prop} {w w':World} {p:Option Addr} {t:List Fld} (h:TR w p t) (hk:Kept F w w') (hf:∀ a:Addr,p=some a→¬ F a.block):TR w' p t:=⟨h.t.keptS hk hf,h.n⟩
structure NF (W:World) (b:Nat) (p:Option Addr):Prop where
 ge:∀ a:Addr,p=some a→b≤a.block
 ty:∀ a:Addr,p=some a→∃ cs,Blk W a.block 190 cs
theorem NF.no (W:World) (b:Nat):NF W b none:=⟨(λa ha=>by cases ha),(λa ha=>by cases ha)⟩
theorem NF.kept {F:Nat→Prop} {W W':World} {b:Nat} {p:Option Addr} (h:NF W b p) (hk:Kept F W W') (hf:∀ a:Addr,p=some a→¬ F a.block):NF W' b p:=
 ⟨h.ge,λa ha=>by obtain⟨cs,hcs⟩:=h.ty a ha;exact⟨cs,hcs.kept hk (hf a ha)⟩⟩
theorem NF.below {W W':World} {b:Nat} {p:Option Addr} (h:NF W b p) (hb:Below W.heap.size W W'):NF W' b p:=h.kept (F:=λ_=>False) (Kept.of_below hb) (λ_ _=>id)
theorem NF.low {W:World} {b b':Nat} {p:Option Addr} (h:NF W b p) (hb:b'≤b):NF W b' p:=⟨λa ha=>Nat.le_trans hb (h.ge a ha),h.ty⟩
set_option maxHeartbeats 1000000 in
theorem sflds_t (B gs g:Nat) (s:Src) (W:World) (x:SR B W gs g s) (hl:s.xs.length≤1000000):
  Calls Tryz.prog 100 #[.pointer (some ⟨gs,0,none⟩)] W λe W'=>(∃ A c,e= .returned (.slice A (gFl s).1.length c)∧TR W' A (gFl s).1 ∧NF W' W.heap.size A)∧SR B W' gs g (gFl s).2 ∧Kept (λk=>k=g∨k=gs) W W':=by
 obtain⟨U,hU⟩:∃ U,W.drew=U:=⟨_,rfl⟩;have BU:=hid (show Below W.heap.size W U from by rw[←hU];exact(Below.refl _ _).drew);have XU:=hid (x.below BU.out);have LF:=hid (left_t g s.xs s.bad U XU.out.rd.rd);have TX:=hid (rtxt_F _ g s.xs s.bad s.xs.length U XU.out.rd x.by_ hl (by omega));have HB:=hid (rTxt_textS s.xs s.bad s.xs.length x.by_);have HB2:=hid (rTxt_bytes s.xs s.bad s.xs.length x.by_);obtain⟨⟨l,ys,b2⟩,hR⟩:∃ r,rTxt s.xs s.bad s.xs.length=r:=⟨_,rfl⟩;have E1:=hid (show(gFl s).1 =fl (fNr l) (gotN l) from by unfold gFl sTxt;rw[hR]);have E2:=hid (show(gFl s).2 =⟨ys,b2,s.wr || !fOK l⟩ from by unfold gFl sTxt;rw[hR]);simp only[hR] at TX HB HB2;have FL:=hid (fNr_le l HB.out);obtain⟨fn,hfn⟩:∃ z,fNr l=z:=⟨_,rfl⟩;obtain⟨fk,hfk⟩:∃ z,fOK l=z:=⟨_,rfl⟩;obtain⟨sw,hsw⟩:∃ z,s.wr=z:=⟨_,rfl⟩;rw[E1.out,E2.out,hfn,hfk,hsw,fl_length];rw[hfn] at FL;have FN:=hid hfn;have FK:=hid hfk;have HSW:=hid hsw;have XL:=hid (show l.length≤1000000 from by have:=HB2.out.2.2;omega);clear x hR E1 E2 hfn hfk hsw
 go_enter Tryz.func100,Tryz.ntmps100
 go_upto_region 1 with(fail)
 have s0:U.cell? ⟨gs,0,none⟩=some (.pointer (some ⟨g,0,none⟩)):=XU.out.bx.cell 0;refine wp_region_held (S:=λY=>Y.cell? ⟨gs,0,none⟩=some (.pointer (some ⟨g,0,none⟩))) (by kernel_rfl) ?_;change wpAnyH _ _ _ _ _ _ _ _ W.drew;rw[hU];clear hU;refine tka9 0 s0 ?_;refine tka9 1 s0 ?_;refine tka9 2 s0 ?_;refine tk9 3 ?_ ?_ s0 ?_;rotate_left 1
 ·(intro w hS;have hs:=hS;clear hS;go_simp;try (with_reducible rfl))
 refine tka9 4 s0 ?_;refine tka9 5 s0 ?_;refine tka9 6 s0 ?_;refine tk9 7 ?_ ?_ s0 ?_;rotate_left 1
 ·(intro w hS;have hs:=hS;clear hS;go_simp;try (with_reducible rfl))
 refine rdw9 8 λK hK=>?_
 go_simp;refine LF.out.mono ?_
 rintro e w1 ⟨rfl,rfl⟩
 refine hK.out _ _ s0 (λ_=>?_);clear hK K LF;refine rdw9 9 λK hK=>?_
 go_simp;refine TX.out.mono ?_
 rintro e w2 ⟨u,rfl,o2,x2,k2⟩
 obtain⟨A,c,rfl,_⟩:=own_form o2;have S2:=hid (Sr.of_own o2);have K2:=hid ((Kept.of_below (F:=λk=>k=g) BU.out).trans k2);have X2:=hid (show SR B w2 gs g ⟨ys,b2,sw⟩ from⟨by have h:=XU.out.bx.kept k2 XU.out.ne;rw[HSW.out] at h;exact h,x2,XU.out.ne,HB2.out.1,XU.out.lb⟩);have HU:=hid BU.out.size;have s2:w2.cell? ⟨gs,0,none⟩=some (.pointer (some ⟨g,0,none⟩)):=X2.out.bx.cell 0;refine hK.out _ _ s2 (λ_=>?_);clear hK K o2 x2 k2 TX s0;refine tka9 10 s2 ?_;refine wpAnyH_done (by kernel_rfl) ?_ _;go_simp;clear s2
 by_cases h0:l.length=0
 ·obtain rfl:=List.eq_nil_of_length_eq_zero h0;obtain rfl:0=fn:=by rw[←FN.out];unfold fNr;rw[getOK_nil];rfl
  obtain rfl:true=fk:=FK.out;clear FN FK;go_wp2_with fail
  go_ret;exact⟨⟨none,0,rfl,tr_flS Rw.nilS (by decide),NF.no _ _⟩,by rw[show(sw || !true)=sw from by cases sw<;>rfl];exact X2.out,K2.out.mono λk e=> .inl e⟩
 ·have e1:((l.length:Int) == 0)=false:=by rw[beq_eq_false_iff_ne];omega
  have hi:l.isEmpty=false:=by rw[isEmpty_lenS];exact decide_eq_false h0
  go_wp2_with fail
  refine(Get_t l A l.length c w2 rfl S2.out HB.out (by have:=XL.out;omega)).mono ?_
  rintro e w3 ⟨b3,hh⟩
  have X3:=hid (X2.out.below b3);have K3:=hid (K2.out.trans (Kept.of_below b3));have hs:=K2.out.size;clear b3 X2 K2 S2;have c1:w3.cell? ⟨gs,1,none⟩=some (.bool sw):=X3.out.bx.cell 1;have fz:=X3.out.bx.frozen 1;rcases hh with⟨hbad,rfl⟩ |⟨hgood,gl,c',rfl,hlo,hrow⟩
  ·obtain rfl:0=fn:=by rw[←FN.out];unfold fNr;rw[hbad];rfl
   obtain rfl:false=fk:=by rw[←FK.out];unfold fOK;rw[hbad,hi];rfl
   have Y3:=hid (X3.out.set true);clear FN FK hbad
   cases sw with
   |true=>
    go_wp2_with fail
    go_ret;exact⟨⟨none,0,rfl,tr_flS Rw.nilS (by decide),NF.no _ _⟩,Y3.out.1,(K3.out.mono λk e=> .inl e).trans (Y3.out.2.mono λk e=> .inr e)⟩
   |false=>
    go_wp2_with fail
    go_ret;exact⟨⟨none,0,rfl,tr_flS Rw.nilS (by decide),NF.no _ _⟩,Y3.out.1,(K3.out.mono λk e=> .inl e).trans (Y3.out.2.mono λk e=> .inr e)⟩
  ·obtain rfl:cntN l=fn:=by rw[←FN.out];unfold fNr;rw[hgood];rfl
   obtain rfl:true=fk:=by rw[←FK.out];unfold fOK;rw[hgood,hi];rfl
   have R3:=hid (rw_of_blk (rest:=[]) (gotN l) (by rw[List.append_nil];exact hrow));have HGL:=hid (show gl≠gs from λe=>by have h1:=X3.out.bx;have h2:=hrow;rw[e] at h2;have h3:=h1.symm.trans h2;simp at h3);have Y3:=hid (X3.out.set sw);have R4:=hid (tr_flS (R3.out.keptS Y3.out.2 (λa ha e=>by cases ha;exact HGL.out e)) FL.out);have NF4:=hid (show NF (w3.setCell ⟨gs,1,none⟩ (.bool sw)) W.heap.size (some ⟨gl,0,none⟩) from
    ⟨λa ha=>by cases ha;exact Nat.le_trans hs hlo,λa ha=>by cases ha;exact⟨_,hrow.kept Y3.out.2 HGL.out⟩⟩)
   clear FN FK hgood hrow
   cases sw with
   |true=>
    go_wp2_with fail
    go_ret;exact⟨⟨_,c',rfl,R4.out,NF4.out⟩,Y3.out.1,(K3.out.mono λk e=> .inl e).trans (Y3.out.2.mono λk e=> .inr e)⟩
   |false=>
    go_wp2_with fail
    go_ret;exact⟨⟨_,c',rfl,R4.out,NF4.out⟩,Y3.out.1,(K3.out.mono λk e=> .inl e).trans (Y3.out.2.mono λk e=> .inr e)⟩
end Go.Proofs.YtjlophplcmidlaaGreatDoor
