/-
  
-/
import Derived.Test.YtjlophplcmidlaaGreatDoorAd4
import Derived.Test.YtjlophplcmidlaaGreatDoorAd1
import Derived.BigRegion
import Derived.StillTailTactics
open Go.Lib (hid)
set_option maxRecDepth 100000
namespace Go.Proofs.YtjlophplcmidlaaGreatDoor
open Go.RowKit Sh
set_option maxHeartbeats 400000 in
theorem rturn_t (x n:Nat) (w:World) (hx:x<4294967296) (hn2:n≤32):
  Calls Tryz.prog 92 #[.int .u32 x,.int .u64 n] w λe w'=>e= .returned (.int .u32 (Sh.rotr x n:Nat))∧w=w':=by
 go_enter Tryz.func92,Tryz.ntmps92
 go_wp2
 go_ret;exact⟨ret_u32 (Sh.rotr_int x n hx),rfl⟩
theorem rturn_i (x:Nat) (n:Int) (w:World) (hx:x<4294967296) (hn:0≤n) (hn2:n≤32):
  Calls Tryz.prog 92 #[.int .u32 x,.int .u64 n] w λe w'=>e= .returned (.int .u32 (Sh.rotr x n.toNat:Nat))∧w=w':=by
 obtain⟨m,rfl⟩:=Int.eq_ofNat_of_zero_le hn;exact rturn_t x m w hx (by omega)
theorem build_op {P:Program} {ops:Array Oper} {rest:List Oper} {o:Oper} {a:Act} {w:World} {Q:Exit→Act→World→Prop} (t:TypeId) (parts:Array (Nat×Operand)) (cs:Array Value) (hgd:o.guard=none) (ho:o.op= .build t parts)
  (hrun:P.built t (parts.map λ(i,x)=>(i,a.eval x)).toList=some cs) (h:wpList P ops Q rest (a.put o.dst (.agg cs)) w):wpList P ops Q (o::rest) a w:=
 wpList_plain hgd λK hK=>by
  unfold Oper.wp execOp;simp only[ho,Sem.run_bind,run_build w t _ cs hrun,Result.andThen_ok];exact hK _ _ h
theorem ks_len:(Tryz.prog.info? 139).map (·.size)=some (u32s ks).length:=by kernel_rfl
theorem Blk.new3 (w:World) (a b:Obj) (t:TypeId) (cs:List Value):Blk (((w.alloc a).alloc b).alloc (.cells cs.toArray t)) (w.heap.size+1+1) t cs:=by
 have h:=Blk.new ((w.alloc a).alloc b) t cs;have e:((w.alloc a).alloc b).heap.size=w.heap.size+1+1:=by simp
 rwa [e] at h
structure Start (w W:World) (s:S8) (ws:List Nat):Prop where
 st:Blk W w.heap.size 110 (u32s s.list)
 res:Blk W (w.heap.size+1) 110 (u32s [0,0,0,0,0,0,0,0])
 tab:Blk W (w.heap.size+1+1) 139 (u32s ks)
 sch:Blk W (w.heap.size+1+1+1) 139 (u32s ws)
 below:Below w.heap.size w W
 size:w.heap.size+4≤W.heap.size
theorem Start.store {w W:World} {s:S8} {ws ws':List Nat} (h:Start w W s ws) (i v:Nat) (hw:ws.set i v=ws'):Start w (W.setCell ⟨w.heap.size+1+1+1,i,none⟩ (.int .u32 (v:Int))) s ws':=
 ⟨h.st.far (by simp;omega) _,h.res.far (by simp) _,h.tab.far (by simp) _,by rw[←hw,←u32s_set];exact h.sch.store i _,h.below.setCell (by simp;omega) _,by simpa [World.setCell] using h.size⟩
theorem Start.drew {w W:World} {s:S8} {ws:List Nat} (h:Start w W s ws):Start w W.drew s ws:=⟨h.st,h.res,h.tab,h.sch,h.below.drew,h.size⟩
theorem Start.drewN {w W:World} {s:S8} {ws:List Nat} (h:Start w W s ws) (n:Nat):Start w (W.drewN n) s ws:=⟨h.st,h.res,h.tab,h.sch,⟨h.below.os,h.below.tape,h.below.output,h.below.size,h.below.block⟩,h.size⟩
theorem first_words' (l:List Nat) (at_:Nat) (h:∀ i,gt l i<256) (n:Nat):∀ i,gt (first l at_ n) i<4294967296:=by
 induction n with
 |zero=>intro i;simp[first,gt]
 |succ n ih=>exact gt_snoc_lt ih (be_lt (h _) (h _) (h _) (h _))
theorem sch_words' (l:List Nat) (at_:Nat) (h:∀ i,gt l i<256) (n:Nat):∀ i,gt (sch (first l at_ 16) n) i<4294967296:=by
 induction n with
 |zero=>exact first_words' l at_ h 16
 |succ n ih=>exact gt_snoc_lt ih (add_lt _ _)
theorem first_set' (l:List Nat) (a k n:Nat):(first l a k++List.replicate (n+1) 0).set k (word l a k)=first l a (k+1)++List.replicate n 0:=by
 have:=set_next (first l a k) n (word l a k);rw[first_length] at this;exact this
theorem s0_int (x:Nat) (hx:x<4294967296):bits .xor .u32 (bits .xor .u32 ((rotr x 7:Nat):Int) ((rotr x 18:Nat):Int)) ((x:Int) / 8)=((sS0 x:Nat):Int):=by
 rw[show((x:Int) / 8)=((x / 8:Nat):Int) from by rw[Int.natCast_ediv];rfl,bits_xor _ _ (rotr_lt _ hx) (rotr_lt _ hx),bits_xor _ _ (xor_lt (rotr_lt _ hx) (rotr_lt _ hx)) (div_lt hx)];rfl
theorem s1_int (x:Nat) (hx:x<4294967296):bits .xor .u32 (bits .xor .u32 ((rotr x 17:Nat):Int) ((rotr x 19:Nat):Int)) ((x:Int) / 1024)=((sS1 x:Nat):Int):=by
 rw[show((x:Int) / 1024)=((x / 1024:Nat):Int) from by rw[Int.natCast_ediv];rfl,bits_xor _ _ (rotr_lt _ hx) (rotr_lt _ hx),bits_xor _ _ (xor_lt (rotr_lt _ hx) (rotr_lt _ hx)) (div_lt hx)];rfl
theorem B0_int (x:Nat) (hx:x<4294967296):bits .xor .u32 (bits .xor .u32 ((rotr x 2:Nat):Int) ((rotr x 13:Nat):Int)) ((rotr x 22:Nat):Int)=((bS0 x:Nat):Int):=by
 rw[bits_xor _ _ (rotr_lt _ hx) (rotr_lt _ hx),bits_xor _ _ (xor_lt (rotr_lt _ hx) (rotr_lt _ hx)) (rotr_lt _ hx)];rfl
theorem B1_int (x:Nat) (hx:x<4294967296):bits .xor .u32 (bits .xor .u32 ((rotr x 6:Nat):Int) ((rotr x 11:Nat):Int)) ((rotr x 25:Nat):Int)=((bS1 x:Nat):Int):=by
 rw[bits_xor _ _ (rotr_lt _ hx) (rotr_lt _ hx),bits_xor _ _ (xor_lt (rotr_lt _ hx) (rotr_lt _ hx)) (rotr_lt _ hx)];rfl
theorem add_rev (a b c d:Nat):add (add (add a b) c) d=add (add (add d c) b) a:=by unfold add;omega
theorem Start.alloc {w W:World} {s:S8} {ws:List Nat} (h:Start w W s ws) (o:Obj):Start w (W.alloc o) s ws:=
 ⟨h.st.alloc o,h.res.alloc o,h.tab.alloc o,h.sch.alloc o,h.below.alloc (by have:=h.size;omega) o,by have:=h.size;simp;omega⟩
theorem Start.setRow {w W:World} {s:S8} {ws:List Nat} (h:Start w W s ws) (g:Nat) (hg:w.heap.size+4≤g) (c:Array Value):Start w (W.setRow g c) s ws:=
 ⟨h.st.setRow_far (by omega) c,h.res.setRow_far (by omega) c,h.tab.setRow_far (by omega) c,h.sch.setRow_far (by omega) c,below_setRow h.below (by omega) c,by simpa using h.size⟩
theorem Blk.cells8 {W:World} {g:Nat} {a b c d e f g' h:Nat} (H:Blk W g 110 (u32s (S8.mk a b c d e f g' h).list)):
  W.cell? ⟨g,0,none⟩=some (.int .u32 (a:Int))∧W.cell? ⟨g,1,none⟩=some (.int .u32 (b:Int))∧W.cell? ⟨g,2,none⟩=some (.int .u32 (c:Int))∧W.cell? ⟨g,3,none⟩=some (.int .u32 (d:Int))∧
  W.cell? ⟨g,4,none⟩=some (.int .u32 (e:Int))∧W.cell? ⟨g,5,none⟩=some (.int .u32 (f:Int))∧W.cell? ⟨g,6,none⟩=some (.int .u32 (g':Int))∧W.cell? ⟨g,7,none⟩=some (.int .u32 (h:Int)):=
 ⟨H.cell 0,H.cell 1,H.cell 2,H.cell 3,H.cell 4,H.cell 5,H.cell 6,H.cell 7⟩
theorem Start.two {w W:World} {s:S8} {ws:List Nat} (H:Start w W s ws) (hl:ws.length=64) (k:Nat) (h:k<64):
  W.cell? ⟨w.heap.size+1+1,k,none⟩=some (.int .u32 ((gt ks k:Nat):Int))∧W.cell? ⟨w.heap.size+1+1+1,k,none⟩=some (.int .u32 ((gt ws k:Nat):Int)):=
 ⟨(H.tab.cell k).trans (u32s_get _ _ (show k<ks.length from h)),(H.sch.cell k).trans (u32s_get _ _ (by rw[hl];exact h))⟩
theorem rnd_eq {a b c d e f g h k w T T2:Nat} (h1:t1 ⟨a,b,c,d,e,f,g,h⟩ k w=T) (h2:t2 ⟨a,b,c,d,e,f,g,h⟩=T2):rnd ⟨a,b,c,d,e,f,g,h⟩ k w=S8.mk (add T T2) a b c (add d T) e f g:=by
 subst h1 h2;rfl
def mix (s r:S8) (j:Nat):List Nat:=(s.plus r).list.take j++s.list.drop j
theorem mix_gt (s r:S8) (j:Nat) (h:j<8):gt (mix s r j) j=gt s.list j:=by
 have:j=0∨j=1∨j=2∨j=3∨j=4∨j=5∨j=6∨j=7:=by omega
 rcases this with rfl |rfl |rfl |rfl |rfl |rfl |rfl |rfl<;>rfl
theorem mix_set (s r:S8) (j:Nat) (h:j<8):(mix s r j).set j (add (gt s.list j) (gt r.list j))=mix s r (j+1):=by
 have:j=0∨j=1∨j=2∨j=3∨j=4∨j=5∨j=6∨j=7:=by omega
 rcases this with rfl |rfl |rfl |rfl |rfl |rfl |rfl |rfl<;>rfl
theorem mix_length (s r:S8) (j:Nat) (h:j≤8):(mix s r j).length=8:=by
 simp[mix,S8.list];omega
set_option maxHeartbeats 4000000 in
theorem block_t (s:S8) (hs:s.ok) (l:List Nat) (len c at_:Nat) (bb ob:Nat) (w:World) (hl:l.length=len) (hat:at_+64≤len) (hlen:len<1000000000) (hc:BytesAt w bb ob l) (hb:Bytes l) (hbb:bb<w.heap.size):
  Calls Tryz.prog 64 #[.agg (u32s s.list).toArray,.slice (some ⟨bb,ob,none⟩) len c,.int .i64 (at_:Int)] w λe w'=>e= .returned (.agg (u32s (Sh.cmp s (Sh.sched l at_)).list).toArray)∧Below w.heap.size w w':=by
 have HL:=hid hl;have HB:=hid hb;have HC:=hid hc;have HS:=hid hs;have KL:=hid ks_len;clear hl hb hc hs;rw[show(u32s s.list).toArray= #[.int .u32 (s.a:Int),.int .u32 (s.b:Int),.int .u32 (s.c:Int),.int .u32 (s.d:Int),.int .u32 (s.e:Int),.int .u32 (s.f:Int),.int .u32 (s.g:Int),.int .u32 (s.h:Int)] from rfl]
 go_enter Tryz.func64,Tryz.ntmps64
 go_wp2_with (first
  |((with_reducible refine build_op 139 _ (u32s ks).toArray rfl rfl ?_ ?_);kernel_rfl)
  |((with_reducible refine store_blk 139 (.tmp 7) (.tmp 20) (w.heap.size+1+1) 139 (u32s (List.replicate 64 0)) (u32s ks) rfl rfl ?_ ?_ ?_ ?_ ?_ ?_ ?_);exact Blk.new3 w _ _ 139 _;exact rfl;exact KL.out;exact u32s_one _;exact rfl;exact rfl))
 have hst:∀ W,W=((((w.alloc (.cells (u32s s.list).toArray 110)).alloc (.cells (u32s [0,0,0,0,0,0,0,0]).toArray 110)).alloc (.cells (u32s (List.replicate 64 0)).toArray 139)).setRow (w.heap.size+1+1) (u32s ks).toArray).alloc (.cells (u32s (List.replicate 64 0)).toArray 139)→Start w W s (first l at_ 0++List.replicate (64-0) 0):=by
  intro W hW;subst hW;refine⟨((((Blk.new w 110 _).alloc _).alloc _).setRow_far (by omega) _).alloc _,(((Blk.new2 w _ 110 _).alloc _).setRow_far (by omega) _).alloc _,((Blk.new3 w _ _ 139 _).setRow _).alloc _,?_,?_,by simp⟩
  ·have h:=Blk.new ((((w.alloc (.cells (u32s s.list).toArray 110)).alloc (.cells (u32s [0,0,0,0,0,0,0,0]).toArray 110)).alloc (.cells (u32s (List.replicate 64 0)).toArray 139)).setRow (w.heap.size+1+1) (u32s ks).toArray) 139 (u32s (List.replicate 64 0));have e:((((w.alloc (.cells (u32s s.list).toArray 110)).alloc (.cells (u32s [0,0,0,0,0,0,0,0]).toArray 110)).alloc (.cells (u32s (List.replicate 64 0)).toArray 139)).setRow (w.heap.size+1+1) (u32s ks).toArray).heap.size=w.heap.size+1+1+1:=by simp
   rw[e] at h;exact h
  ·exact(below_setRow ((((Below.refl _ _).alloc (Nat.le_refl _) _).alloc (by simp) _).alloc (by simp;omega) _) (by omega) _).alloc (by simp;omega) _
 have HST:=hid hst;clear hst
 go_loopw [9] (λi wr=>∃ k:Nat,k≤16∧i= .int .i64 k∧Start w wr s (first l at_ k++List.replicate (64-k) 0)) (λi _=>16- (intOf i).toNat)
 case atStart=>exact⟨0,by omega,rfl,HST.out _ rfl⟩
 case round=>
  clear HST;obtain⟨k,hk,rfl,h1⟩:=hrel
  by_cases hlt:k<16
  ·have hg:=HC.out.below h1.below hbb;have c0:=hg (at_+4 * k) (by have:=HL.out;omega);have c1:=hg (at_+4 * k+1) (by have:=HL.out;omega);have c2:=hg (at_+4 * k+2) (by have:=HL.out;omega);have c3:=hg (at_+4 * k+3) (by have:=HL.out;omega);have b0:=HB.out (at_+4 * k);have b1:=HB.out (at_+4 * k+1);have b2:=HB.out (at_+4 * k+2);have b3:=HB.out (at_+4 * k+3);obtain⟨v,d⟩:∃ v,wr.cell? ⟨w.heap.size+1+1+1,k,none⟩=some v:=by
    rw[h1.sch.cell];exact⟨_,List.getElem?_eq_getElem (by rw[u32s_length,List.length_append,first_length,List.length_replicate];omega)⟩
   have f:=h1.sch.frozen k;have H1:=hid h1;clear h1 hg
   go_wp2
   go_region
   go_wp2
   go_roundw
   case rel=>
    refine⟨k+1,by omega,by go_num,?_⟩;rw[be_int _ _ _ _ b0 b1 b2 b3];exact(H1.out.store k (word l at_ k) (by rw[show 64-k=(64- (k+1))+1 from by omega,first_set'])).drew
   case measure=>simp[intOf];omega
  ·obtain rfl:k=16:=by omega
   clear hk hlt;have H1:=hid h1;clear h1;rw[show((16:Nat):Int)=(16:Int) from rfl]
   go_wp2
   go_loopw [10] (λi wr=>∃ k:Nat,k≤48∧i= .int .i64 ((k+16:Nat):Int)∧Start w wr s (sch (first l at_ 16) k++List.replicate (48-k) 0)) (λi _=>64- (intOf i).toNat)
   case atStart=>exact⟨0,by omega,rfl,H1.out⟩
   case round=>
    clear H1;obtain⟨k,hk,rfl,h1⟩:=hrel
    by_cases hlt:k<48
    ·have W:=sch_words' l at_ HB.out k;have len:(sch (first l at_ 16) k).length=k+16:=by rw[sch_length,first_length];omega
     have c:∀ j,j<k+16→wr.cell? ⟨w.heap.size+1+1+1,j,none⟩=some (.int .u32 ((gt (sch (first l at_ 16) k) j:Nat):Int)):=λj hj=>by
      rw[h1.sch.cell,u32s_get _ _ (by simp[len];omega),gt_app_left (by omega)]
     have c2:=c (k+16-2) (by omega);have c7:=c (k+16-7) (by omega);have c15:=c (k+16-15) (by omega);have c16:=c (k+16-16) (by omega);obtain⟨v,d⟩:∃ v,wr.cell? ⟨w.heap.size+1+1+1,k+16,none⟩=some v:=by
      rw[h1.sch.cell];exact⟨_,List.getElem?_eq_getElem (by simp[u32s,len];omega)⟩
     have f:=h1.sch.frozen (k+16);have H1:=hid h1;have Hl:=hid len;clear h1 c len
     generalize hi:k+16=i at *
     have Hi:=hid hi;have i1:16≤i:=by omega
     have i2:i<64:=by omega
     clear hi;have W2:=W (i-2);have W15:=W (i-15)
     generalize hm:sch (first l at_ 16) k=m at *
     have Hm:=hid hm;clear hm;clear W;have b2:(2:Int)≤(i:Int):=by omega
     have b2':(i:Int) -2<64:=by omega
     have b7:(7:Int)≤(i:Int):=by omega
     have b7':(i:Int) -7<64:=by omega
     have b15:(15:Int)≤(i:Int):=by omega
     have b15':(i:Int) -15<64:=by omega
     have b16:(16:Int)≤(i:Int):=by omega
     have b16':(i:Int) -16<64:=by omega
     have b0:(i:Int)<64:=by omega
     go_wp2_with fail
     go_quiet (fail)
     go_wp2_with fail
     have c7':(wr.drewN nq).cell? ⟨w.heap.size+1+1+1,i-7,none⟩=_:=c7;have c16':(wr.drewN nq).cell? ⟨w.heap.size+1+1+1,i-16,none⟩=_:=c16;have d':(wr.drewN nq).cell? ⟨w.heap.size+1+1+1,i,none⟩=_:=d;have f':(wr.drewN nq).frozen? ⟨w.heap.size+1+1+1,i,none⟩=_:=f;have h1:=H1.out.drewN nq
     generalize (wr.drewN nq)=W1 at *
     have H1:=hid h1;clear h1 c2 c7 c15 c16 d f;refine wp_region_still_tail 29 (by kernel_rfl) (by kernel_rfl) ?_;simp only[List.take_succ_cons,List.take_zero,List.drop_succ_cons,List.drop_zero]
     repeat (refine wpStill_step (λK hK=>?_);go_simp;(try go_bits);refine hK _ ?_;clear hK K)
     (refine wpStill_step (λK hK=>?_);go_simp;(try go_bits);refine⟨_,(flip (rturn_i _ _ _ W15 (by decide) (by decide))),hK _ ?_⟩;clear hK K)
     repeat (refine wpStill_step (λK hK=>?_);go_simp;(try go_bits);refine hK _ ?_;clear hK K)
     (refine wpStill_step (λK hK=>?_);go_simp;(try go_bits);refine⟨_,(flip (rturn_i _ _ _ W15 (by decide) (by decide))),hK _ ?_⟩;clear hK K)
     repeat (refine wpStill_step (λK hK=>?_);go_simp;(try go_bits);refine hK _ ?_;clear hK K)
     (refine wpStill_step (λK hK=>?_);go_simp;(try go_bits);refine⟨_,(flip (rturn_i _ _ _ W2 (by decide) (by decide))),hK _ ?_⟩;clear hK K)
     repeat (refine wpStill_step (λK hK=>?_);go_simp;(try go_bits);refine hK _ ?_;clear hK K)
     (refine wpStill_step (λK hK=>?_);go_simp;(try go_bits);refine⟨_,(flip (rturn_i _ _ _ W2 (by decide) (by decide))),hK _ ?_⟩;clear hK K)
     repeat (refine wpStill_step (λK hK=>?_);go_simp;(try go_bits);refine hK _ ?_;clear hK K)
     refine wpStill_nil ?_
     go_wp2
     go_roundw
     case rel=>
      have hl:=Hl.out;have hi:=Hi.out;refine⟨k+1,by omega,?_,?_⟩
      ·rw[←hi];go_num
      ·rw[s0_int _ W15,s1_int _ W2,add4_int,add_rev];refine(H1.out.store i (nw m i) ?_).drew;have e:=set_next m (48- (k+1)) (nw m i);rw[hl] at e;rw[show 48-k=(48- (k+1))+1 from by omega,e,←Hm.out,←hi];rfl
     case measure=>simp[intOf];omega
    ·obtain rfl:k=48:=by omega
     clear hk hlt HC;have h2:Start w wr s (sched l at_):=by simpa [sched] using h1
     clear h1;have hwl:(sched l at_).length=64:=by rw[sched,sch_length,first_length]
     obtain⟨ws,hws⟩:∃ x,sched l at_=x:=⟨_,rfl⟩;rw[hws] at h2 hwl;have HWS:=hid hws;clear hws;have HWL:=hid hwl;have H1:=hid h2;clear h2 hwl;obtain⟨wz,rfl⟩:∃ x,x=wr:=⟨_,rfl⟩;have z1:(Tryz.prog.info? 110).map (·.size)=some (u32s s.list).length:=(show(Tryz.prog.info? 110).map (·.size)=some 8 by kernel_rfl);have Z1:=hid z1;clear z1
     go_wp2_with (first
      |((with_reducible refine load_blk 110 (.tmp 3) w.heap.size 110 (u32s s.list) _ rfl rfl ?_ Tryz.underlying110 rfl ?_ ?_ ?_);exact H1.out.st;exact Z1.out;exact rfl)
      |((with_reducible refine store_blk 110 (.tmp 13) (.tmp 109) wz.heap.size 110 (u32s [0,0,0,0,0,0,0,0]) (u32s s.list) rfl rfl ?_ ?_ ?_ ?_ ?_ ?_ ?_);exact Blk.new wz 110 _;exact rfl;exact Z1.out;exact u32s_one _;exact rfl;exact rfl))
     have g4:w.heap.size+4≤wz.heap.size:=H1.out.size
     go_loopw [14] (λi wx=>∃ k:Nat,k≤64∧i= .int .i64 k∧Start w wx s ws∧Blk wx wz.heap.size 110 (u32s (rounds s ws k).list)) (λi _=>64- (intOf i).toNat)
     case atStart=>exact⟨0,by omega,rfl,(H1.out.alloc _).setRow _ g4 _,(Blk.new wz 110 _).setRow _⟩
     case round=>
      clear H1;obtain⟨k,hk,rfl,h1,h2⟩:=hrel;have ok:=rounds_ok HS.out ws k
      by_cases hlt:k<64
      ·have i0:(k:Int)<64:=by omega
       have hr:rounds s ws (k+1)=rnd (rounds s ws k) (gt ks k) (gt ws k):=rfl;have HR:=hid hr;clear hr;obtain⟨r,hrs⟩:∃ x,rounds s ws k=x:=⟨_,rfl⟩;rw[hrs] at ok h2;have HR2:Hid (rounds s ws (k+1)=rnd r (gt ks k) (gt ws k)):=HR.out.trans (by rw[hrs]);clear hrs HR;obtain⟨a,b,c',d,e,f,g',h⟩:=r;obtain⟨oa,ob_,oc,od,oe,of_,og,oh⟩:=ok;simp only[] at oa ob_ oc od oe of_ og oh;obtain⟨c0, -, -, -,c4, -⟩:=h2.cells8;have H1:=hid h1;have H2:=hid h2;clear h1 h2;go_wp2_with fail
       go_quiet (fail)
       have h1:=H1.out.drewN nq;have h2:=H2.out.drewN nq;clear c0 c4 H1 H2;obtain⟨W1,hW⟩:∃ x,wr.drewN nq=x:=⟨_,rfl⟩;rw[hW] at h1 h2 ⊢;clear hW;obtain⟨-,c1,c2, -, -,c5,c6,c7⟩:=h2.cells8;obtain⟨cK,cW⟩:=h1.two HWL.out k hlt;have H1:=hid h1;have H2:=hid h2;clear h1 h2;go_wp2_with fail
       go_quiet ((go_at_call 92;exact Calls.quiet_of_same (flip (rturn_i _ _ _ oe (by decide) (by decide)))))
       have e0:(if IntKind.u32.signed=true then(-1:Int) else IntKind.u32.max)=4294967295:=by kernel_rfl
       simp only[e0,Int.emod_add_emod,B1_int e oe,ch_int e f g' oe of_ og,add5_int];clear e0;obtain⟨T,hT⟩:∃ x,t1 ⟨a,b,c',d,e,f,g',h⟩ (gt ks k) (gt ws k)=x:=⟨_,rfl⟩;have ht:add (add (add (add h (bS1 e)) (ch e f g')) (gt ks k)) (gt ws k)=T:=hT;rw[ht];have HTT:=hid hT;clear hT ht;have h1:=H1.out.drewN nq;have h2:=H2.out.drewN nq;clear c1 c2 c5 c6 c7 cK cW H1 H2;obtain⟨W2,hW⟩:∃ x,W1.drewN nq=x:=⟨_,rfl⟩;rw[hW] at h1 h2 ⊢;clear hW;obtain⟨-,c1,c2, -, -, -⟩:=h2.cells8;have H1:=hid h1;have H2:=hid h2;clear h1 h2;go_wp2_with fail
       go_quiet ((go_at_call 92;exact Calls.quiet_of_same (flip (rturn_i _ _ _ oa (by decide) (by decide)))))
       simp only[B0_int a oa,mj_int a b c' oa ob_ oc,add_int];obtain⟨T2,hT⟩:∃ x,t2 ⟨a,b,c',d,e,f,g',h⟩=x:=⟨_,rfl⟩;have ht:add (bS0 a) (mj a b c')=T2:=hT;rw[ht];have HTT2:=hid hT;clear hT ht;have h1:=H1.out.drewN nq;have h2:=H2.out.drewN nq;clear c1 c2 H1 H2;obtain⟨W3,hW⟩:∃ x,W2.drewN nq=x:=⟨_,rfl⟩;rw[hW] at h1 h2 ⊢;clear hW;obtain⟨-,c1,c2,c3, -,c5,c6, -⟩:=h2.cells8;have H1:=hid h1;have H2:=hid h2;clear h1 h2;have hL:[Value.int .u32 (((T:Int)+(T2:Int)) % 4294967296),Value.int .u32 (a:Int),Value.int .u32 (b:Int),Value.int .u32 (c':Int),Value.int .u32 (((d:Int)+(T:Int)) % 4294967296),Value.int .u32 (e:Int),Value.int .u32 (f:Int),Value.int .u32 (g':Int)]=u32s (S8.mk (add T T2) a b c' (add d T) e f g').list:=by
        simp only[add_int];rfl
       have HLL:=hid hL;clear hL;have z2:(Tryz.prog.info? 110).map (·.size)=some (u32s (S8.mk (add T T2) a b c' (add d T) e f g').list).length:=(show(Tryz.prog.info? 110).map (·.size)=some 8 by kernel_rfl);have Z2:=hid z2;clear z2
       go_wp2_with ((with_reducible refine store_blk 110 (.tmp 13) (.tmp 189) wz.heap.size 110 (u32s (S8.mk a b c' d e f g' h).list) (u32s (S8.mk (add T T2) a b c' (add d T) e f g').list) rfl rfl ?_ ?_ ?_ ?_ ?_ ?_ ?_);exact H2.out;exact rfl;exact Z2.out;exact u32s_one _;exact rfl;exact congrArg (λl=>Value.agg (List.toArray l)) HLL.out)
       go_roundw
       case rel=>
        refine⟨k+1,by omega,by go_num,H1.out.setRow _ g4 _,?_⟩;rw[HR2.out,rnd_eq HTT.out HTT2.out];exact H2.out.setRow _
       case measure=>simp[intOf];omega
      ·obtain rfl:k=64:=by omega
       clear hk hlt ok;have hcm:cmp s ws=s.plus (rounds s ws 64):=rfl;obtain⟨r,hrs⟩:∃ x,rounds s ws 64=x:=⟨_,rfl⟩;rw[hrs] at hcm h2;have HR:=hid hcm;clear hrs hcm;have h0:Blk wr w.heap.size 110 (u32s (mix s r 0)):=h1.st;have H0:=hid h0;have H3:=hid h1.res;have H4:=hid h1.below;have H2:=hid h2;clear h0 h1 h2;rw[show((64:Nat):Int)=(64:Int) from rfl];go_wp2_with fail
       go_loopw [19] (λi wx=>∃ j:Nat,j≤8∧i= .int .i64 j∧Blk wx w.heap.size 110 (u32s (mix s r j))∧Blk wx (w.heap.size+1) 110 (u32s [0,0,0,0,0,0,0,0])∧Blk wx wz.heap.size 110 (u32s r.list)∧Below w.heap.size w wx) (λi _=>8- (intOf i).toNat)
       case atStart=>exact⟨0,by omega,rfl,H0.out,H3.out,H2.out,H4.out⟩
       case round=>
        clear H0 H2 H3 H4;obtain⟨j,hj,rfl,h1,h2,h3,h4⟩:=hrel
        by_cases hlt:j<8
        ·have c1:=(h1.cell j).trans (u32s_get _ _ (by rw[mix_length _ _ _ hj];exact hlt));have c2:=(h3.cell j).trans (u32s_get _ _ (show j<8 from hlt));have f:=h1.frozen j;rw[mix_gt _ _ _ hlt] at c1;have i0:(j:Int)<8:=by omega
         have H1:=hid h1;have H2:=hid h2;have H3:=hid h3;have H4:=hid h4;clear h1 h2 h3 h4;go_wp2_with fail
         refine wp_region_still_tail 9 (by kernel_rfl) (by kernel_rfl) ?_;simp only[List.take_succ_cons,List.take_zero,List.drop_succ_cons,List.drop_zero]
         repeat (refine wpStill_step (λK hK=>?_);go_simp;(try go_bits);refine hK _ ?_;clear hK K)
         refine wpStill_nil ?_
         go_wp2
         go_roundw
         case rel=>
          refine⟨j+1,by omega,by go_num,?_,?_,?_,?_⟩
          ·rw[add_int,←mix_set s r j hlt,←u32s_set];exact(H1.out.store j _).drew
          ·exact(H2.out.far (by simp) _).drew
          ·exact(H3.out.far (by simp;omega) _).drew
          ·exact(H4.out.setCell (by simp) _).drew
         case measure=>simp[intOf];omega
        ·obtain rfl:j=8:=by omega
         clear hj hlt;have H1:=hid h1;have H2:=hid h2;have H4:=hid h4;clear h1 h2 h3 h4;have z3:(Tryz.prog.info? 110).map (·.size)=some (u32s (mix s r 8)).length:=(show(Tryz.prog.info? 110).map (·.size)=some 8 by kernel_rfl);have Z3:=hid z3;clear z3;rw[show((8:Nat):Int)=(8:Int) from rfl]
         go_wp2_with (first
          |((with_reducible refine load_blk 110 (.tmp 3) w.heap.size 110 (u32s (mix s r 8)) _ rfl rfl ?_ Tryz.underlying110 rfl ?_ ?_ ?_);exact H1.out;exact Z3.out;exact rfl)
          |((with_reducible refine store_blk 110 (.tmp 6) (.tmp 203) (w.heap.size+1) 110 (u32s [0,0,0,0,0,0,0,0]) (u32s (mix s r 8)) rfl rfl ?_ ?_ ?_ ?_ ?_ ?_ ?_);exact H2.out;exact rfl;exact Z3.out;exact u32s_one _;exact rfl;exact rfl))
         exact ret_blk (p:=6) (ty:=110) rfl rfl (w.heap.size+1) 110 _ _ rfl (H2.out.setRow _) Tryz.underlying110 rfl Z3.out ⟨by rw[HWS.out,HR.out];rfl,below_setRow H4.out (by omega) _⟩
end Go.Proofs.YtjlophplcmidlaaGreatDoor
