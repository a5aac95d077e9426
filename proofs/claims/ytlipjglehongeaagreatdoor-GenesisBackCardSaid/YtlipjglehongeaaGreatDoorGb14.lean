/-
  PACKAGE state
-/
import Derived.Test.YtlipjglehongeaaGreatDoorGb13
import Derived.Test.YtlipjglehongeaaGreatDoorGb9
open Go.Lib (hid)
set_option maxRecDepth 100000
namespace Go.Proofs.YtlipjglehongeaaGreatDoor
open Go Go.RowKit Sh
structure QS (w0 w2 W:World) (x:Spv) (l:List Nat):Prop where
 wr:Wr W (λk=>w2.heap.size≤k) w2.heap.size l
 box:Blk W w0.heap.size 46 (sv x)
 lo:w0.heap.size<w2.heap.size
 r2:SpW w2 x
 bel:Below w0.heap.size w0 w2
 b2:Below w2.heap.size w2 W
section
variable {w0 w2 W W' : World} {x : Spv} {l l' : List Nat}
theorem QS.step (h:QS w0 w2 W x l) (hw:Wr W' (λk=>w2.heap.size≤k) w2.heap.size l') (hb:Below w2.heap.size W W'):QS w0 w2 W' x l':=
 ⟨hw,h.box.below hb h.lo,h.lo,h.r2,h.bel,h.b2.trans hb⟩
theorem QS.below (h:QS w0 w2 W x l) (hb:Below W.heap.size W W'):QS w0 w2 W' x l:=h.step (h.wr.below hb) (hb.mono h.b2.size)
theorem QS.rx (h:QS w0 w2 W x l):SpW W x:=h.r2.below h.b2
theorem QS.more {W1:World} (h:QS w0 w2 W x l) (hb:Below W.heap.size W W1) (y:Wr W' (More W1 W' (λk=>w2.heap.size≤k)) w2.heap.size l') (k:Kept (λk=>w2.heap.size≤k) W1 W'):QS w0 w2 W' x l':=by
 have g:=h.below hb;refine g.step (y.mono λi hi=>?_) (k.to_below g.b2.size);rcases hi with e |e
 ·exact e
 ·have:=g.b2.size;omega
end
theorem flat_le {α:Type} {f:α→List Nat} {c:Nat} :∀ {l:List α},(∀ a∈l,(f a).length≤c)→(l.flatMap f).length≤c * l.length
 |[],_=>by simp
 |a::l,h=>by
  have h1:=h a List.mem_cons_self;have h2:=flat_le (l:=l) (λz hz=>h z (List.mem_cons_of_mem _ hz));rw[List.flatMap_cons,List.length_append,List.length_cons,Nat.mul_add];omega
theorem take_snocS {α:Type} {l:List α} {j:Nat} {y:α} (h:l[j]? =some y):l.take (j+1)=l.take j++[y]:=by rw[List.take_add_one,h];rfl
theorem flat_snoc {α β:Type} {f:α→List β} {l:List α} {j:Nat} {y:α} (h:l[j]? =some y):(l.take (j+1)).flatMap f=(l.take j).flatMap f++f y:=by
 rw[take_snocS h,List.flatMap_append,List.flatMap_singleton]
set_option maxHeartbeats 2000000 in
theorem SPut_yes (x:Spv) (w:World) (hx:SpW w x) (hm:spMay x.sp=true):
  Calls Tryz.prog 118 #[.agg (sv x).toArray] w λe w'=>∃ u,e= .returned (.tuple #[u,.int .i64 0])∧w'.ownsRow w.heap.size 5 1 u (putS x.sp).length (u8s (putS x.sp))∧Below w.heap.size w w':=by
 have B0:=hid (Blk.new w 46 (sv x));have BW:=hid ((Below.refl w.heap.size w).alloc (Nat.le_refl _) (.cells (sv x).toArray 46));have FX:=hid (sv_size x hx.l4);have MR:=hid (SpMay_t x _ (hx.below BW.out));have HX:=hid hx;have m:=spMay_w hm;obtain⟨a,ha⟩:∃ a:Nat,x.now=(a:Int):=⟨x.now.toNat,by have:0≤x.now:=m.n0;omega⟩;obtain⟨b,hb⟩:∃ a:Nat,x.rd=(a:Int):=⟨x.rd.toNat,by have:0≤x.rd:=m.r0;omega⟩;obtain⟨k,hk⟩:∃ a:Nat,x.wr=(a:Int):=⟨x.wr.toNat,by have:0≤x.wr:=m.w0;omega⟩;obtain⟨n,hn⟩:∃ n,x.its.length=n:=⟨_,rfl⟩;obtain⟨m',hm'⟩:∃ n,x.wts.length=n:=⟨_,rfl⟩;have a9:a≤1099511627776:=by have:x.now≤1099511627776:=m.n1;omega
 have b9:b≤15:=by have:x.rd≤15:=m.r1;omega
 have k9:k≤15:=by have:x.wr≤15:=m.w1;omega
 have n9:n≤64:=by have h:=m.il;rw[show x.sp.its.length=x.its.length from List.length_map _] at h;omega
 have m9:m'≤16:=by have h:=m.wl;rw[show x.sp.wts.length=x.wts.length from List.length_map _] at h;omega
 have IH:=hid (λ(y:Itv) (hy:y∈x.its)=>itB_h9 (m.it y.i (List.mem_map_of_mem hy)) m.n0);have IL:=hid (λ(y:Itv) (hy:y∈x.its)=>putI_length (m.it y.i (List.mem_map_of_mem hy)) m.n0);have WH:=hid (λ(y:Wtv) (hy:y∈x.wts)=>wtB_h9 (m.wt y.x (List.mem_map_of_mem hy)));have WL:=hid (λ(y:Wtv) (hy:y∈x.wts)=>putW_length (m.wt y.x (List.mem_map_of_mem hy)));have RB_:=hid (show ∀ y∈x.last,rpB y.r=true from by
  obtain⟨r1,r2,r3,r4,L⟩:=las_h (by rw[show x.sp.last.length=x.last.length from List.length_map _];exact hx.l4) m.la;intro y hy;have h:y.r∈x.sp.last:=List.mem_map_of_mem hy;rw[L.e] at h;simp only[List.mem_cons,List.not_mem_nil,or_false] at h;rcases h with h |h |h |h<;>rw[h]
  ·exact L.ar
  ·exact L.br
  ·exact L.cr
  ·exact L.dr)
 have RH:=hid (λ(y:Rpv) (hy:y∈x.last)=>rpB_h (RB_.out y hy));have RL:=hid (λ(y:Rpv) (hy:y∈x.last)=>putL_length (RB_.out y hy));have E:=hid (show putS x.sp=(((((beN a 8++beN b 1)++beN k 1)++beN n 1)++x.its.flatMap (λy=>putI y.i))++beN m' 1++x.wts.flatMap (λy=>putW y.x))++x.last.flatMap (λy=>putL y.r) from by
  unfold putS Spv.sp
  dsimp only
  rw[ha,hb,hk,List.length_map,List.length_map,hn,hm',List.flatMap_map,List.flatMap_map,List.flatMap_map];simp only[Int.toNat_natCast,List.append_assoc])
 obtain⟨xs,hxs⟩:∃ l,putS x.sp=l:=⟨_,rfl⟩;rw[hxs] at E ⊢;rw[hm] at MR;have RC:=hid (λ(W:World) (hb:Blk W w.heap.size 46 (sv x))=>sv_cells hb);rw[ha,hb,hk,hn,hm'] at RC;have i1:IntKind.u64.wrap (a:Int)=(a:Int):=IntWalk.u64_in _ (by omega);have i2:IntKind.u64.wrap (b:Int)=(b:Int):=IntWalk.u64_in _ (by omega);have i3:IntKind.u64.wrap (k:Int)=(k:Int):=IntWalk.u64_in _ (by omega);have i4:IntKind.u64.wrap (n:Int)=(n:Int):=IntWalk.u64_in _ (by omega);have i5:IntKind.u64.wrap (m':Int)=(m':Int):=IntWalk.u64_in _ (by omega);have HN:=hid hn;have HM:=hid hm';clear hx hm m ha hb hk hn hm' hxs RB_
 go_enter Tryz.func118,Tryz.ntmps118
 go_wp2_with ((with_reducible refine load_blk 46 (.tmp 1) w.heap.size 46 (sv x) _ rfl rfl ?_ Tryz.underlying46 ?_ ?_ ?_ ?_);exact B0.out;exact rfl;exact FX.out;exact rfl)
 refine MR.out.mono ?_
 rintro e w2 ⟨rfl,b2⟩
 have P0:=hid (show QS w w2 (w2.alloc (.cells #[.pointer none,.int .i64 0] 123)) x [] from by
  have bz:Below w2.heap.size w2 (w2.alloc (.cells #[.pointer none,.int .i64 0] 123)):=(Below.refl w2.heap.size w2).alloc (Nat.le_refl _) _;have bw:Below w.heap.size w w2:=BW.out.trans (b2.mono BW.out.size);have b0:=B0.out.below b2 B0.out.lt;exact⟨Wr.new,b0.below bz b0.lt,b0.lt,HX.out.below bw,bw,bz⟩)
 go_upto_region 4 with(fail)
 refine world_at (λY=>QS w w2 Y x []) P0.out ?_
 rintro Y py
 have PY:=hid py;clear py P0 b2 B0 BW MR;obtain⟨c0,_,_,_,_⟩:=RC.out _ PY.out.box;go_wp2_with fail
 refine(num_s a 8 PY.out.wr (Below.refl _ _) PY.out.b2.size (by omega) (by decide) (by decide) (by simp)).mono ?_
 rintro e w3 ⟨rfl,x2,b2⟩
 have P3:=hid (PY.out.step x2 b2);clear x2 b2 PY;rw[List.nil_append] at P3;clear c0;obtain⟨_,_,_,c3,_⟩:=RC.out _ P3.out.box;go_wp2_with fail
 refine(num_s b 1 P3.out.wr (Below.refl _ _) P3.out.b2.size (by omega) (by decide) (by decide) (by rw[beN_length];omega)).mono ?_
 rintro e w4 ⟨rfl,x2,b2⟩
 have P4:=hid (P3.out.step x2 b2);clear x2 b2 P3;clear c3;obtain⟨_,_,_,_,c4⟩:=RC.out _ P4.out.box;go_wp2_with fail
 refine(num_s k 1 P4.out.wr (Below.refl _ _) P4.out.b2.size (by omega) (by decide) (by decide) (by simp only[List.length_append,beN_length];omega)).mono ?_
 rintro e w5 ⟨rfl,x2,b2⟩
 have P5:=hid (P4.out.step x2 b2);clear x2 b2 P4;clear c4;obtain⟨_,c1,_,_,_⟩:=RC.out _ P5.out.box;go_wp2_with fail
 refine(num_s n 1 P5.out.wr (Below.refl _ _) P5.out.b2.size (by omega) (by decide) (by decide) (by simp only[List.length_append,beN_length];omega)).mono ?_
 rintro e w6 ⟨rfl,x2,b2⟩
 have P6:=hid (P5.out.step x2 b2);clear x2 b2 P5;clear c1;obtain⟨_,c1,_,_,_⟩:=RC.out _ P6.out.box;obtain⟨ip,hip⟩:∃ p,x.ip=p:=⟨_,rfl⟩;rw[hip] at c1;have HIP:=hid hip;clear hip i1 i2 i3 i4;obtain⟨pre,hpre⟩:∃ l,((beN a 8++beN b 1)++beN k 1)++beN n 1=l:=⟨_,rfl⟩;have LP:=hid (show pre.length=11 from by rw[←hpre];simp only[List.length_append,beN_length]);rw[hpre] at P6 E;clear hpre
 go_upto_region 9 with(fail)
 clear c1
 go_loopw [34] (λt wr=>∃ j:Nat,j≤n∧t= .int .i64 (j:Int)∧QS w w2 wr x (pre++(x.its.take j).flatMap (λy=>putI y.i))) (λt _=>n- (intOf t).toNat)
 case atStart=>exact⟨0,by omega,rfl,by rw[List.take_zero,List.flatMap_nil,List.append_nil];exact P6.out⟩
 case round=>
  clear P6;obtain⟨j,hj,rfl,pj⟩:=hrel;have PJ:=hid pj;clear pj;have LJ:=hid (show(pre++(x.its.take j).flatMap (λy=>putI y.i)).length≤11+284 * 64 from by
   have h1:=flat_le (l:=x.its.take j) (f:=λy=>putI y.i) (c:=284) (λy hy=>IL.out y (List.mem_of_mem_take hy));have h2:(x.its.take j).length≤64:=by rw[List.length_take];omega
   have h3:284 * (x.its.take j).length≤284 * 64:=Nat.mul_le_mul_left _ h2;rw[List.length_append,LP.out];omega)
  by_cases hlt:j<n
  ·obtain⟨y,hy⟩:∃ y,x.its[j]? =some y:=⟨_,List.getElem?_eq_getElem (by rw[HN.out];exact hlt)⟩;obtain⟨bq,o,hpe,hbl,rg⟩:=PJ.out.rx.its j y hy;obtain rfl:ip=some ⟨bq,o,none⟩:=HIP.out.symm.trans hpe;have RG:=hid rg;have FS:=hid (iv_size y);have F1:=hid (iv_oneA y);have j1:(j:Int)< (n:Int):=by omega
   have A0:=hid (Blk.new wr 106 [.int .i64 0,.int .i64 0,.slice none 0 0]);have A1:=hid (A0.out.setRow (iv y));have WB:=hid (below_setRow ((Below.refl wr.heap.size wr).alloc (Nat.le_refl _) (.cells #[.int .i64 0,.int .i64 0,.slice none 0 0] 106)) (Nat.le_refl _) (iv y).toArray);have HY:=hid hy;have HLT:=hid hlt;clear hy rg hbl hlt hpe
   go_upto_region 11 with(first
    |((with_reducible refine at_op (.load 106 (.tmp 36)) rfl ?_);go_must (refine wpList_load_mid rfl 106 (.tmp 36) rfl bq (o+j * 3) rfl (iv y) _ RG.out Tryz.underlying106 rfl FS.out ?_))
    |((with_reducible refine store_blk 106 (.tmp 6) (.tmp 37) wr.heap.size 106 [.int .i64 0,.int .i64 0,.slice none 0 0] (iv y) rfl rfl ?_ ?_ ?_ ?_ ?_ ?_ ?_);exact A0.out;exact rfl;exact FS.out;exact F1.out;exact rfl;exact rfl))
   obtain⟨V,hV⟩:∃ V,(wr.alloc (.cells #[.int .i64 0,.int .i64 0,.slice none 0 0] 106)).setRow wr.heap.size (iv y).toArray=V:=⟨_,rfl⟩;rw[hV] at A1 WB ⊢;have HM9:=hid (List.mem_of_getElem? HY.out);have WI_:=hid (witem_t w2 _ w2.heap.size _ y V (PJ.out.below WB.out).wr (λk hk=>hk) (PJ.out.below WB.out).b2 (PJ.out.r2.it y HM9.out) (IH.out y HM9.out) (by have:=LJ.out;omega));clear hV A0 RG
   go_wp2_with ((with_reducible refine load_blk 106 (.tmp 6) wr.heap.size 106 (iv y) _ rfl rfl ?_ Tryz.underlying106 ?_ ?_ ?_ ?_);exact A1.out;exact rfl;exact FS.out;exact rfl)
   refine WI_.out.mono ?_
   rintro e w7 ⟨rfl,x7,k7⟩
   have P7:=hid (PJ.out.more WB.out x7 k7);clear x7 k7 WI_ A1 WB PJ;go_wp2_with fail
   go_roundw
   case rel=>exact⟨j+1,HLT.out,by go_num,by rw[flat_snoc HY.out,←List.append_assoc];exact P7.out⟩
   case measure=>have:=HLT.out;simp[intOf];omega
  ·obtain rfl:j=n:=by omega
   clear hlt;rw[List.take_of_length_le (by rw[HN.out];exact Nat.le_refl _)] at PJ LJ;obtain⟨_,_,c2,_,_⟩:=RC.out _ PJ.out.box;go_wp2_with fail
   refine(num_s m' 1 PJ.out.wr (Below.refl _ _) PJ.out.b2.size (by omega) (by decide) (by decide) (by have:=LJ.out;omega)).mono ?_
   rintro e w8 ⟨rfl,x2,b2⟩
   have P8:=hid (PJ.out.step x2 b2);clear x2 b2 PJ;clear c2;obtain⟨_,_,c2,_,_⟩:=RC.out _ P8.out.box;obtain⟨wp,hwp⟩:∃ p,x.wp=p:=⟨_,rfl⟩;rw[hwp] at c2;have HWP:=hid hwp;obtain⟨pre2,hpre⟩:∃ l,(pre++x.its.flatMap (λy=>putI y.i))++beN m' 1=l:=⟨_,rfl⟩;have LP2:=hid (show pre2.length≤12+284 * 64 from by rw[←hpre,List.length_append,beN_length];have:=LJ.out;omega);rw[hpre] at P8 E;clear hpre hwp i5 LJ LP HIP
   go_upto_region 15 with(fail)
   clear c2
   go_loopw [49] (λt wr=>∃ j:Nat,j≤m'∧t= .int .i64 (j:Int)∧QS w w2 wr x (pre2++(x.wts.take j).flatMap (λy=>putW y.x))) (λt _=>m'- (intOf t).toNat)
   case atStart=>exact⟨0,by omega,rfl,by rw[List.take_zero,List.flatMap_nil,List.append_nil];exact P8.out⟩
   case round=>
    clear P8;obtain⟨i,hi,rfl,pj⟩:=hrel;have PJ:=hid pj;clear pj;have LJ:=hid (show(pre2++(x.wts.take i).flatMap (λy=>putW y.x)).length≤12+284 * 64+284 * 16 from by
     have h1:=flat_le (l:=x.wts.take i) (f:=λy=>putW y.x) (c:=284) (λy hy=>WL.out y (List.mem_of_mem_take hy));have h2:(x.wts.take i).length≤16:=by rw[List.length_take];omega
     have h3:284 * (x.wts.take i).length≤284 * 16:=Nat.mul_le_mul_left _ h2;have:=LP2.out;rw[List.length_append];omega)
    by_cases hlt:i<m'
    ·obtain⟨y,hy⟩:∃ y,x.wts[i]? =some y:=⟨_,List.getElem?_eq_getElem (by rw[HM.out];exact hlt)⟩;obtain⟨bq,o,hpe,hbl,rg⟩:=PJ.out.rx.wts i y hy;obtain rfl:wp=some ⟨bq,o,none⟩:=HWP.out.symm.trans hpe;have RG:=hid rg;have FS:=hid (wv_size y);have F1:=hid (wv_oneA y);have j1:(i:Int)< (m':Int):=by omega
     have A0:=hid (Blk.new wr 109 [.int .i64 0,.int .i64 0,.bool false,.slice none 0 0]);have A1:=hid (A0.out.setRow (wv y));have WB:=hid (below_setRow ((Below.refl wr.heap.size wr).alloc (Nat.le_refl _) (.cells #[.int .i64 0,.int .i64 0,.bool false,.slice none 0 0] 109)) (Nat.le_refl _) (wv y).toArray);have HY:=hid hy;have HLT:=hid hlt;clear hy rg hbl hlt hpe
     go_upto_region 17 with(first
      |((with_reducible refine at_op (.load 109 (.tmp 51)) rfl ?_);go_must (refine wpList_load_mid rfl 109 (.tmp 51) rfl bq (o+i * 4) rfl (wv y) _ RG.out Tryz.underlying109 rfl FS.out ?_))
      |((with_reducible refine store_blk 109 (.tmp 8) (.tmp 52) wr.heap.size 109 [.int .i64 0,.int .i64 0,.bool false,.slice none 0 0] (wv y) rfl rfl ?_ ?_ ?_ ?_ ?_ ?_ ?_);exact A0.out;exact rfl;exact FS.out;exact F1.out;exact rfl;exact rfl))
     obtain⟨V,hV⟩:∃ V,(wr.alloc (.cells #[.int .i64 0,.int .i64 0,.bool false,.slice none 0 0] 109)).setRow wr.heap.size (wv y).toArray=V:=⟨_,rfl⟩;rw[hV] at A1 WB ⊢;have HM9:=hid (List.mem_of_getElem? HY.out);have WI_:=hid (wwait_t w2 _ w2.heap.size _ y V (PJ.out.below WB.out).wr (λk hk=>hk) (PJ.out.below WB.out).b2 (PJ.out.r2.wt y HM9.out) (WH.out y HM9.out) (by have:=LJ.out;omega));clear hV A0 RG
     go_wp2_with ((with_reducible refine load_blk 109 (.tmp 8) wr.heap.size 109 (wv y) _ rfl rfl ?_ Tryz.underlying109 ?_ ?_ ?_ ?_);exact A1.out;exact rfl;exact FS.out;exact rfl)
     refine WI_.out.mono ?_
     rintro e w9 ⟨rfl,x9,k9⟩
     have P9:=hid (PJ.out.more WB.out x9 k9);clear x9 k9 WI_ A1 WB PJ;go_wp2_with fail
     go_roundw
     case rel=>exact⟨i+1,HLT.out,by go_num,by rw[flat_snoc HY.out,←List.append_assoc];exact P9.out⟩
     case measure=>have:=HLT.out;simp[intOf];omega
    ·obtain rfl:i=m':=by omega
     clear hlt;rw[List.take_of_length_le (by rw[HM.out];exact Nat.le_refl _)] at PJ LJ;have PB:=hid (show wr.rangeAt w.heap.size 5 (x.last.flatMap pv) from λq v hv=>by
      show wr.cell? ⟨w.heap.size,5+q,none⟩=some v
      rw[PJ.out.box.cell];unfold sv;rw[List.getElem?_append_right (by simp),←hv]
      congr 1
      simp)
     have PS:=hid (pvs_size x.last HX.out.l4);have IX:=hid (λj y hy k W=>index_pv x.last HX.out.l4 j y hy k W);obtain⟨cs,hcs⟩:∃ cs,x.last.flatMap pv=cs:=⟨_,rfl⟩;rw[hcs] at PB PS IX;obtain⟨pre3,hpre⟩:∃ l,pre2++x.wts.flatMap (λy=>putW y.x)=l:=⟨_,rfl⟩;rw[hpre] at PJ LJ E;clear hpre hcs HWP LP2
     go_upto_region 20 with((with_reducible refine at_op (.load 44 (.tmp 56)) rfl ?_);go_must (refine wpList_load_mid rfl 44 (.tmp 56) rfl w.heap.size 5 rfl cs _ PB.out Tryz.underlying44 rfl PS.out ?_))
     clear PB PS
     go_loopw [58] (λt wr=>∃ j:Nat,j≤4∧t= .int .i64 (j:Int)∧QS w w2 wr x (pre3++(x.last.take j).flatMap (λy=>putL y.r))) (λt _=>4- (intOf t).toNat)
     case atStart=>exact⟨0,by omega,rfl,by rw[List.take_zero,List.flatMap_nil,List.append_nil];exact PJ.out⟩
     case round=>
      clear PJ;obtain⟨j,hj,rfl,pj⟩:=hrel;have PJ:=hid pj;clear pj;have LK:=hid (show(pre3++(x.last.take j).flatMap (λy=>putL y.r)).length≤30000 from by
       have h1:=flat_le (l:=x.last.take j) (f:=λy=>putL y.r) (c:=284) (λy hy=>RL.out y (List.mem_of_mem_take hy));have h2:(x.last.take j).length≤4:=by rw[List.length_take];omega
       have h3:284 * (x.last.take j).length≤284 * 4:=Nat.mul_le_mul_left _ h2;have:=LJ.out;rw[List.length_append];omega)
      by_cases hlt:j<4
      ·obtain⟨y,hy⟩:∃ y,x.last[j]? =some y:=⟨_,List.getElem?_eq_getElem (by rw[HX.out.l4];exact hlt)⟩;have ix:=λW=>IX.out j y hy .i64 W
       have FS:=hid (pv_size y);have F1:=hid (pv_oneA y);have j1:(j:Int)<4:=by omega
       have A0:=hid (Blk.new wr 43 [.int .i64 0,.int .i64 0,.int .i64 0,.slice none 0 0,.bool false]);have A1:=hid (A0.out.setRow (pv y));have WB:=hid (below_setRow ((Below.refl wr.heap.size wr).alloc (Nat.le_refl _) (.cells #[.int .i64 0,.int .i64 0,.int .i64 0,.slice none 0 0,.bool false] 43)) (Nat.le_refl _) (pv y).toArray);have HY:=hid hy;have HLT:=hid hlt;clear hy hlt
       go_upto_region 22 with(((with_reducible refine store_blk 43 (.tmp 10) (.tmp 60) wr.heap.size 43 [.int .i64 0,.int .i64 0,.int .i64 0,.slice none 0 0,.bool false] (pv y) rfl rfl ?_ ?_ ?_ ?_ ?_ ?_ ?_);exact A0.out;exact rfl;exact FS.out;exact F1.out;exact rfl;exact rfl))
       obtain⟨V,hV⟩:∃ V,(wr.alloc (.cells #[.int .i64 0,.int .i64 0,.int .i64 0,.slice none 0 0,.bool false] 43)).setRow wr.heap.size (pv y).toArray=V:=⟨_,rfl⟩;rw[hV] at A1 WB ⊢;have HM9:=hid (List.mem_of_getElem? HY.out);have WI_:=hid (wrep_t w2 _ w2.heap.size _ y V (PJ.out.below WB.out).wr (λk hk=>hk) (PJ.out.below WB.out).b2 (PJ.out.r2.la y HM9.out) (RH.out y HM9.out) (by have:=LK.out;omega));clear hV A0 ix
       go_wp2_with ((with_reducible refine load_blk 43 (.tmp 10) wr.heap.size 43 (pv y) _ rfl rfl ?_ Tryz.underlying43 ?_ ?_ ?_ ?_);exact A1.out;exact rfl;exact FS.out;exact rfl)
       refine WI_.out.mono ?_
       rintro e w9 ⟨rfl,x9,k9⟩
       have P9:=hid (PJ.out.more WB.out x9 k9);clear x9 k9 WI_ A1 WB PJ;go_wp2_with fail
       go_roundw
       case rel=>exact⟨j+1,HLT.out,by go_num,by rw[flat_snoc HY.out,←List.append_assoc];exact P9.out⟩
       case measure=>have:=HLT.out;simp[intOf];omega
      ·obtain rfl:j=4:=by omega
       clear hlt;rw[List.take_of_length_le (by rw[HX.out.l4];exact Nat.le_refl _),←E.out] at PJ LK;have WT:=hid (wbytes_t _ w2.heap.size xs wr PJ.out.wr (by have:=LK.out;omega));go_wp2_with fail
       refine WT.out.mono ?_
       rintro e w9 ⟨u,rfl,o9,b9⟩
       have O9:=hid (own_base o9 (λk hk=>Nat.le_trans (Nat.le_trans PJ.out.bel.size PJ.out.b2.size) (o9.lt k hk).1));have B9:=hid ((PJ.out.bel.trans (PJ.out.b2.mono PJ.out.bel.size)).trans (b9.mono (Nat.le_trans PJ.out.bel.size PJ.out.b2.size)));clear o9 b9 WT;go_wp2_with fail
       go_ret2;exact⟨u,rfl,O9.out,B9.out⟩
end Go.Proofs.YtlipjglehongeaaGreatDoor
