/-
  THE REFERENCE
-/
import Derived.Test.YtlipjglehongeaaGreatDoorGb46
import Derived.Test.YtlipjglehongeaaGreatDoorTk
open Go.Lib (hid)
set_option maxRecDepth 100000
namespace Go.Proofs.YtlipjglehongeaaGreatDoor
open Go Go.RowKit Sh
variable {E : Nat → Prop}
def zSpK:List Value:=[.int .i64 0,.slice none 0 0,.slice none 0 0,.int .i64 0,.int .i64 0,.int .i64 0,.int .i64 0,.int .i64 0,.slice none 0 0,.bool false,.int .i64 0,.int .i64 0,.int .i64 0,.slice none 0 0,.bool false,.int .i64 0,.int .i64 0,.int .i64 0,.slice none 0 0,.bool false,.int .i64 0,.int .i64 0,.int .i64 0,.slice none 0 0,.bool false]
theorem zSp_slice {i:Nat} {p:Option Addr} {n c:Nat} (h:zSpK[i]? =some (.slice p n c)):n=0:=by
 have hi:i<25:=(List.getElem?_eq_some_iff.1 h).1;rcases(show i=0∨i=1∨i=2∨i=3∨i=4∨i=5∨i=6∨i=7∨i=8∨i=9∨i=10∨i=11∨i=12∨i=13∨i=14∨i=15∨i=16∨i=17∨i=18∨i=19∨i=20∨i=21∨i=22∨i=23∨i=24 by omega) with e |e |e |e |e |e |e |e |e |e |e |e |e |e |e |e |e |e |e |e |e |e |e |e |e<;>subst e<;>injection h with h<;>first |(injection h with _ h _;exact h.symm) |(cases h)
theorem zSp_str {i:Nat} {s:ByteArray} (h:zSpK[i]? =some (.string s)):False:=by
 have hi:i<25:=(List.getElem?_eq_some_iff.1 h).1;rcases(show i=0∨i=1∨i=2∨i=3∨i=4∨i=5∨i=6∨i=7∨i=8∨i=9∨i=10∨i=11∨i=12∨i=13∨i=14∨i=15∨i=16∨i=17∨i=18∨i=19∨i=20∨i=21∨i=22∨i=23∨i=24 by omega) with e |e |e |e |e |e |e |e |e |e |e |e |e |e |e |e |e |e |e |e |e |e |e |e |e<;>subst e<;>injection h with h<;>cases h
theorem TR.offZ {W:World} {b:Nat} {p:Option Addr} {t:List Fld} (h:TR W p t) (hb:Blk W b 46 zSpK):OffT (λk=>k=b) p t:=λhne k hk e=>by
 obtain⟨f,t',rfl⟩:∃ f t',t=f::t':=by cases t with |nil=>exact absurd rfl hne |cons f t'=>exact⟨f,t',rfl⟩
 obtain⟨b',o,hp,_,r⟩:=rw_row.1 h.t 0 f rfl;obtain⟨a,ha,rfl⟩:=hk;rw[ha] at hp
 injection hp with hp
 subst hp
 dsimp only at e
 subst e;have h2:=r 2 _ rfl;rw[hb.cell] at h2;exact zSp_str h2
theorem SpW.offZ {W:World} {b:Nat} {x:Spv} (h:SpW W x) (hb:Blk W b 46 zSpK) (hm:MayS x.sp):OffS (λk=>k=b) x:=by
 refine⟨λhne k hk e=>?_,λy hy=>(h.it y hy).offZ hb,λhne k hk e=>?_,λy hy=>(h.wt y hy).offZ hb,λy hy=>(h.la y hy).offZ hb⟩
 ·obtain⟨b',o,hp,_,r⟩:=h.its.at (List.length_pos_iff.2 hne);obtain⟨a,ha,rfl⟩:=hk;rw[ha] at hp
  injection hp with hp
  subst hp
  dsimp only at e
  subst e;have h2:=r 2 _ rfl;rw[hb.cell] at h2;have h3:=zSp_slice h2;have h4:=hm.it (x.its[0]'(List.length_pos_iff.2 hne)).i (List.mem_map_of_mem (List.getElem_mem _));unfold itB vT mayV fewN at h4;rw[h3] at h4;simp at h4
 ·obtain⟨b',o,hp,_,r⟩:=h.wts.at (List.length_pos_iff.2 hne);obtain⟨a,ha,rfl⟩:=hk;rw[ha] at hp
  injection hp with hp
  subst hp
  dsimp only at e
  subst e;have h2:=r 3 _ rfl;rw[hb.cell] at h2;have h3:=zSp_slice h2;have h4:=hm.wt (x.wts[0]'(List.length_pos_iff.2 hne)).x (List.mem_map_of_mem (List.getElem_mem _));unfold wtB pT mayP fewN at h4;rw[h3] at h4;simp at h4
def zG:List Value:=[.int .i64 0,.slice none 0 0,.slice none 0 0,.int .i64 0,.int .i64 0,.int .i64 0,.int .i64 0,.int .i64 0,.slice none 0 0,.bool false,.int .i64 0,.int .i64 0,.int .i64 0,.slice none 0 0,.bool false,.int .i64 0,.int .i64 0,.int .i64 0,.slice none 0 0,.bool false,.int .i64 0,.int .i64 0,.int .i64 0,.slice none 0 0,.bool false,.slice none 0 0]
theorem built_G (x:Spv) (h:x.last.length=4):List.foldl (λ(cs:Array Value) (x:Value×Nat)=>cs.setIfInBounds x.snd x.fst) zG.toArray (sv x).zipIdx=(gB x none 0 0).toArray:=by
 obtain⟨now,its,ip,ic,wts,wp,wc,rd,wr,last⟩:=x;obtain⟨a,b,c,d,rfl⟩:=list4 h
 kernel_rfl
structure GD (w0 W:World) (now:Int) (x:Spv) (j:Nat) (L:List Itv) (lv:Value):Prop where
 lo:W.ownsRow w0.heap.size 106 3 lv L.length (L.flatMap iv)
 lm:∀ y∈L,y∈x.its
 ll:L.length≤j
 le:L.map (·.i)=((x.its.take j).map (·.i)).filter (λi=> !gone now i)
 bel:Below w0.heap.size w0 W
theorem GD.below {w0 W W':World} {now:Int} {x:Spv} {j:Nat} {L:List Itv} {lv:Value} (h:GD w0 W now x j L lv) (hb:Below W.heap.size W W'):GD w0 W' now x j L lv:=⟨own_below h.lo hb,h.lm,h.ll,h.le,h.bel.trans (hb.mono h.bel.size)⟩
theorem GD.skip {w0 W:World} {now:Int} {x:Spv} {j:Nat} {L:List Itv} {lv:Value} {y:Itv} (h:GD w0 W now x j L lv) (hy:x.its[j]? =some y) (hg:gone now y.i=true):GD w0 W now x (j+1) L lv:=
 ⟨h.lo,h.lm,Nat.le_succ_of_le h.ll,by rw[take_snoc hy,List.map_append,List.filter_append,←h.le];simp[hg],h.bel⟩
theorem GD.more {w0 W W':World} {now:Int} {x:Spv} {j:Nat} {L:List Itv} {lv lv':Value} {y:Itv} (h:GD w0 W now x j L lv) (hy:x.its[j]? =some y) (hg:gone now y.i=false)
  (ho:W'.ownsRow w0.heap.size 106 3 lv' (L.length+1) (L.flatMap iv++[y].flatMap iv)) (hr:W.grownBy W' lv.ownBlock):GD w0 W' now x (j+1) (L++[y]) lv':=by
 refine⟨by rw[List.length_append,List.flatMap_append];exact ho,λz hz=>?_,by rw[List.length_append];exact Nat.succ_le_succ h.ll,?_,h.bel.grown hr h.bel.size (λk e=>(h.lo.lt k e).1)⟩
 ·rcases List.mem_append.1 hz with hz |hz
  ·exact h.lm z hz
  ·rw[List.mem_singleton.1 hz];exact List.mem_of_getElem? hy
 ·rw[List.map_append,take_snoc hy,List.map_append,List.filter_append,←h.le];simp[hg]
theorem noGF {gg b:Nat} (h:b≠gg):¬ GFr gg none b:=λe=>by
 rcases e with e |e
 ·exact h e
 ·obtain⟨a,ha,_⟩:=e
  cases ha
theorem below_one {b:Nat} {w W W':World} (h:Below w.heap.size w W) (hb:w.heap.size≤b) (hk:Kept (λk=>k=b) W W'):Below w.heap.size w W':=
 ⟨hk.os.trans h.os,hk.tape.trans h.tape,hk.output.trans h.output,Nat.le_trans h.size hk.size,λk hlt=>(hk.block k (Nat.lt_of_lt_of_le hlt h.size) (by omega)).trans (h.block k hlt)⟩
theorem part_range {W:World} {g o:Nat} {T:TypeId} {A B C:List Value} (h:Blk W g T (A++(B++C))) (hl:A.length=o):W.rangeAt g o B:=λi v hv=>by
 show W.cell? ⟨g,o+i,none⟩=some v
 rw[h.cell,List.getElem?_append_right (by omega),show o+i-A.length=i by omega,List.getElem?_append_left (List.getElem?_eq_some_iff.1 hv).1];exact hv
theorem GD.sp {w0 W:World} {now:Int} {x:Spv} {n:Nat} {L:List Itv} {lq:Option Addr} {lc:Nat} (h:GD w0 W now x n L (.slice lq L.length lc)) (hn:x.its.length=n):Spv.sp { x with now:=now,its:=L,ip:=lq,ic:=lc } =goOnP x.sp now:=by
 have e:=h.le;rw[←hn,List.take_length] at e;unfold Spv.sp goOnP
 dsimp only
 rw[e]
set_option maxHeartbeats 8000000 in
theorem refDoE_t (x:Spv) (now:Int) (r:Rv) (w:World) (hx:SpW w x) (hr:RvW w r) (hxe:OffS E x) (hpe:OffT E r.p (fl r.r.n r.r.G)) (hte:OffT E r.t (fl r.r.m r.r.H)) (heo:∀ k,E k→k<w.heap.size):
  Calls Tryz.prog 29 #[.agg (sv x).toArray,.int .i64 now,.agg (rv r).toArray] w λe w'=>∃ (x':Spv) (R:List Rpv) (q:Option Addr) (c:Nat),e= .returned (.tuple #[.agg (sv x').toArray,.slice q R.length c])∧x'.sp=(doP x.sp now r.r).1 ∧R.map (·.r)=(doP x.sp now r.r).2 ∧SpW w' x'∧RowL w' q 5 pv R∧(∀ y∈R,TR w' y.p y.r.t)∧OffS E x'∧Below w.heap.size w w':=by
 obtain⟨V,hV⟩:∃ V,((w.alloc (.cells (sv x).toArray 46)).alloc (.cells (rv r).toArray 54)).alloc (.cells zSpK.toArray 46)=V:=⟨_,rfl⟩;have B0:=hid (show Below w.heap.size w V from by rw[←hV];exact(((Below.refl _ _).alloc (Nat.le_refl _) _).alloc (by simp) _).alloc (by simp;omega) _);have BS:=hid (show Blk V w.heap.size 46 (sv x) from by rw[←hV];exact((Blk.new w 46 (sv x)).alloc _).alloc _);have BR:=hid (show Blk V (w.heap.size+1) 54 (rv r) from by rw[←hV];exact(Blk.new2 w _ 54 (rv r)).alloc _);have BZ:=hid (show Blk V (w.heap.size+2) 46 zSpK from by rw[←hV];exact new3 w _ _ _ _);have FX:=hid (sv_size x hx.l4);have FO:=hid (sv_one x);have SL:=hid (show(sv x).length=zSpK.length from sv_len x hx.l4);have FR:=hid (rv_size r);have HX:=hid hx;have HR:=hid hr;have HXE:=hid hxe;have HPE:=hid hpe;have HTE:=hid hte;have HEO:=hid heo;have HVS:=hid (show w.heap.size+2<V.heap.size from BZ.out.lt);clear hx hr hxe hpe hte heo
 go_enter Tryz.func29,Tryz.ntmps29
 go_upto_region 1 with(fail)
 change Code.wp _ _ _ _ (((w.alloc (.cells (sv x).toArray 46)).alloc (.cells (rv r).toArray 54)).alloc (.cells zSpK.toArray 46));rw[hV];clear hV;have MY:=hid (refMaySpace_t x V (HX.out.below B0.out))
 cases hb1:spMay x.sp with
 |false=>
  rw[hb1] at MY
  go_wp2_with ((with_reducible refine load_blk 46 (.tmp 3) w.heap.size 46 (sv x) _ rfl rfl ?_ Tryz.underlying46 ?_ ?_ ?_ ?_);exact BS.out;exact rfl;exact FX.out;exact rfl)
  refine MY.out.mono ?_
  rintro e w2 ⟨rfl,b2⟩
  have BX:=hid (BS.out.below b2 BS.out.lt);have RZ:=hid ((BZ.out.below b2 BZ.out.lt).setRow (sv x));have BZ9:=hid (BZ.out.below b2 BZ.out.lt);have BF:=hid (below_setRow (g:=w.heap.size+2) (B0.out.trans (b2.mono B0.out.size)) (by omega) (sv x).toArray);have HDN:=hid (do_no (s:=x.sp) (now:=now) (r:=r.r) (by unfold okDo;rw[hb1];rfl))
  go_wp2_with (first
   |((with_reducible refine load_blk 46 (.tmp 3) w.heap.size 46 (sv x) _ rfl rfl ?_ Tryz.underlying46 ?_ ?_ ?_ ?_);exact BX.out;exact rfl;exact FX.out;exact rfl)
   |((with_reducible refine at_op (.store 46 (.tmp 6) (.tmp 31)) rfl ?_);go_must (refine store_blk 46 (.tmp 6) (.tmp 31) (w.heap.size+2) 46 _ (sv x) rfl rfl BZ9.out SL.out.symm FX.out FO.out rfl rfl ?_)))
  exact ret_blkS (p:=6) (u:=7) (ty:=46) rfl rfl (w.heap.size+2) 46 _ _ rfl RZ.out Tryz.underlying46 rfl FX.out _ rfl ⟨x,[],none,0,rfl,(by rw[HDN.out]),(by rw[HDN.out];rfl),HX.out.below BF.out,RowL.nil,(λy hy=>by cases hy),HXE.out,BF.out⟩
 |true=>
  rw[hb1] at MY
  go_wp2_with ((with_reducible refine load_blk 46 (.tmp 3) w.heap.size 46 (sv x) _ rfl rfl ?_ Tryz.underlying46 ?_ ?_ ?_ ?_);exact BS.out;exact rfl;exact FX.out;exact rfl)
  refine MY.out.mono ?_
  rintro e w2 ⟨rfl,b2⟩
  have B2:=hid (B0.out.trans (b2.mono B0.out.size));have BS2:=hid (BS.out.below b2 BS.out.lt);have BR2:=hid (BR.out.below b2 BR.out.lt);have BZ2:=hid (BZ.out.below b2 BZ.out.lt);have OM:=hid (refMay_r r w2 (HR.out.below B2.out));clear b2 MY BS BR BZ B0
  cases hb2:mayR r.r with
  |false=>
   rw[hb2] at OM
   go_wp2_with ((with_reducible refine load_blk_gdO 17 54 (.tmp 5) (w.heap.size+1) 54 (rv r) _ ?_ ?_ rfl ?_ Tryz.underlying54 ?_ ?_ ?_ ?_);exact rfl;kernel_rfl;exact BR2.out;exact rfl;exact FR.out;exact rfl)
   refine OM.out.mono ?_
   rintro e w3 ⟨rfl,b3⟩
   have BX:=hid (BS2.out.below b3 BS2.out.lt);have RZ:=hid ((BZ2.out.below b3 BZ2.out.lt).setRow (sv x));have BZ9:=hid (BZ2.out.below b3 BZ2.out.lt);have BF:=hid (below_setRow (g:=w.heap.size+2) (B2.out.trans (b3.mono B2.out.size)) (by omega) (sv x).toArray);have HDN:=hid (do_no (s:=x.sp) (now:=now) (r:=r.r) (by unfold okDo;rw[hb1,hb2];rfl))
   go_wp2_with (first
    |((with_reducible refine load_blk 46 (.tmp 3) w.heap.size 46 (sv x) _ rfl rfl ?_ Tryz.underlying46 ?_ ?_ ?_ ?_);exact BX.out;exact rfl;exact FX.out;exact rfl)
    |((with_reducible refine at_op (.store 46 (.tmp 6) (.tmp 31)) rfl ?_);go_must (refine store_blk 46 (.tmp 6) (.tmp 31) (w.heap.size+2) 46 _ (sv x) rfl rfl BZ9.out SL.out.symm FX.out FO.out rfl rfl ?_)))
   exact ret_blkS (p:=6) (u:=7) (ty:=46) rfl rfl (w.heap.size+2) 46 _ _ rfl RZ.out Tryz.underlying46 rfl FX.out _ rfl ⟨x,[],none,0,rfl,(by rw[HDN.out]),(by rw[HDN.out];rfl),HX.out.below BF.out,RowL.nil,(λy hy=>by cases hy),HXE.out,BF.out⟩
  |true=>
   rw[hb2] at OM
   go_wp2_with ((with_reducible refine load_blk_gdO 17 54 (.tmp 5) (w.heap.size+1) 54 (rv r) _ ?_ ?_ rfl ?_ Tryz.underlying54 ?_ ?_ ?_ ?_);exact rfl;kernel_rfl;exact BR2.out;exact rfl;exact FR.out;exact rfl)
   refine OM.out.mono ?_
   rintro e w3 ⟨rfl,b3⟩
   have B3:=hid (B2.out.trans (b3.mono B2.out.size));have BS3:=hid (BS2.out.below b3 BS2.out.lt);have BR3:=hid (BR2.out.below b3 BR2.out.lt);have BZ3:=hid (BZ2.out.below b3 BZ2.out.lt);have c0:=(sv_cells BS3.out).1;clear b3 OM BS2 BR2 BZ2 B2
   by_cases h1:now<x.now
   ·have e1:decide (now<x.now)=true:=decide_eq_true h1;have BX:=hid (BS3.out);have RZ:=hid ((BZ3.out).setRow (sv x));have BZ9:=hid (BZ3.out);have BF:=hid (below_setRow (g:=w.heap.size+2) (B3.out) (by omega) (sv x).toArray);have HDN:=hid (do_no (s:=x.sp) (now:=now) (r:=r.r) (by unfold okDo;rw[hb1,hb2,show decide (x.sp.now≤now)=false from decide_eq_false (by show ¬ x.now≤now;omega)];rfl))
    go_wp2_with (first
     |((with_reducible refine load_blk 46 (.tmp 3) w.heap.size 46 (sv x) _ rfl rfl ?_ Tryz.underlying46 ?_ ?_ ?_ ?_);exact BX.out;exact rfl;exact FX.out;exact rfl)
     |((with_reducible refine at_op (.store 46 (.tmp 6) (.tmp 31)) rfl ?_);go_must (refine store_blk 46 (.tmp 6) (.tmp 31) (w.heap.size+2) 46 _ (sv x) rfl rfl BZ9.out SL.out.symm FX.out FO.out rfl rfl ?_)))
    exact ret_blkS (p:=6) (u:=7) (ty:=46) rfl rfl (w.heap.size+2) 46 _ _ rfl RZ.out Tryz.underlying46 rfl FX.out _ rfl ⟨x,[],none,0,rfl,(by rw[HDN.out]),(by rw[HDN.out];rfl),HX.out.below BF.out,RowL.nil,(λy hy=>by cases hy),HXE.out,BF.out⟩
   ·have e1:decide (now<x.now)=false:=decide_eq_false h1
    by_cases h2:1099511627776<now
    ·have e2:decide (1099511627776<now)=true:=decide_eq_true h2;have BX:=hid (BS3.out);have RZ:=hid ((BZ3.out).setRow (sv x));have BZ9:=hid (BZ3.out);have BF:=hid (below_setRow (g:=w.heap.size+2) (B3.out) (by omega) (sv x).toArray);have HDN:=hid (do_no (s:=x.sp) (now:=now) (r:=r.r) (by unfold okDo;rw[hb1,hb2,show decide (now≤1099511627776)=false from decide_eq_false (by omega),Bool.and_false];rfl))
     go_wp2_with (first
      |((with_reducible refine load_blk 46 (.tmp 3) w.heap.size 46 (sv x) _ rfl rfl ?_ Tryz.underlying46 ?_ ?_ ?_ ?_);exact BX.out;exact rfl;exact FX.out;exact rfl)
      |((with_reducible refine at_op (.store 46 (.tmp 6) (.tmp 31)) rfl ?_);go_must (refine store_blk 46 (.tmp 6) (.tmp 31) (w.heap.size+2) 46 _ (sv x) rfl rfl BZ9.out SL.out.symm FX.out FO.out rfl rfl ?_)))
     exact ret_blkS (p:=6) (u:=7) (ty:=46) rfl rfl (w.heap.size+2) 46 _ _ rfl RZ.out Tryz.underlying46 rfl FX.out _ rfl ⟨x,[],none,0,rfl,(by rw[HDN.out]),(by rw[HDN.out];rfl),HX.out.below BF.out,RowL.nil,(λy hy=>by cases hy),HXE.out,BF.out⟩
    ·have e2:decide (1099511627776<now)=false:=decide_eq_false h2;have hOK:okDo x.sp now r.r=true:=by
      unfold okDo;rw[hb1,hb2,decide_eq_true (show x.sp.now≤now from by show x.now≤now;omega),decide_eq_true (show now≤1099511627776 from by omega)];rfl
     have HOK:=hid hOK;have MS:=hid (mayS_iff.1 hb1);have MR:=hid (mayR_h hb2);have HN0:=hid (show 0≤now∧now≤1099511627776 from⟨by have h3:=MS.out.n0;have h4:x.sp.now=x.now:=rfl;omega,by omega⟩);have IL:=hid (show x.its.length≤64 from by have h:=MS.out.il;rwa [show x.sp.its.length=x.its.length from List.length_map _] at h)
     go_upto_region 5 with(fail)
     clear e1 e2 h1 h2 hOK hb1 hb2 c0;obtain⟨ip,hip⟩:∃ p,x.ip=p:=⟨_,rfl⟩;obtain⟨n,hn⟩:∃ n,x.its.length=n:=⟨_,rfl⟩;rw[hn] at IL;have HL:=hid hn;have HIP:=hid hip;have nB:(n:Int)≤9223372036854775807:=by have:=IL.out;omega
     have HW3:=hid (HX.out.below B3.out);have G0:=hid (show GD w3 w3 now x 0 [] (.slice none 0 0) from⟨World.ownsRow_nil _ _ _ _,λy hy=>by simp at hy,Nat.le_refl _,by simp,Below.refl _ _⟩);clear hip hn
     go_loopw [8,9] (λlv t wr=>∃ (j:Nat) (L:List Itv),j≤n∧t= .int .i64 (j:Int)∧GD w3 wr now x j L lv) (λ_ t _=>n- (intOf t).toNat)
     case atStart=>exact⟨0,[],by omega,rfl,G0.out⟩
     case round=>
      obtain⟨j,L,hj,rfl,hG⟩:=hrel;have G1:=hid hG;clear hG G0;have BS4:=hid (BS3.out.below (G1.out.bel.mono (by have:=B3.out.size;omega)) BS3.out.lt);have c1:=(sv_cells BS4.out).2.1;rw[HIP.out,HL.out] at c1
      by_cases hlt:j<n
      ·obtain⟨y,hy⟩:∃ y,x.its[j]? =some y:=⟨_,List.getElem?_eq_getElem (by rw[HL.out];exact hlt)⟩;obtain⟨b,o,hpe,hbl,rg⟩:=HW3.out.its j y hy;obtain rfl:ip=some ⟨b,o,none⟩:=HIP.out.symm.trans hpe;have RG:=hid (rows_below rg G1.out.bel hbl);have y1:wr.cell? ⟨b,o+j * 3+1,none⟩=some (.int .i64 y.i.un):=RG.out 1 _ rfl;have j1:(j:Int)< (n:Int):=by omega
       have FI:=hid (iv_size y);have HY:=hid hy;have HLT:=hid hlt;clear hy hpe hbl rg hlt;obtain⟨bb,hbb⟩:∃ b,gone now y.i=b:=⟨_,rfl⟩;have HG:=hid hbb;have hf:((y.i.un != 0) && decide (y.i.un≤now))=bb:=hbb;obtain⟨un,hun⟩:∃ n,y.i.un=n:=⟨_,rfl⟩;rw[hun] at y1 hf;clear hun;clear hbb
       by_cases h0:un=0
       ·subst h0;subst hf;have BA:=hid ((Below.refl wr.heap.size wr).alloc (Nat.le_refl _) (.cells (iv y).toArray 106));have G2:=hid (G1.out.below BA.out);have R1:=hid (row_one iv 3 y wr 106);have HB:=hid (show w3.heap.size≤(wr.alloc (.cells (iv y).toArray 106)).heap.size from G2.out.bel.size);have LL:=hid (show L.length+1≤1000000 from by have:=G1.out.ll;have:=IL.out;omega)
        go_wp2_with (first
         |((with_reducible refine at_op (.load 106 (.tmp 60)) rfl ?_);go_must (refine wpList_load_mid rfl 106 (.tmp 60) rfl b (o+j * 3) rfl (iv y) _ RG.out Tryz.underlying106 rfl FI.out ?_))
         |((with_reducible refine at_op (.buildSlice 39 1 #[(0,.tmp 61)]) rfl ?_);go_must (refine build1 39 106 (.tmp 61) rfl rfl (iv y) rfl (build_iv y _) ?_))
         |((with_reducible refine at_op (.call { callee:= .builtin .append,args:= #[.tmp 56,.tmp 62],argTypes:= #[39,39] }) rfl ?_);go_must (refine append_rows (.tmp 56) (.tmp 62) 39 rfl rfl 106 Tryz.underlying39 infoI rfl (by decide) (by decide) iv_len iv_one w3.heap.size u8 L.length (L.flatMap iv) rfl G2.out.lo (some ⟨wr.heap.size,0,none⟩) 1 1 rfl [y] rfl R1.out LL.out HB.out ?_);intro v1 w5 h2 h3 h5 h6))
        have G3:=hid (G2.out.more HY.out HG.out h2.out h3.out);clear h2 h3 h5 h6 G2 R1 BA G1
        go_roundw
        case rel=>exact⟨j+1,L++[y],HLT.out,by go_num,G3.out⟩
        case measure=>have:=HLT.out;simp[intOf];omega
       ·have e0:(un == 0)=false:=by simpa using h0
        have e0':decide (un=0)=false:=decide_eq_false h0
        by_cases h1:now<un
        ·have e1:decide (now<un)=true:=decide_eq_true h1;have e2:decide (un≤now)=false:=decide_eq_false (by omega);rw[e2,Bool.and_false] at hf;subst hf;have BA:=hid ((Below.refl wr.heap.size wr).alloc (Nat.le_refl _) (.cells (iv y).toArray 106));have G2:=hid (G1.out.below BA.out);have R1:=hid (row_one iv 3 y wr 106);have HB:=hid (show w3.heap.size≤(wr.alloc (.cells (iv y).toArray 106)).heap.size from G2.out.bel.size);have LL:=hid (show L.length+1≤1000000 from by have:=G1.out.ll;have:=IL.out;omega)
         go_wp2_with (first
          |((with_reducible refine at_op (.load 106 (.tmp 60)) rfl ?_);go_must (refine wpList_load_mid rfl 106 (.tmp 60) rfl b (o+j * 3) rfl (iv y) _ RG.out Tryz.underlying106 rfl FI.out ?_))
          |((with_reducible refine at_op (.buildSlice 39 1 #[(0,.tmp 61)]) rfl ?_);go_must (refine build1 39 106 (.tmp 61) rfl rfl (iv y) rfl (build_iv y _) ?_))
          |((with_reducible refine at_op (.call { callee:= .builtin .append,args:= #[.tmp 56,.tmp 62],argTypes:= #[39,39] }) rfl ?_);go_must (refine append_rows (.tmp 56) (.tmp 62) 39 rfl rfl 106 Tryz.underlying39 infoI rfl (by decide) (by decide) iv_len iv_one w3.heap.size u8 L.length (L.flatMap iv) rfl G2.out.lo (some ⟨wr.heap.size,0,none⟩) 1 1 rfl [y] rfl R1.out LL.out HB.out ?_);intro v1 w5 h2 h3 h5 h6))
         have G3:=hid (G2.out.more HY.out HG.out h2.out h3.out);clear h2 h3 h5 h6 G2 R1 BA G1
         go_roundw
         case rel=>exact⟨j+1,L++[y],HLT.out,by go_num,G3.out⟩
         case measure=>have:=HLT.out;simp[intOf];omega
        ·have e1:decide (now<un)=false:=decide_eq_false h1;have e2:decide (un≤now)=true:=decide_eq_true (by omega);rw[e2,Bool.and_true,show(un != 0)=true from by rw[bne_iff_ne];exact h0] at hf;subst hf;have G3:=hid (G1.out.skip HY.out HG.out);go_wp2_with fail
         go_roundw
         case rel=>exact⟨j+1,L,HLT.out,by go_num,G3.out⟩
         case measure=>have:=HLT.out;simp[intOf];omega
      ·obtain rfl:j=n:=by omega
       clear hlt;obtain⟨lq,lc,hv,hlc⟩:=own_form G1.out.lo;subst hv;have HSP:=hid (G1.out.sp HL.out);have HCAP:=hid hlc;obtain⟨x1,hx1⟩:∃ X:Spv,({ x with now:=now,its:=L,ip:=lq,ic:=lc } :Spv)=X:=⟨_,rfl⟩;have HX1:=hid hx1;have c0:=(sv_cells BS4.out).1;have fz0:=BS4.out.frozen 0;have BSa:=hid (BS4.out.store 0 (.int .i64 now));have ca1:(wr.setCell ⟨w.heap.size,0,none⟩ (.int .i64 now)).cell? ⟨w.heap.size,1,none⟩=some (.slice ip j x.ic):=by rw[BSa.out.cell,←HIP.out,←HL.out];rfl
       have fa1:=BSa.out.frozen 1;obtain⟨W5,hW5⟩:∃ V,(wr.setCell ⟨w.heap.size,0,none⟩ (.int .i64 now)).setCell ⟨w.heap.size,1,none⟩ (.slice lq L.length lc)=V:=⟨_,rfl⟩;have K5:=hid (show Kept (λb=>b=w.heap.size) wr W5 from by rw[←hW5];exact((Kept.refl (λb=>b=w.heap.size) wr).setCell (p:=⟨w.heap.size,0,none⟩) (.inl rfl) _).setCell (p:=⟨w.heap.size,1,none⟩) (.inl rfl) _);have BS5:=hid (show Blk W5 w.heap.size 46 (sv x1) from by rw[←hW5,←hx1];exact BSa.out.store 1 _);have Bwr:=hid (B3.out.trans (G1.out.bel.mono B3.out.size));have B5:=hid (show Below w.heap.size w W5 from by rw[←hW5];exact(Bwr.out.setCell (p:=⟨w.heap.size,0,none⟩) (Nat.le_refl _) _).setCell (p:=⟨w.heap.size,1,none⟩) (Nat.le_refl _) _);have BR5:=hid ((BR3.out.below (G1.out.bel.mono (by have:=B3.out.size;omega)) BR3.out.lt).kept K5.out (by omega));have BZ5:=hid ((BZ3.out.below (G1.out.bel.mono (by have:=B3.out.size;omega)) BZ3.out.lt).kept K5.out (by omega));have SP5:=hid (show SpW W5 x1 from by
        have h1:=HX.out.below B5.out;rw[←hx1];exact⟨RowL.of_own iv_len rfl (own_kept G1.out.lo K5.out (λk hk e=>by have:=(G1.out.lo.lt k hk).1;have:=BS3.out.lt;omega)),λz hz=>h1.it z (G1.out.lm z hz),h1.wts,h1.wt,h1.l4,h1.la,by have:=G1.out.ll;have:=IL.out;show L.length≤_;omega,h1.m⟩)
       have OE1:=hid (show OffS E x1 from by
        rw[←hx1];exact⟨λ_ k hk e=>by have h1:=(G1.out.lo.lt k hk.own).1;have h2:=HEO.out k e;have h3:=B3.out.size;omega,λz hz=>HXE.out.it z (G1.out.lm z hz),HXE.out.wts,HXE.out.wt,HXE.out.la⟩)
       clear hlc G1 BSa Bwr hx1
       go_upto_region 10 with(fail)
       clear hW5 c0 fz0 ca1 fa1 c1;have FX1:=hid (sv_size x1 SP5.out.l4);have BG:=built_G x1 SP5.out.l4
       dsimp only[zG] at BG
       have LG:=sv_len x1 SP5.out.l4
       go_upto_region 11 with((with_reducible refine load_blk 46 (.tmp 3) w.heap.size 46 (sv x1) _ rfl rfl ?_ Tryz.underlying46 ?_ ?_ ?_ ?_);exact BS5.out;exact rfl;exact FX1.out;exact rfl)
       obtain⟨gg,hgg⟩:∃ g,W5.heap.size=g:=⟨_,rfl⟩;obtain⟨W6,hW6⟩:∃ V,W5.alloc (.cells (gB x1 none 0 0).toArray 114)=V:=⟨_,rfl⟩;have B56:=hid (show Below W5.heap.size W5 W6 from by rw[←hW6];exact(Below.refl _ _).alloc (Nat.le_refl _) _);have BG6:=hid (show Blk W6 gg 114 (gB x1 none 0 0) from by rw[←hW6,←hgg];exact Blk.new W5 _ _);have BS6:=hid (BS5.out.below B56.out BS5.out.lt);have BR6:=hid (BR5.out.below B56.out BR5.out.lt);have BZ6:=hid (BZ5.out.below B56.out BZ5.out.lt);have SP6:=hid (SP5.out.below B56.out);have B6:=hid (B5.out.trans (B56.out.mono B5.out.size));have HG6:=hid (show w.heap.size+2<gg from by rw[←hgg];exact BZ5.out.lt);have HS6:=hid (show W6.heap.size=gg+1 from by rw[←hW6,←hgg];simp);have G6:=hid (show GW E w W6 gg x1 none 0 [] from by
        refine⟨BG6.out,SP6.out,?_,World.ownsRow_nil _ _ _ _,λy hy=>by simp at hy,λy hy=>by simp at hy,by have:=HG6.out;omega,B6.out,OE1.out,HEO.out⟩;refine SP5.out.offNew (λk hk=>?_);rcases hk with e |e
        ·rw[e,hgg];exact Nat.le_refl _
        ·obtain⟨a,ha,_⟩:=e;cases ha)
       rw[hgg,hW6];clear BG LG hW6 B56 BG6 BS5 BR5 BZ5 SP5 B5
       -- region 11
       have MR4:=hid (show 0≤r.r.cl∧r.r.cl<4 from⟨MR.out.cl0,MR.out.cl4⟩);obtain⟨k,hk⟩:∃ k:Nat,r.r.cl=(k:Int):=⟨r.r.cl.toNat,by have:=MR4.out;omega⟩;have HC:=hid hk;have hk4:k<4:=by have:=MR4.out;omega
       have HK4:=hid hk4;have k0:(0:Int)≤(k:Int):=by omega
       have k4:(k:Int)<4:=by omega
       obtain⟨y,hy⟩:∃ y,x1.last[k]? =some y:=⟨_,List.getElem?_eq_getElem (by rw[SP6.out.l4];exact hk4)⟩;have HY:=hid hy;obtain⟨A,C,hsp,hAl⟩:=sv_cut hy;have RY:=hid (part_range (W:=W6) (g:=w.heap.size) (T:=46) (A:=A) (B:=pv y) (C:=C) (by rw[←hsp];exact BS6.out) hAl);have FY:=hid (pv_size y);have F1:=hid (pv_oneA y);have d0:=(rv_cells BR6.out).1;rw[hk] at d0;have A0:=hid (Blk.new W6 43 [.int .i64 0,.int .i64 0,.int .i64 0,.slice none 0 0,.bool false]);clear hk hk4 hy hsp hAl
       go_upto_region 12 with(first
        |((with_reducible refine at_op (.load 43 (.tmp 74)) rfl ?_);go_must (refine wpList_load_mid rfl 43 (.tmp 74) rfl w.heap.size (5+k * 5) rfl (pv y) _ RY.out Tryz.underlying43 rfl FY.out ?_))
        |((with_reducible refine store_blk 43 (.tmp 11) (.tmp 75) W6.heap.size 43 [.int .i64 0,.int .i64 0,.int .i64 0,.slice none 0 0,.bool false] (pv y) rfl rfl ?_ ?_ ?_ ?_ ?_ ?_ ?_);exact A0.out;exact rfl;exact FY.out;exact F1.out;exact rfl;exact rfl))
       obtain⟨W7,hW7⟩:∃ V,(W6.alloc (.cells #[.int .i64 0,.int .i64 0,.int .i64 0,.slice none 0 0,.bool false] 43)).setRow W6.heap.size (pv y).toArray=V:=⟨_,rfl⟩;have B67:=hid (show Below W6.heap.size W6 W7 from by rw[←hW7];exact below_setRow ((Below.refl W6.heap.size W6).alloc (Nat.le_refl _) _) (Nat.le_refl _) (pv y).toArray);have BL7:=hid (show Blk W7 (gg+1) 43 (pv y) from by rw[←hW7,←HS6.out];exact A0.out.setRow (pv y));have BS7:=hid (BS6.out.below B67.out BS6.out.lt);have BR7:=hid (BR6.out.below B67.out BR6.out.lt);have BZ7:=hid (BZ6.out.below B67.out BZ6.out.lt);have G7:=hid (G6.out.below B67.out);rw[hW7,HS6.out];have d0:=(rv_cells BR7.out).1;rw[HC.out] at d0;clear hW7 A0 BS6 BR6 BZ6 SP6 B6 G6 B67 RY HS6;go_simp
       go_cut [12] (λs wx=>s= .int .i64 (2 ^ k)∧wx=W7)
       case first=>
        rcases(show k=0∨k=1∨k=2∨k=3 by omega) with rfl |rfl |rfl |rfl<;>
        ·go_wp2_with fail
         go_meet
         exact⟨rfl,rfl⟩
       case rest=>
        obtain⟨rfl,hwc⟩:=hcut;rw[hwc];clear hwc;have HS1:=hid (show x1.sp=goOnP x.sp now from by rw[←HX1.out];exact HSP.out);have HLA:=hid (show lastOf x1.sp r.r.cl=y.r from by
         unfold lastOf;rw[HC.out,Int.toNat_natCast]
         show((x1.last.map (·.r)).getD k zR)=y.r
         rw[List.getD_eq_getElem?_getD,List.getElem?_map,HY.out];rfl)
        have HD:=hid (show doP x.sp now r.r=if r.r.sq<y.r.sq then(x1.sp,[tellP (qp r.r) 7]) else if r.r.sq=y.r.sq then(x1.sp,[y.r]) else answP x1.sp (qp r.r) from by
         unfold doP;rw[if_neg (by rw[HOK.out];decide)]
         dsimp only
         rw[←HS1.out,HLA.out])
        have OH:=hid (okDo_h HOK.out);have MX:=hid (show MayS x1.sp from by rw[HS1.out];exact MS.out.goOn OH.out.2.2.1 OH.out.2.2.2);have OX:=hid (G7.out.sp.offZ BZ7.out MX.out);have d1:=(rv_cells BR7.out).2.1;have l1:=(pv_cells BL7.out).2.1;clear d0 hj nB HIP HVS
        by_cases s1:r.r.sq<y.r.sq
        ·have e1:decide (r.r.sq<y.r.sq)=true:=decide_eq_true s1;have HQ:=hid (HD.out.trans (if_pos s1))
         go_upto_region 15 with(fail)
         obtain⟨U,hU⟩:∃ U,W7.drew=U:=⟨_,rfl⟩;have BU:=hid (show Below W7.heap.size W7 U from by rw[←hU];exact(Below.refl _ _).drew);have ZU:=hid (BZ7.out.below BU.out BZ7.out.lt);have SPU:=hid (G7.out.sp.below BU.out);have BUW:=hid (G7.out.bel.trans (BU.out.mono G7.out.bel.size));have LX1:=hid (show(sv x1).length=zSpK.length from sv_len x1 G7.out.sp.l4);have FO1:=hid (sv_one x1);have s0:Blk U w.heap.size 46 (sv x1)∧Blk U (w.heap.size+1) 54 (rv r)∧Blk U (gg+1) 43 (pv y):=⟨BS7.out.below BU.out BS7.out.lt,BR7.out.below BU.out BR7.out.lt,BL7.out.below BU.out BL7.out.lt⟩;refine wp_region_held (S:=λY=>Blk Y w.heap.size 46 (sv x1)∧Blk Y (w.heap.size+1) 54 (rv r)∧Blk Y (gg+1) 43 (pv y)) (by kernel_rfl) ?_;change wpAnyH _ _ _ _ _ _ _ _ W7.drew;rw[hU];clear hU;refine tkg9 0 (v:= .agg (sv x1).toArray) (yieldsIf_load_mid (by kernel_rfl) 46 (.tmp 3) rfl w.heap.size 0 (by go_simp) (sv x1) _ (λ_ h=>rows_of_blk h.1) Tryz.underlying46 rfl (FX1.out)) s0 ?_;refine tka9 1 s0 ?_;refine tk9 2 ?_ ?_ s0 ?_;rotate_left 1
         ·(intro w hS;have hs:=(rv_cells hS.2.1).1;clear hS;go_simp;try (with_reducible rfl))
         refine tka9 3 s0 ?_;refine tk9 4 ?_ ?_ s0 ?_;rotate_left 1
         ·(intro w hS;have hs:=(rv_cells hS.2.1).2.1;clear hS;go_simp;try (with_reducible rfl))
         refine tka9 5 s0 ?_;have TN:=hid (show TR U none (tellP (qp r.r) 7).t from⟨λj hj=>absurd hj (Nat.not_lt_zero j),Nat.zero_le _⟩);go_simp;refine wpAnyH_ready (rs:=[6,7]) (by kernel_rfl) (by simp) ?_;refine AllReadyH.cons rfl (λK hK=>?_) ?_
         ·skip
          have BA:=hid ((Below.refl U.heap.size U).alloc (Nat.le_refl _) (.cells (pv (⟨tellP (qp r.r) 7,none,0⟩:Rpv)).toArray 43));have Z9:=hid (ZU.out.below BA.out ZU.out.lt);have R1:=hid (row_one pv 5 ((⟨tellP (qp r.r) 7,none,0⟩:Rpv)) U 43);have SP9:=hid (SPU.out.below BA.out);have T9:=hid (TN.out.below BA.out);have B9:=hid (BUW.out.trans (BA.out.mono BUW.out.size));have s9:=And.intro (s0.1.alloc (.cells (pv (⟨tellP (qp r.r) 7,none,0⟩:Rpv)).toArray 43)) (And.intro (s0.2.1.alloc (.cells (pv (⟨tellP (qp r.r) 7,none,0⟩:Rpv)).toArray 43)) (s0.2.2.alloc (.cells (pv (⟨tellP (qp r.r) 7,none,0⟩:Rpv)).toArray 43)));refine wp_build1 57 43 (.tmp 94) rfl (pv (⟨tellP (qp r.r) 7,none,0⟩:Rpv)) rfl (build_pv ((⟨tellP (qp r.r) 7,none,0⟩:Rpv)) _) ?_;refine hK.out _ _ s9 (λ_=>?_);clear hK K;refine rdw9 7 λK hK=>?_
          refine wstore_part 46 (.tmp 6) (.tmp 89) (w.heap.size+2) 0 46 [] zSpK [] (sv x1) rfl (by rw[List.nil_append,List.append_nil];exact Z9.out) rfl LX1.out.symm FX1.out FO1.out rfl rfl ?_;intro wz a1 a2 a3;have RZ:=hid (show Blk wz (w.heap.size+2) 46 (sv x1) by have:=a1.out;rwa [List.nil_append,List.append_nil] at this);have KZ:=a2.out.keptOne rfl;have SPZ:=hid (SP9.out.keptF KZ OX.out);have TZ:=hid (T9.out.keptF KZ (λhne=>absurd rfl hne));have BZZ:=hid (below_one B9.out (by omega) KZ);have HZU:=ZU.out.lt;have RZZ:=hid (R1.out.keptF KZ (λ_ b hb e=>by obtain⟨a,ha,rfl⟩:=hb;injection ha with ha;subst ha;dsimp only at e;omega));refine hK.out _ _ ⟨s9.1.kept KZ (by omega),s9.2.1.kept KZ (by omega),s9.2.2.kept KZ (by have:=HG6.out;omega)⟩ (λ_=>?_);have s10:Blk wz w.heap.size 46 (sv x1)∧Blk wz (w.heap.size+1) 54 (rv r)∧Blk wz (gg+1) 43 (pv y):=⟨s9.1.kept KZ (by omega),s9.2.1.kept KZ (by omega),s9.2.2.kept KZ (by have:=HG6.out;omega)⟩;clear hK K a1 a2 a3 HZU;refine tka9 8 s10 ?_;refine wpAnyH_done (by kernel_rfl) ?_ _;go_simp;go_wp2_with fail
          exact ret_blkS (p:=6) (u:=7) (ty:=46) rfl rfl (w.heap.size+2) 46 _ _ rfl RZ.out Tryz.underlying46 rfl FX1.out _ rfl (by first |exact⟨x1,[(⟨tellP (qp r.r) 7,none,0⟩:Rpv)],some ⟨U.heap.size,0,none⟩,1,rfl,(by rw[HQ.out]),(by rw[HQ.out];rfl),SPZ.out,RZZ.out,(λz hz=>by rw[List.mem_singleton.1 hz];exact TZ.out),G7.out.oe,BZZ.out⟩ |exact⟨x1,[(⟨tellP (qp r.r) 7,none,0⟩:Rpv)],some ⟨U.heap.size,0,none⟩,⟨1,rfl⟩,(by rw[HQ.out]),(by rw[HQ.out];rfl),SPZ.out,RZZ.out,(λz hz=>by rw[List.mem_singleton.1 hz];exact TZ.out),G7.out.oe,BZZ.out⟩)
         ·refine AllReadyH.cons rfl (λK hK=>?_) AllReadyH.nil;refine wstore_part 46 (.tmp 6) (.tmp 89) (w.heap.size+2) 0 46 [] zSpK [] (sv x1) rfl (by rw[List.nil_append,List.append_nil];exact ZU.out) rfl LX1.out.symm FX1.out FO1.out rfl rfl ?_;intro wz a1 a2 a3;have RZ0:=hid (show Blk wz (w.heap.size+2) 46 (sv x1) by have:=a1.out;rwa [List.nil_append,List.append_nil] at this);have KZ:=a2.out.keptOne rfl;have SPZ:=hid (SPU.out.keptF KZ OX.out);have TZ:=hid (TN.out.keptF KZ (λhne=>absurd rfl hne));have BZZ:=hid (below_one BUW.out (by omega) KZ);have s9:Blk wz w.heap.size 46 (sv x1)∧Blk wz (w.heap.size+1) 54 (rv r)∧Blk wz (gg+1) 43 (pv y):=⟨s0.1.kept KZ (by omega),s0.2.1.kept KZ (by omega),s0.2.2.kept KZ (by have:=HG6.out;omega)⟩;refine hK.out _ _ s9 (λ_=>?_);clear hK K a1 a2 a3;have BA:=hid ((Below.refl wz.heap.size wz).alloc (Nat.le_refl _) (.cells (pv (⟨tellP (qp r.r) 7,none,0⟩:Rpv)).toArray 43));have RZ:=hid (RZ0.out.below BA.out RZ0.out.lt);have R1:=hid (row_one pv 5 ((⟨tellP (qp r.r) 7,none,0⟩:Rpv)) wz 43);have SP9:=hid (SPZ.out.below BA.out);have T9:=hid (TZ.out.below BA.out);have B9:=hid (BZZ.out.trans (BA.out.mono BZZ.out.size));have s10:=And.intro (s9.1.alloc (.cells (pv (⟨tellP (qp r.r) 7,none,0⟩:Rpv)).toArray 43)) (And.intro (s9.2.1.alloc (.cells (pv (⟨tellP (qp r.r) 7,none,0⟩:Rpv)).toArray 43)) (s9.2.2.alloc (.cells (pv (⟨tellP (qp r.r) 7,none,0⟩:Rpv)).toArray 43)));refine rdw9 6 λK hK=>?_
          refine wp_build1 57 43 (.tmp 94) rfl (pv (⟨tellP (qp r.r) 7,none,0⟩:Rpv)) rfl (build_pv ((⟨tellP (qp r.r) 7,none,0⟩:Rpv)) _) ?_;refine hK.out _ _ s10 (λ_=>?_);clear hK K;refine tka9 8 s10 ?_;refine wpAnyH_done (by kernel_rfl) ?_ _;go_simp;go_wp2_with fail
          exact ret_blkS (p:=6) (u:=7) (ty:=46) rfl rfl (w.heap.size+2) 46 _ _ rfl RZ.out Tryz.underlying46 rfl FX1.out _ rfl (by first |exact⟨x1,[(⟨tellP (qp r.r) 7,none,0⟩:Rpv)],some ⟨wz.heap.size,0,none⟩,1,rfl,(by rw[HQ.out]),(by rw[HQ.out];rfl),SP9.out,R1.out,(λz hz=>by rw[List.mem_singleton.1 hz];exact T9.out),G7.out.oe,B9.out⟩ |exact⟨x1,[(⟨tellP (qp r.r) 7,none,0⟩:Rpv)],some ⟨wz.heap.size,0,none⟩,⟨1,rfl⟩,(by rw[HQ.out]),(by rw[HQ.out];rfl),SP9.out,R1.out,(λz hz=>by rw[List.mem_singleton.1 hz];exact T9.out),G7.out.oe,B9.out⟩)
        ·have e1:decide (r.r.sq<y.r.sq)=false:=decide_eq_false s1
         by_cases s2:r.r.sq=y.r.sq
         ·have e2:(r.r.sq == y.r.sq)=true:=by rw[s2];exact beq_self_eq_true _
          have HQ:=hid (HD.out.trans ((if_neg s1).trans (if_pos s2)));have TY:=hid (G7.out.sp.la y (List.mem_of_getElem? HY.out));have OY:=hid (OX.out.la y (List.mem_of_getElem? HY.out))
          go_upto_region 17 with(fail)
          obtain⟨U,hU⟩:∃ U,W7.drew=U:=⟨_,rfl⟩;have BU:=hid (show Below W7.heap.size W7 U from by rw[←hU];exact(Below.refl _ _).drew);have ZU:=hid (BZ7.out.below BU.out BZ7.out.lt);have SPU:=hid (G7.out.sp.below BU.out);have BUW:=hid (G7.out.bel.trans (BU.out.mono G7.out.bel.size));have LX1:=hid (show(sv x1).length=zSpK.length from sv_len x1 G7.out.sp.l4);have FO1:=hid (sv_one x1);have s0:Blk U w.heap.size 46 (sv x1)∧Blk U (w.heap.size+1) 54 (rv r)∧Blk U (gg+1) 43 (pv y):=⟨BS7.out.below BU.out BS7.out.lt,BR7.out.below BU.out BR7.out.lt,BL7.out.below BU.out BL7.out.lt⟩;refine wp_region_held (S:=λY=>Blk Y w.heap.size 46 (sv x1)∧Blk Y (w.heap.size+1) 54 (rv r)∧Blk Y (gg+1) 43 (pv y)) (by kernel_rfl) ?_;change wpAnyH _ _ _ _ _ _ _ _ W7.drew;rw[hU];clear hU;have TYU:=hid (TY.out.below BU.out);refine tkg9 0 (v:= .agg (sv x1).toArray) (yieldsIf_load_mid (by kernel_rfl) 46 (.tmp 3) rfl w.heap.size 0 (by go_simp) (sv x1) _ (λ_ h=>rows_of_blk h.1) Tryz.underlying46 rfl (FX1.out)) s0 ?_;refine tkg9 1 (v:= .agg (pv y).toArray) (yieldsIf_load_mid (by kernel_rfl) 43 (.tmp 11) rfl (gg+1) 0 (by go_simp) (pv y) _ (λ_ h=>rows_of_blk h.2.2) Tryz.underlying43 rfl (FY.out)) s0 ?_;go_simp;refine wpAnyH_ready (rs:=[2,3]) (by kernel_rfl) (by simp) ?_;refine AllReadyH.cons rfl (λK hK=>?_) ?_
          ·skip
           have BA:=hid ((Below.refl U.heap.size U).alloc (Nat.le_refl _) (.cells (pv y).toArray 43));have Z9:=hid (ZU.out.below BA.out ZU.out.lt);have R1:=hid (row_one pv 5 (y) U 43);have SP9:=hid (SPU.out.below BA.out);have T9:=hid (TYU.out.below BA.out);have B9:=hid (BUW.out.trans (BA.out.mono BUW.out.size));have s9:=And.intro (s0.1.alloc (.cells (pv y).toArray 43)) (And.intro (s0.2.1.alloc (.cells (pv y).toArray 43)) (s0.2.2.alloc (.cells (pv y).toArray 43)));refine wp_build1 57 43 (.tmp 103) rfl (pv y) rfl (build_pv (y) _) ?_;refine hK.out _ _ s9 (λ_=>?_);clear hK K;refine rdw9 3 λK hK=>?_
           refine wstore_part 46 (.tmp 6) (.tmp 102) (w.heap.size+2) 0 46 [] zSpK [] (sv x1) rfl (by rw[List.nil_append,List.append_nil];exact Z9.out) rfl LX1.out.symm FX1.out FO1.out rfl rfl ?_;intro wz a1 a2 a3;have RZ:=hid (show Blk wz (w.heap.size+2) 46 (sv x1) by have:=a1.out;rwa [List.nil_append,List.append_nil] at this);have KZ:=a2.out.keptOne rfl;have SPZ:=hid (SP9.out.keptF KZ OX.out);have TZ:=hid (T9.out.keptF KZ OY.out);have BZZ:=hid (below_one B9.out (by omega) KZ);have HZU:=ZU.out.lt;have RZZ:=hid (R1.out.keptF KZ (λ_ b hb e=>by obtain⟨a,ha,rfl⟩:=hb;injection ha with ha;subst ha;dsimp only at e;omega));refine hK.out _ _ ⟨s9.1.kept KZ (by omega),s9.2.1.kept KZ (by omega),s9.2.2.kept KZ (by have:=HG6.out;omega)⟩ (λ_=>?_);have s10:Blk wz w.heap.size 46 (sv x1)∧Blk wz (w.heap.size+1) 54 (rv r)∧Blk wz (gg+1) 43 (pv y):=⟨s9.1.kept KZ (by omega),s9.2.1.kept KZ (by omega),s9.2.2.kept KZ (by have:=HG6.out;omega)⟩;clear hK K a1 a2 a3 HZU;refine tka9 4 s10 ?_;refine wpAnyH_done (by kernel_rfl) ?_ _;go_simp;go_wp2_with fail
           exact ret_blkS (p:=6) (u:=7) (ty:=46) rfl rfl (w.heap.size+2) 46 _ _ rfl RZ.out Tryz.underlying46 rfl FX1.out _ rfl (by first |exact⟨x1,[y],some ⟨U.heap.size,0,none⟩,1,rfl,(by rw[HQ.out]),(by rw[HQ.out];rfl),SPZ.out,RZZ.out,(λz hz=>by rw[List.mem_singleton.1 hz];exact TZ.out),G7.out.oe,BZZ.out⟩ |exact⟨x1,[y],some ⟨U.heap.size,0,none⟩,⟨1,rfl⟩,(by rw[HQ.out]),(by rw[HQ.out];rfl),SPZ.out,RZZ.out,(λz hz=>by rw[List.mem_singleton.1 hz];exact TZ.out),G7.out.oe,BZZ.out⟩)
          ·refine AllReadyH.cons rfl (λK hK=>?_) AllReadyH.nil;refine wstore_part 46 (.tmp 6) (.tmp 102) (w.heap.size+2) 0 46 [] zSpK [] (sv x1) rfl (by rw[List.nil_append,List.append_nil];exact ZU.out) rfl LX1.out.symm FX1.out FO1.out rfl rfl ?_;intro wz a1 a2 a3;have RZ0:=hid (show Blk wz (w.heap.size+2) 46 (sv x1) by have:=a1.out;rwa [List.nil_append,List.append_nil] at this);have KZ:=a2.out.keptOne rfl;have SPZ:=hid (SPU.out.keptF KZ OX.out);have TZ:=hid (TYU.out.keptF KZ OY.out);have BZZ:=hid (below_one BUW.out (by omega) KZ);have s9:Blk wz w.heap.size 46 (sv x1)∧Blk wz (w.heap.size+1) 54 (rv r)∧Blk wz (gg+1) 43 (pv y):=⟨s0.1.kept KZ (by omega),s0.2.1.kept KZ (by omega),s0.2.2.kept KZ (by have:=HG6.out;omega)⟩;refine hK.out _ _ s9 (λ_=>?_);clear hK K a1 a2 a3;have BA:=hid ((Below.refl wz.heap.size wz).alloc (Nat.le_refl _) (.cells (pv y).toArray 43));have RZ:=hid (RZ0.out.below BA.out RZ0.out.lt);have R1:=hid (row_one pv 5 (y) wz 43);have SP9:=hid (SPZ.out.below BA.out);have T9:=hid (TZ.out.below BA.out);have B9:=hid (BZZ.out.trans (BA.out.mono BZZ.out.size));have s10:=And.intro (s9.1.alloc (.cells (pv y).toArray 43)) (And.intro (s9.2.1.alloc (.cells (pv y).toArray 43)) (s9.2.2.alloc (.cells (pv y).toArray 43)));refine rdw9 2 λK hK=>?_
           refine wp_build1 57 43 (.tmp 103) rfl (pv y) rfl (build_pv (y) _) ?_;refine hK.out _ _ s10 (λ_=>?_);clear hK K;refine tka9 4 s10 ?_;refine wpAnyH_done (by kernel_rfl) ?_ _;go_simp;go_wp2_with fail
           exact ret_blkS (p:=6) (u:=7) (ty:=46) rfl rfl (w.heap.size+2) 46 _ _ rfl RZ.out Tryz.underlying46 rfl FX1.out _ rfl (by first |exact⟨x1,[y],some ⟨wz.heap.size,0,none⟩,1,rfl,(by rw[HQ.out]),(by rw[HQ.out];rfl),SP9.out,R1.out,(λz hz=>by rw[List.mem_singleton.1 hz];exact T9.out),G7.out.oe,B9.out⟩ |exact⟨x1,[y],some ⟨wz.heap.size,0,none⟩,⟨1,rfl⟩,(by rw[HQ.out]),(by rw[HQ.out];rfl),SP9.out,R1.out,(λz hz=>by rw[List.mem_singleton.1 hz];exact T9.out),G7.out.oe,B9.out⟩)
         ·have e2:(r.r.sq == y.r.sq)=false:=by rw[beq_eq_false_iff_ne];exact s2
          have HDA:=hid (HD.out.trans ((if_neg s1).trans (if_neg s2)));clear HD;have RQ7:=hid (show RQ E W7 gg none r from by
           have b:=G7.out.bel;have f:∀ k,GFr gg none k→w.heap.size≤k:=λk hk=>by
            rcases hk with e |e
            ·have:=HG6.out;omega
            ·obtain⟨a,ha,_⟩:=e;cases ha
           exact⟨(tr_fl HR.out.p HR.out.n).below b,(tr_fl HR.out.t HR.out.m).below b,(tr_fl HR.out.p HR.out.n).offNew f,(tr_fl HR.out.t HR.out.m).offNew f,HPE.out,HTE.out⟩)
          have SM7:=hid (show SmP x1 r.r from by
           have h1:x1.sp.wts.length=x1.wts.length:=List.length_map _;have h2:x1.sp.its.length=x1.its.length:=List.length_map _;refine⟨by rw[←h1];exact MX.out.wl,λz hz=>?_,by rw[←h2];exact MX.out.il,MX.out.n0,MX.out.n1,MR.out.le0,MR.out.lem⟩;have h:=MX.out.wt z.x (List.mem_map_of_mem hz);unfold wtB at h;simp only[Bool.and_eq_true] at h;exact h.1)
          have CAP7:=hid (show x1.its.length≤x1.ic from by rw[←HX1.out];exact HCAP.out);have HDF:=hid (show doP x.sp now r.r=finP (actP x1.sp (qp r.r)) (qp r.r) from HDA.out.trans (answ_fin _ _));obtain⟨_,_,_,c3,c4⟩:=sv_cells BS7.out;have d2:=(rv_cells BR7.out).2.2.1;obtain⟨bt,hbt⟩:∃ b:Int,(2:Int) ^ k=b:=⟨_,rfl⟩;rw[hbt];obtain⟨rz,hrz⟩:∃ b,(bits .and .i64 x1.rd bt == 0)=b:=⟨_,rfl⟩;obtain⟨wz,hwz⟩:∃ b,(bits .and .i64 x1.wr bt == 0)=b:=⟨_,rfl⟩;obtain⟨rb,hrb⟩:∃ b,rdK r.r.kd=b:=⟨_,rfl⟩;obtain⟨wb,hwb⟩:∃ b,wrK r.r.kd=b:=⟨_,rfl⟩;have HAE:allowP x1.sp (qp r.r)=((!rz || !rb) && (!wz || !wb)):=by
           show(((bits .and .i64 x1.rd (2 ^ r.r.cl.toNat) != 0) || !rdK r.r.kd) && ((bits .and .i64 x1.wr (2 ^ r.r.cl.toNat) != 0) || !wrK r.r.kd))=_
           rw[HC.out,Int.toNat_natCast,hbt,hrb,hwb,←hrz,←hwz];rfl
          obtain⟨al,hal⟩:∃ b,allowP x1.sp (qp r.r)=b:=⟨_,rfl⟩;rw[hal] at HAE;have HALE:=hid HAE;have HAL:=hid hal;have RDc:=hid (λW=>refReads_t r.r.kd W);have WRc:=hid (λW=>refWrites_t r.r.kd W);rw[hrb] at RDc;rw[hwb] at WRc;clear HAE hal hbt HDA
          go_upto_region 18 with(fail)
          clear d1 l1 s1 e1 s2 e2
          go_cut [105] (λs wx=>s= .bool (!al)∧wx=W7)
          case first=>
           clear hrb hwb
           cases rb with
           |false=>
            cases wb with
            |false=>
             go_wp2_with fail
             refine(RDc.out _).mono ?_
             rintro e w8 ⟨rfl,rfl⟩
             go_wp2_with fail
             refine(WRc.out _).mono ?_
             rintro e w9 ⟨rfl,rfl⟩
             go_wp2_with fail
             go_meet
             exact⟨by rw[HALE.out];try simp,rfl⟩
            |true=>
             go_wp2_with fail
             refine(RDc.out _).mono ?_
             rintro e w8 ⟨rfl,rfl⟩
             go_wp2_with fail
             refine(WRc.out _).mono ?_
             rintro e w9 ⟨rfl,rfl⟩
             cases wz with
             |false=>
              go_wp2_with fail
              go_meet
              exact⟨by rw[HALE.out];try simp,rfl⟩
             |true=>
              go_wp2_with fail
              go_meet
              exact⟨by rw[HALE.out];try simp,rfl⟩
           |true=>
            cases rz with
            |false=>
             cases wb with
             |false=>
              go_wp2_with fail
              refine(RDc.out _).mono ?_
              rintro e w8 ⟨rfl,rfl⟩
              go_wp2_with fail
              refine(WRc.out _).mono ?_
              rintro e w9 ⟨rfl,rfl⟩
              go_wp2_with fail
              go_meet
              exact⟨by rw[HALE.out];try simp,rfl⟩
             |true=>
              go_wp2_with fail
              refine(RDc.out _).mono ?_
              rintro e w8 ⟨rfl,rfl⟩
              go_wp2_with fail
              refine(WRc.out _).mono ?_
              rintro e w9 ⟨rfl,rfl⟩
              cases wz with
              |false=>
               go_wp2_with fail
               go_meet
               exact⟨by rw[HALE.out];try simp,rfl⟩
              |true=>
               go_wp2_with fail
               go_meet
               exact⟨by rw[HALE.out];try simp,rfl⟩
            |true=>
             go_wp2_with fail
             refine(RDc.out _).mono ?_
             rintro e w8 ⟨rfl,rfl⟩
             go_wp2_with fail
             go_meet
             exact⟨by rw[HALE.out];try simp,rfl⟩
          case rest=>
           obtain⟨rfl,hwc⟩:=hcut;rw[hwc];clear hwc RDc WRc hrz hwz hrb hwb HALE c3 c4
           cases al with
           |false=>
            have HQ:=hid (show doP x.sp now r.r=(noteP x1.sp (tellP (qp r.r) 6),[tellP (qp r.r) 6]) from by rw[HDF.out,show actP x1.sp (qp r.r)=(x1.sp,tellP (qp r.r) 6,false) from by unfold actP;rw[if_pos HAL.out],fin_no]);have TE:=hid (tellE_t w gg k x1 none 0 r 6 W7 G7.out HC.out HK4.out)
            go_upto_region 19 with(fail)
            go_wp2_with ((with_reducible refine load_blk 54 (.tmp 5) (w.heap.size+1) 54 (rv r) _ rfl rfl ?_ Tryz.underlying54 ?_ ?_ ?_ ?_);exact BR7.out;exact rfl;exact FR.out;exact rfl)
            refine TE.out.mono ?_
            rintro e w8 ⟨rfl,z,q8,c8,hz,g8,s8,k8,o8⟩
            have G8:=hid g8;have K8:=hid (id k8);have S8:=hid (show Spv.sp { x1 with last:=x1.last.set k z } =(doP x.sp now r.r).1 from by rw[HQ.out];exact s8);have R8:=hid (show[z].map (·.r)=(doP x.sp now r.r).2 from by rw[HQ.out];exact congrArg (λz=>[z]) hz);clear g8 k8 s8 hz TE o8
            go_upto_region 30 with(fail)
            have Z8:=hid (BZ7.out.kept K8.out (noGF (by have:=HG6.out;omega)));have M8:=hid (show MayS ({ x1 with last:=x1.last.set k z }).sp from by rw[S8.out];exact(do_ok MS.out now r.r).1);obtain⟨U,hU⟩:∃ U,(w8).drew=U:=⟨_,rfl⟩;have BU:=hid (show Below (w8).heap.size (w8) U from by rw[←hU];exact(Below.refl _ _).drew);have GU:=hid (G8.out.below BU.out);have ZU:=hid (Z8.out.below BU.out Z8.out.lt);have OU:=hid (GU.out.sp.offZ ZU.out M8.out);have FX8:=hid (sv_size ({ x1 with last:=x1.last.set k z }) GU.out.sp.l4);have FO8:=hid (sv_one ({ x1 with last:=x1.last.set k z }));have LX8:=hid (show(sv ({ x1 with last:=x1.last.set k z })).length=zSpK.length from sv_len ({ x1 with last:=x1.last.set k z }) GU.out.sp.l4);have s0:U.rangeAt gg 0 (sv ({ x1 with last:=x1.last.set k z }))∧U.cell? ⟨gg,25,none⟩=some (.slice q8 ([z]).length c8):=⟨GU.out.row,GU.out.out⟩;refine wp_region_held (S:=λY=>Y.rangeAt gg 0 (sv ({ x1 with last:=x1.last.set k z }))∧Y.cell? ⟨gg,25,none⟩=some (.slice q8 ([z]).length c8)) (by kernel_rfl) ?_;change wpAnyH _ _ _ _ _ _ _ _ (w8).drew;rw[hU];clear hU;refine tka9 0 s0 ?_;refine tka9 1 s0 ?_;refine tka9 2 s0 ?_;refine tkg9 3 (v:= .agg (sv ({ x1 with last:=x1.last.set k z })).toArray) (yieldsIf_load_mid (by kernel_rfl) 46 (.tmp 169) rfl gg 0 (by go_simp) (sv ({ x1 with last:=x1.last.set k z })) _ (λ_ h=>h.1) Tryz.underlying46 rfl (FX8.out)) s0 ?_;refine tka9 4 s0 ?_;refine tka9 5 s0 ?_;refine tka9 6 s0 ?_;refine tk9 7 ?_ ?_ s0 ?_;rotate_left 1
            ·(intro w hS;have hs:=hS.2;clear hS;go_simp;try (with_reducible rfl))
            go_simp;refine rdw9 8 λK hK=>?_
            refine wstore_part 46 (.tmp 6) (.tmp 170) (w.heap.size+2) 0 46 [] zSpK [] (sv ({ x1 with last:=x1.last.set k z })) rfl (by rw[List.nil_append,List.append_nil];exact ZU.out) rfl LX8.out.symm FX8.out FO8.out rfl rfl ?_;intro wz a1 a2 a3;have RZ:=hid (show Blk wz (w.heap.size+2) 46 (sv ({ x1 with last:=x1.last.set k z })) by have:=a1.out;rwa [List.nil_append,List.append_nil] at this);have KZ:=a2.out.keptOne rfl;have SPZ:=hid (GU.out.sp.keptF KZ OU.out);have BZZ:=hid (below_one GU.out.bel (by omega) KZ);have RLZ:=hid ((RowL.of_own pv_len rfl GU.out.ro).keptF KZ (λ_ b hb e=>own_apart GU.out.ro ZU.out (by decide) (by rw[hb.own,e])));have TRZ:=hid (λ(zz:Rpv) (hz:zz∈[z])=>(GU.out.rt zz hz).keptF KZ ((GU.out.rt zz hz).offZ ZU.out));have HGN:gg≠w.heap.size+2:=by have:=HG6.out;omega
            have s10:wz.rangeAt gg 0 (sv ({ x1 with last:=x1.last.set k z }))∧wz.cell? ⟨gg,25,none⟩=some (.slice q8 ([z]).length c8):=⟨KZ.range GU.out.box.lt HGN s0.1,(KZ.cell (p:=⟨gg,25,none⟩) GU.out.box.lt HGN).trans s0.2⟩;refine hK.out _ _ s10 (λ_=>?_);clear hK K a1 a2 a3 HGN;refine tka9 9 s10 ?_;refine wpAnyH_done (by kernel_rfl) ?_ _;go_simp;go_wp2_with fail
            exact ret_blkS (p:=6) (u:=7) (ty:=46) rfl rfl (w.heap.size+2) 46 _ _ rfl RZ.out Tryz.underlying46 rfl FX8.out _ rfl ⟨_,[z],q8,c8,rfl,S8.out,R8.out,SPZ.out,RLZ.out,TRZ.out,GU.out.oe,BZZ.out⟩
           |true=>
            have hA:=actP_o HAL.out;rw[show(qp r.r).kd=r.r.kd from rfl] at hA
            by_cases k8_:r.r.kd=8
            ·rw[k8_,if_neg (by decide),if_neg (by decide),if_neg (by decide),if_pos rfl] at hA;rw[k8_] at d2;have HQ:=hid (show doP x.sp now r.r=(noteP x1.sp (tellP (qp r.r) 1),[tellP (qp r.r) 1]) from by rw[HDF.out,hA,fin_no]);clear hA;have TE:=hid (tellE_t w gg k x1 none 0 r 1 W7 G7.out HC.out HK4.out)
             go_wp2_with ((with_reducible refine load_blk 54 (.tmp 5) (w.heap.size+1) 54 (rv r) _ rfl rfl ?_ Tryz.underlying54 ?_ ?_ ?_ ?_);exact BR7.out;exact rfl;exact FR.out;exact rfl)
             refine TE.out.mono ?_
             rintro e w8 ⟨rfl,z,q8,c8,hz,g8,s8,k8,o8⟩
             have G8:=hid g8;have K8:=hid (id k8);have S8:=hid (show Spv.sp { x1 with last:=x1.last.set k z } =(doP x.sp now r.r).1 from by rw[HQ.out];exact s8);have R8:=hid (show[z].map (·.r)=(doP x.sp now r.r).2 from by rw[HQ.out];exact congrArg (λz=>[z]) hz);clear g8 k8 s8 hz TE o8
             go_upto_region 30 with(fail)
             have Z8:=hid (BZ7.out.kept K8.out (noGF (by have:=HG6.out;omega)));have M8:=hid (show MayS ({ x1 with last:=x1.last.set k z }).sp from by rw[S8.out];exact(do_ok MS.out now r.r).1);obtain⟨U,hU⟩:∃ U,(w8).drew=U:=⟨_,rfl⟩;have BU:=hid (show Below (w8).heap.size (w8) U from by rw[←hU];exact(Below.refl _ _).drew);have GU:=hid (G8.out.below BU.out);have ZU:=hid (Z8.out.below BU.out Z8.out.lt);have OU:=hid (GU.out.sp.offZ ZU.out M8.out);have FX8:=hid (sv_size ({ x1 with last:=x1.last.set k z }) GU.out.sp.l4);have FO8:=hid (sv_one ({ x1 with last:=x1.last.set k z }));have LX8:=hid (show(sv ({ x1 with last:=x1.last.set k z })).length=zSpK.length from sv_len ({ x1 with last:=x1.last.set k z }) GU.out.sp.l4);have s0:U.rangeAt gg 0 (sv ({ x1 with last:=x1.last.set k z }))∧U.cell? ⟨gg,25,none⟩=some (.slice q8 ([z]).length c8):=⟨GU.out.row,GU.out.out⟩;refine wp_region_held (S:=λY=>Y.rangeAt gg 0 (sv ({ x1 with last:=x1.last.set k z }))∧Y.cell? ⟨gg,25,none⟩=some (.slice q8 ([z]).length c8)) (by kernel_rfl) ?_;change wpAnyH _ _ _ _ _ _ _ _ (w8).drew;rw[hU];clear hU;refine tka9 0 s0 ?_;refine tka9 1 s0 ?_;refine tka9 2 s0 ?_;refine tkg9 3 (v:= .agg (sv ({ x1 with last:=x1.last.set k z })).toArray) (yieldsIf_load_mid (by kernel_rfl) 46 (.tmp 169) rfl gg 0 (by go_simp) (sv ({ x1 with last:=x1.last.set k z })) _ (λ_ h=>h.1) Tryz.underlying46 rfl (FX8.out)) s0 ?_;refine tka9 4 s0 ?_;refine tka9 5 s0 ?_;refine tka9 6 s0 ?_;refine tk9 7 ?_ ?_ s0 ?_;rotate_left 1
             ·(intro w hS;have hs:=hS.2;clear hS;go_simp;try (with_reducible rfl))
             go_simp;refine rdw9 8 λK hK=>?_
             refine wstore_part 46 (.tmp 6) (.tmp 170) (w.heap.size+2) 0 46 [] zSpK [] (sv ({ x1 with last:=x1.last.set k z })) rfl (by rw[List.nil_append,List.append_nil];exact ZU.out) rfl LX8.out.symm FX8.out FO8.out rfl rfl ?_;intro wz a1 a2 a3;have RZ:=hid (show Blk wz (w.heap.size+2) 46 (sv ({ x1 with last:=x1.last.set k z })) by have:=a1.out;rwa [List.nil_append,List.append_nil] at this);have KZ:=a2.out.keptOne rfl;have SPZ:=hid (GU.out.sp.keptF KZ OU.out);have BZZ:=hid (below_one GU.out.bel (by omega) KZ);have RLZ:=hid ((RowL.of_own pv_len rfl GU.out.ro).keptF KZ (λ_ b hb e=>own_apart GU.out.ro ZU.out (by decide) (by rw[hb.own,e])));have TRZ:=hid (λ(zz:Rpv) (hz:zz∈[z])=>(GU.out.rt zz hz).keptF KZ ((GU.out.rt zz hz).offZ ZU.out));have HGN:gg≠w.heap.size+2:=by have:=HG6.out;omega
             have s10:wz.rangeAt gg 0 (sv ({ x1 with last:=x1.last.set k z }))∧wz.cell? ⟨gg,25,none⟩=some (.slice q8 ([z]).length c8):=⟨KZ.range GU.out.box.lt HGN s0.1,(KZ.cell (p:=⟨gg,25,none⟩) GU.out.box.lt HGN).trans s0.2⟩;refine hK.out _ _ s10 (λ_=>?_);clear hK K a1 a2 a3 HGN;refine tka9 9 s10 ?_;refine wpAnyH_done (by kernel_rfl) ?_ _;go_simp;go_wp2_with fail
             exact ret_blkS (p:=6) (u:=7) (ty:=46) rfl rfl (w.heap.size+2) 46 _ _ rfl RZ.out Tryz.underlying46 rfl FX8.out _ rfl ⟨_,[z],q8,c8,rfl,S8.out,R8.out,SPZ.out,RLZ.out,TRZ.out,GU.out.oe,BZZ.out⟩
            ·have e8:(r.r.kd == 8)=false:=by rw[beq_eq_false_iff_ne];exact k8_
             by_cases k1_:r.r.kd=1
             ·rw[if_pos k1_] at hA;rw[k1_] at d2 e8;have HQ:=hid (show doP x.sp now r.r=finP (x1.sp,bringP x1.sp (qp r.r)) (qp r.r) from by rw[HDF.out,hA]);clear hA;have RO:=hid (refout_t w gg k x1 none 0 r W7 G7.out RQ7.out SM7.out HC.out HK4.out)
              go_wp2_with ((with_reducible refine load_blk 54 (.tmp 5) (w.heap.size+1) 54 (rv r) _ rfl rfl ?_ Tryz.underlying54 ?_ ?_ ?_ ?_);exact BR7.out;exact rfl;exact FR.out;exact rfl)
              refine RO.out.mono ?_
              rintro e w8 ⟨rfl,x8,q8,c8,L8,g8,s8,r8,k8⟩
              have G8:=hid g8;have K8:=hid (id k8);have S8:=hid (show x8.sp=(doP x.sp now r.r).1 from by rw[HQ.out];exact s8);have R8:=hid (show L8.map (·.r)=(doP x.sp now r.r).2 from by rw[HQ.out];exact r8);clear g8 k8 s8 r8 RO
              go_upto_region 30 with(fail)
              have Z8:=hid (BZ7.out.kept K8.out (noGF (by have:=HG6.out;omega)));have M8:=hid (show MayS (x8).sp from by rw[S8.out];exact(do_ok MS.out now r.r).1);obtain⟨U,hU⟩:∃ U,(w8).drew=U:=⟨_,rfl⟩;have BU:=hid (show Below (w8).heap.size (w8) U from by rw[←hU];exact(Below.refl _ _).drew);have GU:=hid (G8.out.below BU.out);have ZU:=hid (Z8.out.below BU.out Z8.out.lt);have OU:=hid (GU.out.sp.offZ ZU.out M8.out);have FX8:=hid (sv_size (x8) GU.out.sp.l4);have FO8:=hid (sv_one (x8));have LX8:=hid (show(sv (x8)).length=zSpK.length from sv_len (x8) GU.out.sp.l4);have s0:U.rangeAt gg 0 (sv (x8))∧U.cell? ⟨gg,25,none⟩=some (.slice q8 (L8).length c8):=⟨GU.out.row,GU.out.out⟩;refine wp_region_held (S:=λY=>Y.rangeAt gg 0 (sv (x8))∧Y.cell? ⟨gg,25,none⟩=some (.slice q8 (L8).length c8)) (by kernel_rfl) ?_;change wpAnyH _ _ _ _ _ _ _ _ (w8).drew;rw[hU];clear hU;refine tka9 0 s0 ?_;refine tka9 1 s0 ?_;refine tka9 2 s0 ?_;refine tkg9 3 (v:= .agg (sv (x8)).toArray) (yieldsIf_load_mid (by kernel_rfl) 46 (.tmp 169) rfl gg 0 (by go_simp) (sv (x8)) _ (λ_ h=>h.1) Tryz.underlying46 rfl (FX8.out)) s0 ?_;refine tka9 4 s0 ?_;refine tka9 5 s0 ?_;refine tka9 6 s0 ?_;refine tk9 7 ?_ ?_ s0 ?_;rotate_left 1
              ·(intro w hS;have hs:=hS.2;clear hS;go_simp;try (with_reducible rfl))
              go_simp;refine rdw9 8 λK hK=>?_
              refine wstore_part 46 (.tmp 6) (.tmp 170) (w.heap.size+2) 0 46 [] zSpK [] (sv (x8)) rfl (by rw[List.nil_append,List.append_nil];exact ZU.out) rfl LX8.out.symm FX8.out FO8.out rfl rfl ?_;intro wz a1 a2 a3;have RZ:=hid (show Blk wz (w.heap.size+2) 46 (sv (x8)) by have:=a1.out;rwa [List.nil_append,List.append_nil] at this);have KZ:=a2.out.keptOne rfl;have SPZ:=hid (GU.out.sp.keptF KZ OU.out);have BZZ:=hid (below_one GU.out.bel (by omega) KZ);have RLZ:=hid ((RowL.of_own pv_len rfl GU.out.ro).keptF KZ (λ_ b hb e=>own_apart GU.out.ro ZU.out (by decide) (by rw[hb.own,e])));have TRZ:=hid (λ(zz:Rpv) (hz:zz∈L8)=>(GU.out.rt zz hz).keptF KZ ((GU.out.rt zz hz).offZ ZU.out));have HGN:gg≠w.heap.size+2:=by have:=HG6.out;omega
              have s10:wz.rangeAt gg 0 (sv (x8))∧wz.cell? ⟨gg,25,none⟩=some (.slice q8 (L8).length c8):=⟨KZ.range GU.out.box.lt HGN s0.1,(KZ.cell (p:=⟨gg,25,none⟩) GU.out.box.lt HGN).trans s0.2⟩;refine hK.out _ _ s10 (λ_=>?_);clear hK K a1 a2 a3 HGN;refine tka9 9 s10 ?_;refine wpAnyH_done (by kernel_rfl) ?_ _;go_simp;go_wp2_with fail
              exact ret_blkS (p:=6) (u:=7) (ty:=46) rfl rfl (w.heap.size+2) 46 _ _ rfl RZ.out Tryz.underlying46 rfl FX8.out _ rfl ⟨_,L8,q8,c8,rfl,S8.out,R8.out,SPZ.out,RLZ.out,TRZ.out,GU.out.oe,BZZ.out⟩
             ·rw[if_neg k1_] at hA;have e1:(r.r.kd == 1)=false:=by rw[beq_eq_false_iff_ne];exact k1_
              by_cases k7_:r.r.kd=7
              ·rw[k7_,if_neg (by decide),if_pos rfl] at hA;rw[k7_] at d2 e8 e1;have HQ:=hid (show doP x.sp now r.r=finP (replP x1.sp (qp r.r) (fnd (qp r.r).p x1.sp.its)) (qp r.r) from by rw[HDF.out,hA]);clear hA;have RO:=hid (refreplace_t w gg k x1 none 0 r W7 G7.out RQ7.out SM7.out HC.out HK4.out CAP7.out)
               go_wp2_with ((with_reducible refine load_blk 54 (.tmp 5) (w.heap.size+1) 54 (rv r) _ rfl rfl ?_ Tryz.underlying54 ?_ ?_ ?_ ?_);exact BR7.out;exact rfl;exact FR.out;exact rfl)
               refine RO.out.mono ?_
               rintro e w8 ⟨rfl,x8,q8,c8,L8,g8,s8,r8,k8⟩
               have G8:=hid g8;have K8:=hid (id k8);have S8:=hid (show x8.sp=(doP x.sp now r.r).1 from by rw[HQ.out];exact s8);have R8:=hid (show L8.map (·.r)=(doP x.sp now r.r).2 from by rw[HQ.out];exact r8);clear g8 k8 s8 r8 RO
               go_upto_region 30 with(fail)
               have Z8:=hid (BZ7.out.kept K8.out (noGF (by have:=HG6.out;omega)));have M8:=hid (show MayS (x8).sp from by rw[S8.out];exact(do_ok MS.out now r.r).1);obtain⟨U,hU⟩:∃ U,(w8).drew=U:=⟨_,rfl⟩;have BU:=hid (show Below (w8).heap.size (w8) U from by rw[←hU];exact(Below.refl _ _).drew);have GU:=hid (G8.out.below BU.out);have ZU:=hid (Z8.out.below BU.out Z8.out.lt);have OU:=hid (GU.out.sp.offZ ZU.out M8.out);have FX8:=hid (sv_size (x8) GU.out.sp.l4);have FO8:=hid (sv_one (x8));have LX8:=hid (show(sv (x8)).length=zSpK.length from sv_len (x8) GU.out.sp.l4);have s0:U.rangeAt gg 0 (sv (x8))∧U.cell? ⟨gg,25,none⟩=some (.slice q8 (L8).length c8):=⟨GU.out.row,GU.out.out⟩;refine wp_region_held (S:=λY=>Y.rangeAt gg 0 (sv (x8))∧Y.cell? ⟨gg,25,none⟩=some (.slice q8 (L8).length c8)) (by kernel_rfl) ?_;change wpAnyH _ _ _ _ _ _ _ _ (w8).drew;rw[hU];clear hU;refine tka9 0 s0 ?_;refine tka9 1 s0 ?_;refine tka9 2 s0 ?_;refine tkg9 3 (v:= .agg (sv (x8)).toArray) (yieldsIf_load_mid (by kernel_rfl) 46 (.tmp 169) rfl gg 0 (by go_simp) (sv (x8)) _ (λ_ h=>h.1) Tryz.underlying46 rfl (FX8.out)) s0 ?_;refine tka9 4 s0 ?_;refine tka9 5 s0 ?_;refine tka9 6 s0 ?_;refine tk9 7 ?_ ?_ s0 ?_;rotate_left 1
               ·(intro w hS;have hs:=hS.2;clear hS;go_simp;try (with_reducible rfl))
               go_simp;refine rdw9 8 λK hK=>?_
               refine wstore_part 46 (.tmp 6) (.tmp 170) (w.heap.size+2) 0 46 [] zSpK [] (sv (x8)) rfl (by rw[List.nil_append,List.append_nil];exact ZU.out) rfl LX8.out.symm FX8.out FO8.out rfl rfl ?_;intro wz a1 a2 a3;have RZ:=hid (show Blk wz (w.heap.size+2) 46 (sv (x8)) by have:=a1.out;rwa [List.nil_append,List.append_nil] at this);have KZ:=a2.out.keptOne rfl;have SPZ:=hid (GU.out.sp.keptF KZ OU.out);have BZZ:=hid (below_one GU.out.bel (by omega) KZ);have RLZ:=hid ((RowL.of_own pv_len rfl GU.out.ro).keptF KZ (λ_ b hb e=>own_apart GU.out.ro ZU.out (by decide) (by rw[hb.own,e])));have TRZ:=hid (λ(zz:Rpv) (hz:zz∈L8)=>(GU.out.rt zz hz).keptF KZ ((GU.out.rt zz hz).offZ ZU.out));have HGN:gg≠w.heap.size+2:=by have:=HG6.out;omega
               have s10:wz.rangeAt gg 0 (sv (x8))∧wz.cell? ⟨gg,25,none⟩=some (.slice q8 (L8).length c8):=⟨KZ.range GU.out.box.lt HGN s0.1,(KZ.cell (p:=⟨gg,25,none⟩) GU.out.box.lt HGN).trans s0.2⟩;refine hK.out _ _ s10 (λ_=>?_);clear hK K a1 a2 a3 HGN;refine tka9 9 s10 ?_;refine wpAnyH_done (by kernel_rfl) ?_ _;go_simp;go_wp2_with fail
               exact ret_blkS (p:=6) (u:=7) (ty:=46) rfl rfl (w.heap.size+2) 46 _ _ rfl RZ.out Tryz.underlying46 rfl FX8.out _ rfl ⟨_,L8,q8,c8,rfl,S8.out,R8.out,SPZ.out,RLZ.out,TRZ.out,GU.out.oe,BZZ.out⟩
              ·have e7:(r.r.kd == 7)=false:=by rw[beq_eq_false_iff_ne];exact k7_
               by_cases k6_:r.r.kd=6
               ·rw[if_pos k6_] at hA;rw[k6_] at d2 e8 e1 e7;have FX7:=hid (sv_size x1 G7.out.sp.l4);have d3:=(rv_cells BR7.out).2.2.2.1;have FD:=hid (refFind_t x1 r.p r.r.n r.c r.r.G W7 HR.out.n (HR.out.p.below G7.out.bel) G7.out.sp)
                go_wp2_with ((with_reducible refine load_blk 46 (.tmp 3) w.heap.size 46 (sv x1) _ rfl rfl ?_ Tryz.underlying46 ?_ ?_ ?_ ?_);exact BS7.out;exact rfl;exact FX7.out;exact rfl)
                refine FD.out.mono ?_
                rintro e w9 ⟨rfl,b9⟩
                have G9:=hid (G7.out.below b9);have BR9:=hid (BR7.out.below b9 BR7.out.lt);have RQ9:=hid (RQ7.out.below b9);have B9:=hid b9;clear b9 FD
                cases ho:fnd (fl r.r.n r.r.G) x1.sp.its with
                |none=>
                 rw[fndI_none ho];have HQ:=hid (show doP x.sp now r.r=finP (x1.sp,bringP x1.sp (qp r.r)) (qp r.r) from by rw[HDF.out,hA,show(qp r.r).p=fl r.r.n r.r.G from rfl,ho];rfl);clear hA ho;have RO:=hid (refout_t w gg k x1 none 0 r w9 G9.out RQ9.out SM7.out HC.out HK4.out)
                 go_wp2_with ((with_reducible refine load_blk 54 (.tmp 5) (w.heap.size+1) 54 (rv r) _ rfl rfl ?_ Tryz.underlying54 ?_ ?_ ?_ ?_);exact BR9.out;exact rfl;exact FR.out;exact rfl)
                 refine RO.out.mono ?_
                 rintro e w8 ⟨rfl,x8,q8,c8,L8,g8,s8,r8,k8⟩
                 have G8:=hid g8;have K8:=hid ((Kept.of_below B9.out).trans k8);have S8:=hid (show x8.sp=(doP x.sp now r.r).1 from by rw[HQ.out];exact s8);have R8:=hid (show L8.map (·.r)=(doP x.sp now r.r).2 from by rw[HQ.out];exact r8);clear g8 k8 s8 r8 RO
                 go_upto_region 30 with(fail)
                 have Z8:=hid (BZ7.out.kept K8.out (noGF (by have:=HG6.out;omega)));have M8:=hid (show MayS (x8).sp from by rw[S8.out];exact(do_ok MS.out now r.r).1);obtain⟨U,hU⟩:∃ U,(w8).drew=U:=⟨_,rfl⟩;have BU:=hid (show Below (w8).heap.size (w8) U from by rw[←hU];exact(Below.refl _ _).drew);have GU:=hid (G8.out.below BU.out);have ZU:=hid (Z8.out.below BU.out Z8.out.lt);have OU:=hid (GU.out.sp.offZ ZU.out M8.out);have FX8:=hid (sv_size (x8) GU.out.sp.l4);have FO8:=hid (sv_one (x8));have LX8:=hid (show(sv (x8)).length=zSpK.length from sv_len (x8) GU.out.sp.l4);have s0:U.rangeAt gg 0 (sv (x8))∧U.cell? ⟨gg,25,none⟩=some (.slice q8 (L8).length c8):=⟨GU.out.row,GU.out.out⟩;refine wp_region_held (S:=λY=>Y.rangeAt gg 0 (sv (x8))∧Y.cell? ⟨gg,25,none⟩=some (.slice q8 (L8).length c8)) (by kernel_rfl) ?_;change wpAnyH _ _ _ _ _ _ _ _ (w8).drew;rw[hU];clear hU;refine tka9 0 s0 ?_;refine tka9 1 s0 ?_;refine tka9 2 s0 ?_;refine tkg9 3 (v:= .agg (sv (x8)).toArray) (yieldsIf_load_mid (by kernel_rfl) 46 (.tmp 169) rfl gg 0 (by go_simp) (sv (x8)) _ (λ_ h=>h.1) Tryz.underlying46 rfl (FX8.out)) s0 ?_;refine tka9 4 s0 ?_;refine tka9 5 s0 ?_;refine tka9 6 s0 ?_;refine tk9 7 ?_ ?_ s0 ?_;rotate_left 1
                 ·(intro w hS;have hs:=hS.2;clear hS;go_simp;try (with_reducible rfl))
                 go_simp;refine rdw9 8 λK hK=>?_
                 refine wstore_part 46 (.tmp 6) (.tmp 170) (w.heap.size+2) 0 46 [] zSpK [] (sv (x8)) rfl (by rw[List.nil_append,List.append_nil];exact ZU.out) rfl LX8.out.symm FX8.out FO8.out rfl rfl ?_;intro wz a1 a2 a3;have RZ:=hid (show Blk wz (w.heap.size+2) 46 (sv (x8)) by have:=a1.out;rwa [List.nil_append,List.append_nil] at this);have KZ:=a2.out.keptOne rfl;have SPZ:=hid (GU.out.sp.keptF KZ OU.out);have BZZ:=hid (below_one GU.out.bel (by omega) KZ);have RLZ:=hid ((RowL.of_own pv_len rfl GU.out.ro).keptF KZ (λ_ b hb e=>own_apart GU.out.ro ZU.out (by decide) (by rw[hb.own,e])));have TRZ:=hid (λ(zz:Rpv) (hz:zz∈L8)=>(GU.out.rt zz hz).keptF KZ ((GU.out.rt zz hz).offZ ZU.out));have HGN:gg≠w.heap.size+2:=by have:=HG6.out;omega
                 have s10:wz.rangeAt gg 0 (sv (x8))∧wz.cell? ⟨gg,25,none⟩=some (.slice q8 (L8).length c8):=⟨KZ.range GU.out.box.lt HGN s0.1,(KZ.cell (p:=⟨gg,25,none⟩) GU.out.box.lt HGN).trans s0.2⟩;refine hK.out _ _ s10 (λ_=>?_);clear hK K a1 a2 a3 HGN;refine tka9 9 s10 ?_;refine wpAnyH_done (by kernel_rfl) ?_ _;go_simp;go_wp2_with fail
                 exact ret_blkS (p:=6) (u:=7) (ty:=46) rfl rfl (w.heap.size+2) 46 _ _ rfl RZ.out Tryz.underlying46 rfl FX8.out _ rfl ⟨_,L8,q8,c8,rfl,S8.out,R8.out,SPZ.out,RLZ.out,TRZ.out,GU.out.oe,BZZ.out⟩
                |some i=>
                 rw[fndI_some ho];have HQ:=hid (show doP x.sp now r.r=(noteP x1.sp (tellP (qp r.r) 3),[tellP (qp r.r) 3]) from by rw[HDF.out,hA,show(qp r.r).p=fl r.r.n r.r.G from rfl,ho];rfl);have i0:(0:Int)≤(i:Int):=by omega
                 clear hA ho;have TE:=hid (tellE_t w gg k x1 none 0 r 3 w9 G9.out HC.out HK4.out)
                 go_wp2_with ((with_reducible refine load_blk 54 (.tmp 5) (w.heap.size+1) 54 (rv r) _ rfl rfl ?_ Tryz.underlying54 ?_ ?_ ?_ ?_);exact BR9.out;exact rfl;exact FR.out;exact rfl)
                 refine TE.out.mono ?_
                 rintro e w8 ⟨rfl,z,q8,c8,hz,g8,s8,k8,o8⟩
                 have G8:=hid g8;have K8:=hid ((Kept.of_below B9.out).trans k8);have S8:=hid (show Spv.sp { x1 with last:=x1.last.set k z } =(doP x.sp now r.r).1 from by rw[HQ.out];exact s8);have R8:=hid (show[z].map (·.r)=(doP x.sp now r.r).2 from by rw[HQ.out];exact congrArg (λz=>[z]) hz);clear g8 k8 s8 hz TE o8
                 go_upto_region 30 with(fail)
                 have Z8:=hid (BZ7.out.kept K8.out (noGF (by have:=HG6.out;omega)));have M8:=hid (show MayS ({ x1 with last:=x1.last.set k z }).sp from by rw[S8.out];exact(do_ok MS.out now r.r).1);obtain⟨U,hU⟩:∃ U,(w8).drew=U:=⟨_,rfl⟩;have BU:=hid (show Below (w8).heap.size (w8) U from by rw[←hU];exact(Below.refl _ _).drew);have GU:=hid (G8.out.below BU.out);have ZU:=hid (Z8.out.below BU.out Z8.out.lt);have OU:=hid (GU.out.sp.offZ ZU.out M8.out);have FX8:=hid (sv_size ({ x1 with last:=x1.last.set k z }) GU.out.sp.l4);have FO8:=hid (sv_one ({ x1 with last:=x1.last.set k z }));have LX8:=hid (show(sv ({ x1 with last:=x1.last.set k z })).length=zSpK.length from sv_len ({ x1 with last:=x1.last.set k z }) GU.out.sp.l4);have s0:U.rangeAt gg 0 (sv ({ x1 with last:=x1.last.set k z }))∧U.cell? ⟨gg,25,none⟩=some (.slice q8 ([z]).length c8):=⟨GU.out.row,GU.out.out⟩;refine wp_region_held (S:=λY=>Y.rangeAt gg 0 (sv ({ x1 with last:=x1.last.set k z }))∧Y.cell? ⟨gg,25,none⟩=some (.slice q8 ([z]).length c8)) (by kernel_rfl) ?_;change wpAnyH _ _ _ _ _ _ _ _ (w8).drew;rw[hU];clear hU;refine tka9 0 s0 ?_;refine tka9 1 s0 ?_;refine tka9 2 s0 ?_;refine tkg9 3 (v:= .agg (sv ({ x1 with last:=x1.last.set k z })).toArray) (yieldsIf_load_mid (by kernel_rfl) 46 (.tmp 169) rfl gg 0 (by go_simp) (sv ({ x1 with last:=x1.last.set k z })) _ (λ_ h=>h.1) Tryz.underlying46 rfl (FX8.out)) s0 ?_;refine tka9 4 s0 ?_;refine tka9 5 s0 ?_;refine tka9 6 s0 ?_;refine tk9 7 ?_ ?_ s0 ?_;rotate_left 1
                 ·(intro w hS;have hs:=hS.2;clear hS;go_simp;try (with_reducible rfl))
                 go_simp;refine rdw9 8 λK hK=>?_
                 refine wstore_part 46 (.tmp 6) (.tmp 170) (w.heap.size+2) 0 46 [] zSpK [] (sv ({ x1 with last:=x1.last.set k z })) rfl (by rw[List.nil_append,List.append_nil];exact ZU.out) rfl LX8.out.symm FX8.out FO8.out rfl rfl ?_;intro wz a1 a2 a3;have RZ:=hid (show Blk wz (w.heap.size+2) 46 (sv ({ x1 with last:=x1.last.set k z })) by have:=a1.out;rwa [List.nil_append,List.append_nil] at this);have KZ:=a2.out.keptOne rfl;have SPZ:=hid (GU.out.sp.keptF KZ OU.out);have BZZ:=hid (below_one GU.out.bel (by omega) KZ);have RLZ:=hid ((RowL.of_own pv_len rfl GU.out.ro).keptF KZ (λ_ b hb e=>own_apart GU.out.ro ZU.out (by decide) (by rw[hb.own,e])));have TRZ:=hid (λ(zz:Rpv) (hz:zz∈[z])=>(GU.out.rt zz hz).keptF KZ ((GU.out.rt zz hz).offZ ZU.out));have HGN:gg≠w.heap.size+2:=by have:=HG6.out;omega
                 have s10:wz.rangeAt gg 0 (sv ({ x1 with last:=x1.last.set k z }))∧wz.cell? ⟨gg,25,none⟩=some (.slice q8 ([z]).length c8):=⟨KZ.range GU.out.box.lt HGN s0.1,(KZ.cell (p:=⟨gg,25,none⟩) GU.out.box.lt HGN).trans s0.2⟩;refine hK.out _ _ s10 (λ_=>?_);clear hK K a1 a2 a3 HGN;refine tka9 9 s10 ?_;refine wpAnyH_done (by kernel_rfl) ?_ _;go_simp;go_wp2_with fail
                 exact ret_blkS (p:=6) (u:=7) (ty:=46) rfl rfl (w.heap.size+2) 46 _ _ rfl RZ.out Tryz.underlying46 rfl FX8.out _ rfl ⟨_,[z],q8,c8,rfl,S8.out,R8.out,SPZ.out,RLZ.out,TRZ.out,GU.out.oe,BZZ.out⟩
               ·rw[if_neg k6_,if_neg k7_,if_neg k8_] at hA;have e6:(r.r.kd == 6)=false:=by rw[beq_eq_false_iff_ne];exact k6_
                have HQ:=hid (show doP x.sp now r.r=finP ((lookP x1.sp (qp r.r) (fnd (qp r.r).p x1.sp.its)).1,(lookP x1.sp (qp r.r) (fnd (qp r.r).p x1.sp.its)).2,false) (qp r.r) from by rw[HDF.out,hA]);clear hA;have RO:=hid (reflook_t w gg k x1 none 0 r W7 G7.out RQ7.out SM7.out HC.out HK4.out CAP7.out)
                go_wp2_with ((with_reducible refine load_blk 54 (.tmp 5) (w.heap.size+1) 54 (rv r) _ rfl rfl ?_ Tryz.underlying54 ?_ ?_ ?_ ?_);exact BR7.out;exact rfl;exact FR.out;exact rfl)
                refine RO.out.mono ?_
                rintro e w8 ⟨rfl,x8,q8,c8,L8,g8,s8,r8,k8⟩
                have G8:=hid g8;have K8:=hid (id k8);have S8:=hid (show x8.sp=(doP x.sp now r.r).1 from by rw[HQ.out];exact s8);have R8:=hid (show L8.map (·.r)=(doP x.sp now r.r).2 from by rw[HQ.out];exact r8);clear g8 k8 s8 r8 RO
                go_upto_region 30 with(fail)
                have Z8:=hid (BZ7.out.kept K8.out (noGF (by have:=HG6.out;omega)));have M8:=hid (show MayS (x8).sp from by rw[S8.out];exact(do_ok MS.out now r.r).1);obtain⟨U,hU⟩:∃ U,(w8).drew=U:=⟨_,rfl⟩;have BU:=hid (show Below (w8).heap.size (w8) U from by rw[←hU];exact(Below.refl _ _).drew);have GU:=hid (G8.out.below BU.out);have ZU:=hid (Z8.out.below BU.out Z8.out.lt);have OU:=hid (GU.out.sp.offZ ZU.out M8.out);have FX8:=hid (sv_size (x8) GU.out.sp.l4);have FO8:=hid (sv_one (x8));have LX8:=hid (show(sv (x8)).length=zSpK.length from sv_len (x8) GU.out.sp.l4);have s0:U.rangeAt gg 0 (sv (x8))∧U.cell? ⟨gg,25,none⟩=some (.slice q8 (L8).length c8):=⟨GU.out.row,GU.out.out⟩;refine wp_region_held (S:=λY=>Y.rangeAt gg 0 (sv (x8))∧Y.cell? ⟨gg,25,none⟩=some (.slice q8 (L8).length c8)) (by kernel_rfl) ?_;change wpAnyH _ _ _ _ _ _ _ _ (w8).drew;rw[hU];clear hU;refine tka9 0 s0 ?_;refine tka9 1 s0 ?_;refine tka9 2 s0 ?_;refine tkg9 3 (v:= .agg (sv (x8)).toArray) (yieldsIf_load_mid (by kernel_rfl) 46 (.tmp 169) rfl gg 0 (by go_simp) (sv (x8)) _ (λ_ h=>h.1) Tryz.underlying46 rfl (FX8.out)) s0 ?_;refine tka9 4 s0 ?_;refine tka9 5 s0 ?_;refine tka9 6 s0 ?_;refine tk9 7 ?_ ?_ s0 ?_;rotate_left 1
                ·(intro w hS;have hs:=hS.2;clear hS;go_simp;try (with_reducible rfl))
                go_simp;refine rdw9 8 λK hK=>?_
                refine wstore_part 46 (.tmp 6) (.tmp 170) (w.heap.size+2) 0 46 [] zSpK [] (sv (x8)) rfl (by rw[List.nil_append,List.append_nil];exact ZU.out) rfl LX8.out.symm FX8.out FO8.out rfl rfl ?_;intro wz a1 a2 a3;have RZ:=hid (show Blk wz (w.heap.size+2) 46 (sv (x8)) by have:=a1.out;rwa [List.nil_append,List.append_nil] at this);have KZ:=a2.out.keptOne rfl;have SPZ:=hid (GU.out.sp.keptF KZ OU.out);have BZZ:=hid (below_one GU.out.bel (by omega) KZ);have RLZ:=hid ((RowL.of_own pv_len rfl GU.out.ro).keptF KZ (λ_ b hb e=>own_apart GU.out.ro ZU.out (by decide) (by rw[hb.own,e])));have TRZ:=hid (λ(zz:Rpv) (hz:zz∈L8)=>(GU.out.rt zz hz).keptF KZ ((GU.out.rt zz hz).offZ ZU.out));have HGN:gg≠w.heap.size+2:=by have:=HG6.out;omega
                have s10:wz.rangeAt gg 0 (sv (x8))∧wz.cell? ⟨gg,25,none⟩=some (.slice q8 (L8).length c8):=⟨KZ.range GU.out.box.lt HGN s0.1,(KZ.cell (p:=⟨gg,25,none⟩) GU.out.box.lt HGN).trans s0.2⟩;refine hK.out _ _ s10 (λ_=>?_);clear hK K a1 a2 a3 HGN;refine tka9 9 s10 ?_;refine wpAnyH_done (by kernel_rfl) ?_ _;go_simp;go_wp2_with fail
                exact ret_blkS (p:=6) (u:=7) (ty:=46) rfl rfl (w.heap.size+2) 46 _ _ rfl RZ.out Tryz.underlying46 rfl FX8.out _ rfl ⟨_,L8,q8,c8,rfl,S8.out,R8.out,SPZ.out,RLZ.out,TRZ.out,GU.out.oe,BZZ.out⟩
end Go.Proofs.YtlipjglehongeaaGreatDoor
