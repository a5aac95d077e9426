/-
  LAYER 13's laws
-/
import Derived.Test.YtjlophplcmidlaaGreatDoorAd28
import Derived.Test.YtjlophplcmidlaaGreatDoorAd35
import Derived.Test.YtjlophplcmidlaaGreatDoorAd36
import Derived.Test.YtjlophplcmidlaaGreatDoorTk
open Go.Lib (hid)
set_option maxRecDepth 100000
namespace Go.Proofs.YtjlophplcmidlaaGreatDoor
open Go Go.RowKit Sh
def tpv (g:Nat):List Value:=[.pointer (some ⟨g,0,none⟩)]
theorem tpv_len (g:Nat):(tpv g).length=1:=rfl
theorem tpv_one (g:Nat):∀ v∈tpv g,v.oneCell'=true:=λv hv=>by obtain rfl:=List.mem_singleton.1 hv;rfl
theorem infoTp:(Tryz.prog.info? 35).map (λi=>(i.zero,i.size,i.bytes))=some (some (.pointer none),1,8):=by kernel_rfl
def treeM (s i:Nat):List Value:=rtC (secI s i) (secS s i) 2 (nod (secI s i) (secS s i) 1 63)
def keyM (s i:Nat):List Nat:=lpubN (secI s i) (secS s i) 1
theorem keyM_len (s i:Nat):(keyM s i).length=56:=lpubN_length _ _ 1 (secI_length s i)
def NM (W:World) (B:Nat) (y:Ky):Prop:=∃ b rest,y.A=some ⟨b,0,none⟩∧B≤b∧y.X.length≤y.c∧Blk W b 5 (u8s y.X++rest)
theorem NM.below {W W':World} {B:Nat} {y:Ky} (h:NM W B y) (hb:Below W.heap.size W W'):NM W' B y:=by
 obtain⟨b,rest,h1,h2,hyc,h3⟩:=h;exact⟨b,rest,h1,h2,hyc,h3.below hb h3.lt⟩
theorem NM.sr {W:World} {B:Nat} {y:Ky} (h:NM W B y):Sr W y.A y.X:=by
 obtain⟨b,rest,h1,h2,hyc,h3⟩:=h;rw[h1];exact Sr.of_blk h3 rfl
structure MK (w0 W:World) (s:Nat) (x:Gv) (lp:Option Addr) (lc:Nat) (ts:List Nat):Prop where
 res:Blk W w0.heap.size 27 (gv zGv)
 bx:Blk W (w0.heap.size+1) 27 (gv x)
 ow:W.ownsRow w0.heap.size 25 1 (.slice x.kp x.ks.length x.kc) x.ks.length (x.ks.flatMap kyv)
 nk:∀ y∈x.ks,NM W w0.heap.size y
 ol:W.ownsRow w0.heap.size 35 1 (.slice lp ts.length lc) ts.length (ts.flatMap tpv)
 tr:∀ i g,ts[i]? =some g→w0.heap.size≤g∧Blk W g 62 (treeM s i)
 bel:Below w0.heap.size w0 W
section
variable {w0 W W' : World} {s : Nat} {x : Gv} {lp : Option Addr} {lc : Nat} {ts : List Nat}
theorem MK.below (h:MK w0 W s x lp lc ts) (hb:Below W.heap.size W W'):MK w0 W' s x lp lc ts:=
 ⟨h.res.below hb h.res.lt,h.bx.below hb h.bx.lt,own_below h.ow hb,λy hy=>(h.nk y hy).below hb,own_below h.ol hb,λi g hi=>⟨(h.tr i g hi).1,(h.tr i g hi).2.below hb (h.tr i g hi).2.lt⟩,h.bel.trans (hb.mono h.bel.size)⟩
theorem MK.growL {g:Nat} {lp':Option Addr} {lc':Nat} (h:MK w0 W s x lp lc ts) (hg:w0.heap.size≤g) (ht:Blk W g 62 (treeM s ts.length)) (ho:W'.ownsRow w0.heap.size 35 1 (.slice lp' (ts.length+1) lc') (ts.length+1) (ts.flatMap tpv++[g].flatMap tpv)) (hr:W.grownBy W' (Value.slice lp ts.length lc).ownBlock):
  MK w0 W' s x lp' lc' (ts++[g]):=by
 have k:Kept (λk=>(Value.slice lp ts.length lc).ownBlock=some k) W W':=(Kept.refl _ W).grown hr (λk e=> .inl e);have hge:∀ i,(Value.slice lp ts.length lc).ownBlock=some i→w0.heap.size≤i:=λi hi=>(h.ol.lt i hi).1
 refine⟨h.res.kept k (λe=>own_apart h.ol h.res (by decide) e),h.bx.kept k (λe=>own_apart h.ol h.bx (by decide) e),own_kept h.ow k (λi hi e=>own_two h.ow h.ol (by decide) hi e),λy hy=>?_,?_,λi g' hi=>?_,h.bel.trans ((k.mono hge).to_below h.bel.size)⟩
 ·obtain⟨b,rest,h1,h2,hyc,h3⟩:=h.nk y hy;exact⟨b,rest,h1,h2,hyc,h3.kept k (λe=>own_apart h.ol h3 (by decide) e)⟩
 ·rw[show(ts++[g]).length=ts.length+1 by simp,List.flatMap_append];exact ho
 ·rcases Nat.lt_or_ge i ts.length with hl |hl
  ·rw[List.getElem?_append_left hl] at hi;obtain⟨h1,h2⟩:=h.tr i g' hi;exact⟨h1,h2.kept k (λe=>own_apart h.ol h2 (by decide) e)⟩
  ·have hi2:=(List.getElem?_eq_some_iff.1 hi).1;have:i=ts.length:=by simp at hi2;omega
   subst this;rw[List.getElem?_append_right (Nat.le_refl _),Nat.sub_self] at hi;obtain rfl:=Option.some.inj hi;exact⟨hg,ht.kept k (λe=>own_apart h.ol ht (by decide) e)⟩
theorem MK.growK {y:Ky} {kp':Option Addr} {kc':Nat} (h:MK w0 W s x lp lc ts) (hy:NM W w0.heap.size y) (ho:W'.ownsRow w0.heap.size 25 1 (.slice kp' (x.ks.length+1) kc') (x.ks.length+1) (x.ks.flatMap kyv++[y].flatMap kyv)) (hr:W.grownBy W' (Value.slice x.kp x.ks.length x.kc).ownBlock):
  Blk W' (w0.heap.size+1) 27 (gv x)∧MK w0 (W'.setCell ⟨w0.heap.size+1,3,none⟩ (.slice kp' (x.ks.length+1) kc')) s { x with ks:=x.ks++[y],kp:=kp',kc:=kc' } lp lc ts:=by
 have k:Kept (λk=>(Value.slice x.kp x.ks.length x.kc).ownBlock=some k) W W':=(Kept.refl _ W).grown hr (λk e=> .inl e);have hge:∀ i,(Value.slice x.kp x.ks.length x.kc).ownBlock=some i→w0.heap.size≤i:=λi hi=>(h.ow.lt i hi).1
 have b1:=h.res.kept k (λe=>own_apart h.ow h.res (by decide) e);have b2:=h.bx.kept k (λe=>own_apart h.ow h.bx (by decide) e);have ol2:=own_kept h.ol k (λi hi e=>own_two h.ol h.ow (by decide) hi e);have nk:∀ z,NM W w0.heap.size z→NM W' w0.heap.size z:=λz hz=>by
  obtain⟨b,rest,h1,h2,hyc,h3⟩:=hz;exact⟨b,rest,h1,h2,hyc,h3.kept k (λe=>own_apart h.ow h3 (by decide) e)⟩
 have bel':Below w0.heap.size w0 W':=h.bel.trans ((k.mono hge).to_below h.bel.size);refine⟨b2,?_⟩;have hk:Kept (λk=>k=w0.heap.size+1) W' (W'.setCell ⟨w0.heap.size+1,3,none⟩ (.slice kp' (x.ks.length+1) kc')):=Kept.setCell (F:=λk=>k=w0.heap.size+1) (Kept.refl _ _) (p:=⟨w0.heap.size+1,3,none⟩) (.inl rfl) _;refine⟨b1.kept hk (by omega),?_,?_,λz hz=>?_,own_kept ol2 hk (λi hi e=>own_apart ol2 b2 (by decide) (by rw[hi,e])),λi g hi=>?_,kept_below bel' hk (by omega)⟩
 ·have:=b2.store 3 (.slice kp' (x.ks.length+1) kc');rw[show gv { x with ks:=x.ks++[y],kp:=kp',kc:=kc' } =(gv x).set 3 (.slice kp' (x.ks.length+1) kc') by simp[gv]];exact this
 ·refine own_kept ?_ hk (λk hk' e=>own_apart ho b2 (by decide) (by rw[show(x.ks++[y]).length=x.ks.length+1 by simp] at hk';rw[hk',e]));rw[show(x.ks++[y]).length=x.ks.length+1 by simp,List.flatMap_append];exact ho
 ·have hz':NM W w0.heap.size z:=by
   rcases List.mem_append.1 hz with h1 |h1
   ·exact h.nk z h1
   ·rw[List.mem_singleton.1 h1];exact hy
  obtain⟨b,rest,h1,h2,hyc,h3⟩:=nk z hz';exact⟨b,rest,h1,h2,hyc,h3.kept hk (h3.apart b2 (by decide))⟩
 ·obtain⟨h1,h2⟩:=h.tr i g hi;have h3:=h2.kept k (λe=>own_apart h.ow h2 (by decide) e);exact⟨h1,h3.kept hk (h3.apart b2 (by decide))⟩
end
theorem treeM_bytes (s i:Nat):Bytes (secI s i)∧Bytes (secS s i):=⟨bytes_take (sum_bytes _ (secT_bytes s i)) 16,sum_bytes _ (sum_bytes _ (secT_bytes s i))⟩
theorem keyM_bytes (s i:Nat):Bytes (keyM s i):=lpubN_bytes _ _ 1 (by decide) (treeM_bytes s i).1 (treeM_bytes s i).2
set_option maxHeartbeats 4000000 in
theorem make_t (f s:Nat) (sd:Int) (w:World) (hf:f≤2) (hs:IntKind.u64.wrap sd=(s:Int)):
  Calls Tryz.prog 5 #[.int .i64 (f:Int),.int .i64 sd] w λe w'=>∃ (y:Gv) (lp:Option Addr) (lc:Nat) (ts:List Nat),e= .returned (.tuple #[.agg (gv y).toArray,.slice lp ts.length lc])∧ts.length=3 * f+1∧y.ge=⟨(f:Int),15,15,(List.range (3 * f+1)).map (keyM s),[]⟩∧GvW w' y∧GvC y∧RowL w' lp 1 tpv ts∧(∀ i g,ts[i]? =some g→w.heap.size≤g∧Blk w' g 62 (treeM s i))∧Below w.heap.size w w':=by
 have BG:=built_g9 (f:Int) 15 15;have F0:=hid (show MK w ((w.alloc (.cells (gv zGv).toArray 27)).alloc (.cells (gv ⟨(f:Int),15,15,none,0,[],none,0,[]⟩).toArray 27)) s ⟨(f:Int),15,15,none,0,[],none,0,[]⟩ none 0 [] from
  ⟨(Blk.new w 27 (gv zGv)).alloc _,Blk.new2 w _ 27 _,World.ownsRow_nil _ _ _ _,(λy hy=>by cases hy),World.ownsRow_nil _ _ _ _,(λi g h=>by cases h),((Below.refl _ _).alloc (Nat.le_refl _) _).alloc (by simp) _⟩)
 obtain⟨n,hn⟩:∃ n,3 * f+1=n:=⟨_,rfl⟩;have n7:n≤7:=by omega
 have hn3:(3 * (f:Int)+1)=(n:Int):=by omega
 rw[hn];have SC:=hid (λW (j:Nat) (hj:j<7)=>ksec_t sd (j:Int) s j W hs (IntWalk.u64_in _ (by omega)));have RN:=hid (λW (j:Nat)=>refnew_t (secI s j) (secS s j) 2 1 W (secI_length s j) (treeM_bytes s j).1 (secS_length s j) (treeM_bytes s j).2 (by decide) rfl);have RP:=hid (λW (j g:Nat) (h:Blk W g 62 (treeM s j))=>show Calls Tryz.prog 14 #[.pointer (some ⟨g,0,none⟩)] W λe w'=>∃ u,e= .returned u∧Fresh 5 W w' u (keyM s j) from reftpub_t (secI s j) (secS s j) 2 1 g W (secI_length s j) (secS_length s j) (by decide) rfl h);rw[show((2:Nat):Int)=2 from rfl] at RN;clear hs
 go_enter Tryz.func5,Tryz.ntmps5
 go_upto_region 2 with(fail)
 refine world_is (λY=>MK w Y s ⟨(f:Int),15,15,none,0,[],none,0,[]⟩ none 0 []) F0.out ?_
 rintro V f1
 have F1:=hid f1;clear f1 F0 BG;go_wp2_with fail
 go_loopw [7,8] (λl t wq=>∃ (j:Nat) (x:Gv) (lp:Option Addr) (lc:Nat) (ts:List Nat),j≤n∧l= .slice lp ts.length lc∧t= .int .i64 (j:Int)∧MK w wq s x lp lc ts∧ts.length=j∧x.ge=⟨(f:Int),15,15,(List.range j).map (keyM s),[]⟩∧x.sp=none∧x.sc=0) (λ_ t _=>n- (intOf t).toNat)
 case atStart=>exact⟨0,_,none,0,[],by omega,rfl,rfl,F1.out,rfl,rfl,rfl,rfl⟩
 case round=>
  clear F1;obtain⟨j,x,lp,lc,ts,hj,rfl,rfl,mk,hts,hge,hsp,hsc⟩:=hrel;have MM:=hid mk;have HGE:=hid hge;have HSP:=hid (And.intro hsp hsc);have HLN:=hid (show x.ks.length=j from by
   have h:=congrArg (λe=>e.ks.length) hge
   simpa [Gv.ge] using h)
  have HTS:=hid hts;clear mk hge hsp hsc hts
  by_cases hlt:j<n
  ·have j1:(j:Int)< (n:Int):=by omega
   have j1b:(j:Int)<3 * (f:Int)+1:=by omega
   have j7:j<7:=by omega
   go_wp2_with fail
   refine(SC.out wr j j7).mono ?_
   rintro e w3 ⟨rfl,b3⟩
   have M3:=hid (MM.out.below b3);clear b3 MM;go_wp2_with fail
   refine(RN.out w3 j).mono ?_
   rintro e w4 ⟨g,rfl,tg,hg,b4⟩
   have M4:=hid (M3.out.below b4);have TG:=hid (show Blk w4 g 62 (treeM s ts.length) from by rw[HTS.out];exact tg);have HG:=hid (show w.heap.size≤g from Nat.le_trans M3.out.bel.size hg);clear b4 tg hg M3;have bx:=(Below.refl w4.heap.size w4).alloc (Nat.le_refl _) (.cells #[.pointer (some ⟨g,0,none⟩)] 35);have M5:=hid (M4.out.below bx);have T5:=hid (TG.out.below bx TG.out.lt);have Q5:=hid (show RowL (w4.alloc (.cells #[.pointer (some ⟨g,0,none⟩)] 35)) (some ⟨w4.heap.size,0,none⟩) 1 tpv [g] from row_one tpv 1 g w4 35);have HBS:=hid (show w.heap.size≤(w4.alloc (.cells #[.pointer (some ⟨g,0,none⟩)] 35)).heap.size from M5.out.bel.size);have LL:=hid (show ts.length+1≤1000000 from by have:=HTS.out;omega);clear bx M4 TG
   go_upto_region 8 with((with_reducible refine at_op (.call { callee:= .builtin .append,args:= #[.tmp 23,.tmp 25],argTypes:= #[28,28] }) rfl ?_);go_must (refine append_rows (.tmp 23) (.tmp 25) 28 rfl rfl 35 Tryz.underlying28 infoTp rfl (by decide) (by decide) tpv_len tpv_one w.heap.size (.slice lp ts.length lc) ts.length (ts.flatMap tpv) rfl M5.out.ol (some ⟨w4.heap.size,0,none⟩) 1 1 rfl [g] rfl Q5.out LL.out HBS.out ?_);intro v7 w7 h2 h3 h5 h6;obtain⟨lp7,lc7,hv7,_⟩:=own_form h2.out;subst hv7;have M7:=hid (M5.out.growL HG.out T5.out h2.out h3.out);clear h2 h3 h5 h6 M5 T5 Q5 HBS)
   obtain⟨W3,hW3⟩:∃ Z,w7.drew=Z:=⟨_,rfl⟩;have N3:=hid (M7.out.below (show Below w7.heap.size w7 W3 from by rw[←hW3];exact(Below.refl _ _).drew));have s3:W3.cell? ⟨w.heap.size+1,3,none⟩=some (.slice x.kp x.ks.length x.kc):=(gv_cells N3.out.bx).2.2.2.1;have TR:=hid (show Blk W3 g 62 (treeM s j) from(N3.out.tr j g (by rw[List.getElem?_append_right (by rw[HTS.out];exact Nat.le_refl _),HTS.out,Nat.sub_self];rfl)).2);clear M7;have LLk:=hid (show x.ks.length+1≤1000000 from by rw[HLN.out];omega);refine wp_region_E (λY=>Y.cell? ⟨w.heap.size+1,3,none⟩=some (.slice x.kp x.ks.length x.kc)) (λi=>i == 7) (by kernel_rfl) ?_;change wpAnyE _ _ _ _ _ _ _ _ _ w7.drew;rw[hW3];clear hW3;refine tkea9 0 s3 ?_;refine tke9 1 ?_ ?_ s3 ?_;rotate_left 1
   ·(intro w hS;have hs:=hS;clear hS;go_simp;try (with_reducible rfl))
   refine tkea9 2 s3 ?_;refine wpAnyE_one (i:=3) (by kernel_rfl) rfl (by kernel_rfl) (λK hK=>?_);go_simp;refine(RP.out W3 j g TR.out).mono ?_
   rintro e W4 ⟨u,rfl,f4⟩
   have o4:=f4.1;rw[keyM_len] at o4;obtain⟨bb,c4,rest,rfl,hc4,hb4,bk4⟩:=own_blkp o4 (by decide);have N4:=hid (N3.out.below f4.2);obtain⟨y,hy⟩:∃ y:Ky,(⟨some ⟨bb,0,none⟩,c4,keyM s j⟩:Ky)=y:=⟨_,rfl⟩;have HY:=hid (show y.X=keyM s j from by rw[←hy]);have KV:=hid (show kyv y=[.slice (some ⟨bb,0,none⟩) 56 c4] from by rw[←hy];unfold kyv;rw[keyM_len]);have NY:=hid (show NM W4 w.heap.size y from by rw[←hy];exact⟨bb,rest,rfl,Nat.le_trans N3.out.bel.size hb4,by show(keyM s j).length≤c4;rw[keyM_len];exact hc4,bk4⟩);have s4:W4.cell? ⟨w.heap.size+1,3,none⟩=some (.slice x.kp x.ks.length x.kc):=(gv_cells N4.out.bx).2.2.2.1;refine hK.out _ _ (.inr s4) ?_;clear hK K f4 o4 hc4 hb4 bk4 hy N3 s3 TR;have BA:=hid ((Below.refl W4.heap.size W4).alloc (Nat.le_refl _) (.cells #[.slice (some ⟨bb,0,none⟩) 56 c4] 25));have N5:=hid (N4.out.below BA.out);have NY5:=hid (NY.out.below BA.out);have RO:=hid (show RowL (W4.alloc (.cells #[.slice (some ⟨bb,0,none⟩) 56 c4] 25)) (some ⟨W4.heap.size,0,none⟩) 1 kyv [y] from by
    have h:=row_one kyv 1 y W4 25;rw[KV.out] at h;exact h)
   have O1:=hid N5.out.ow;have HBK:=hid (show w.heap.size≤(W4.alloc (.cells #[.slice (some ⟨bb,0,none⟩) 56 c4] 25)).heap.size from N5.out.bel.size);have s5:(W4.alloc (.cells #[.slice (some ⟨bb,0,none⟩) 56 c4] 25)).cell? ⟨w.heap.size+1,3,none⟩=some (.slice x.kp x.ks.length x.kc):=(gv_cells N5.out.bx).2.2.2.1;refine wpAnyE_one (i:=4) (by kernel_rfl) rfl (by kernel_rfl) (λK hK=>?_);go_simp;refine hK.out _ _ (.inr s5) ?_;clear hK K s4 N4 NY;refine wpAnyE_one (i:=5) (by kernel_rfl) rfl (by kernel_rfl) (λK hK=>?_);refine wp_append_rows (.tmp 28) (.tmp 31) 24 ?_ 25 Tryz.underlying24 infoKs rfl (by decide) (by decide) kyv_len kyv_one w.heap.size (.slice x.kp x.ks.length x.kc) x.ks.length (x.ks.flatMap kyv) ?_ O1.out (some ⟨W4.heap.size,0,none⟩) 1 1 ?_ [y] rfl RO.out LLk.out HBK.out ?_
   ·rfl
   ·go_simp
   ·go_simp
   intro v1 w9 h2 h3 h5 h6;obtain⟨ip9,ic9,hv9,_⟩:=own_form h2.out;subst hv9;have r9:=N5.out.growK NY5.out h2.out h3.out;have fz:=r9.1.frozen 3;have ct:w9.cell? ⟨w.heap.size+1,3,none⟩=some (.slice x.kp x.ks.length x.kc):=(gv_cells r9.1).2.2.2.1;have R9:=hid r9.2;refine hK.out _ _ (.inr ct) ?_;clear hK K r9 h2 h3 h5 h6 s5 N5 NY5 RO O1 HBK BA KV;refine wpAnyE_one (i:=6) (by kernel_rfl) rfl (by kernel_rfl) (λK hK=>?_);go_simp;refine hK.out _ _ (.inr ct) ?_;clear hK K;refine wpAnyE_one (i:=7) (by kernel_rfl) rfl (by kernel_rfl) (λK hK=>?_);go_simp;refine hK.out _ _ (.inl rfl) ?_;clear hK K;refine wpAnyE_done (by kernel_rfl) ?_ _;go_simp;go_wp2_with fail
   go_roundw
   case rel=>
    refine⟨j+1, { x with ks:=x.ks++[y],kp:=ip9,kc:=ic9 },lp7,lc7,ts++[g],by omega,by rw[List.length_append];rfl,by go_num,R9.out,by rw[List.length_append,HTS.out];rfl,?_,HSP.out.1,HSP.out.2⟩;have h:=HGE.out;unfold Gv.ge at h ⊢;simp only[Ge.mk.injEq] at h ⊢;obtain⟨h1,h2,h3,h4,h5⟩:=h;refine⟨h1,h2,h3,?_,h5⟩;rw[List.map_append,h4,List.range_succ,List.map_append,show List.map (λz:Ky=>z.X) [y]=[y.X] from rfl,HY.out];rfl
   case measure=>simp[intOf];omega
  ·obtain rfl:j=n:=by omega
   have j1:decide ((j:Int)<3 * (f:Int)+1)=false:=decide_eq_false (by omega);have RES:=hid MM.out.res;have GBX:=hid MM.out.bx;have FY:=hid (gv_size x);have FYO:=hid (gv_one x);have RZ:=hid (MM.out.res.setRow (gv x));have BF:=hid (below_setRow MM.out.bel (Nat.le_refl _) (gv x).toArray);have hks:x.ks.map (·.X)=(List.range j).map (keyM s):=by have h:=congrArg (λe=>e.ks) HGE.out;exact h
   have hst:x.st=[]:=by have h:=congrArg (λe=>e.st) HGE.out;exact h
   have hkr:Kept (λk=>k=w.heap.size) wr (wr.setRow w.heap.size (gv x).toArray):=Kept.setRowK (F:=λk=>k=w.heap.size) (Kept.refl _ _) (.inl rfl) _;have hX:∀ y∈x.ks,∃ i,y.X=keyM s i:=λy hy=>by
    have h:y.X∈x.ks.map (·.X):=List.mem_map_of_mem hy;rw[hks] at h;obtain⟨i,hi,e⟩:=List.mem_map.1 h;exact⟨i,e.symm⟩
   have KW:=hid (show GvW (wr.setRow w.heap.size (gv x).toArray) x from by
    refine⟨RowL.of_own kyv_len rfl (own_kept MM.out.ow hkr (λk hk' e=>own_apart MM.out.ow MM.out.res (by decide) (by rw[hk',e]))),λy hy=>?_,λy hy=>?_,λy hy=>?_,by rw[HLN.out];omega,by rw[hst];exact Sr.nil,by rw[hst];exact nil_bytes,by rw[hst];exact Nat.zero_le _,by rw[hst];exact Nat.zero_le _⟩
    ·obtain⟨b,rest,h1,h2,hyc,h3⟩:=MM.out.nk y hy;exact NM.sr (B:=w.heap.size) ⟨b,rest,h1,h2,hyc,h3.kept hkr (h3.apart MM.out.res (by decide))⟩
    ·obtain⟨i,e⟩:=hX y hy;rw[e];exact keyM_bytes s i
    ·obtain⟨i,e⟩:=hX y hy;rw[e,keyM_len];decide)
   have GC:=hid (show GvC x from λy hy=>by obtain⟨b,rest,h1,h2,hyc,h3⟩:=MM.out.nk y hy;exact hyc);have RL:=hid (show RowL (wr.setRow w.heap.size (gv x).toArray) lp 1 tpv ts from RowL.of_own tpv_len rfl (own_kept MM.out.ol hkr (λk hk' e=>own_apart MM.out.ol MM.out.res (by decide) (by rw[hk',e]))));have TRS:=hid (show ∀ i g,ts[i]? =some g→w.heap.size≤g∧Blk (wr.setRow w.heap.size (gv x).toArray) g 62 (treeM s i) from λi g hi=>by
    obtain⟨h1,h2⟩:=MM.out.tr i g hi;exact⟨h1,h2.kept hkr (h2.apart MM.out.res (by decide))⟩)
   clear hlt hks hst MM hkr hX
   go_wp2_with (first
    |((with_reducible refine load_blk 27 (.tmp 6) (w.heap.size+1) 27 (gv x) _ rfl rfl ?_ Tryz.underlying27 ?_ ?_ ?_ ?_);exact GBX.out;exact rfl;exact FY.out;exact rfl)
    |((with_reducible refine at_op (.store 27 (.tmp 4) (.tmp 34)) rfl ?_);go_must (refine store_blk 27 (.tmp 4) (.tmp 34) w.heap.size 27 _ (gv x) rfl rfl RES.out rfl FY.out FYO.out rfl rfl ?_)))
   refine ret_blk2 (p:=4) (u:=5) (ty:=27) rfl rfl w.heap.size 27 (gv x) _ rfl RZ.out Tryz.underlying27 rfl FY.out _ rfl ?_;exact⟨x,lp,lc,ts,rfl,HTS.out,HGE.out,KW.out,GC.out,RL.out,TRS.out,BF.out⟩
end Go.Proofs.YtjlophplcmidlaaGreatDoor
