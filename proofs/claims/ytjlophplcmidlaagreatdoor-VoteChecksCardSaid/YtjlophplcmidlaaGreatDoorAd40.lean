/-
  LAYER 13's laws
  PACKAGE vote
-/
import Derived.Test.YtjlophplcmidlaaGreatDoorAd37
import Derived.Test.YtjlophplcmidlaaGreatDoorAd38
import Derived.Test.YtjlophplcmidlaaGreatDoorAd39
import Derived.Test.YtjlophplcmidlaaGreatDoorTk
open Go.Lib (hid)
set_option maxRecDepth 100000
namespace Go.Proofs.YtjlophplcmidlaaGreatDoor
open Go Go.RowKit Sh
structure CA (w0 W:World) (x:Gv) (l:List Nat):Prop where
 g:Blk W w0.heap.size 27 (gv x)
 l:Blk W (w0.heap.size+1) 23 (u8s l)
 v:Blk W (w0.heap.size+2) 33 (vv ⟨0,0,List.replicate 32 0,none,0,[]⟩)
 gw:GvW W x
 bel:Below w0.heap.size w0 W
theorem CA.below {w0 W W':World} {x:Gv} {l:List Nat} (h:CA w0 W x l) (hb:Below W.heap.size W W'):CA w0 W' x l:=
 ⟨h.g.below hb h.g.lt,h.l.below hb h.l.lt,h.v.below hb h.v.lt,h.gw.below hb,h.bel.trans (hb.mono h.bel.size)⟩
theorem built_v35 (p f:Int) (A:Option Addr) (n c a0 a1 a2 a3 a4 a5 a6 a7 a8 a9 a10 a11 a12 a13 a14 a15 b0 b1 b2 b3 b4 b5 b6 b7 b8 b9 b10 b11 b12 b13 b14 b15:Nat):Tryz.prog.built 33 [(0,.int .i64 p),(1,.int .i64 f),(2,.agg (u8s [a0,a1,a2,a3,a4,a5,a6,a7,a8,a9,a10,a11,a12,a13,a14,a15,b0,b1,b2,b3,b4,b5,b6,b7,b8,b9,b10,b11,b12,b13,b14,b15]).toArray),(3,.slice A n c)]=some (Value.int .i64 p:: .int .i64 f::(u8s [a0,a1,a2,a3,a4,a5,a6,a7,a8,a9,a10,a11,a12,a13,a14,a15,b0,b1,b2,b3,b4,b5,b6,b7,b8,b9,b10,b11,b12,b13,b14,b15]++[.slice A n c])).toArray:=by kernel_rfl
theorem built_vote (p f:Int) (A:Option Addr) (n c:Nat) (l:List Nat) (hl:l.length=32):Tryz.prog.built 33 [(0,.int .i64 p),(1,.int .i64 f),(2,.agg (u8s l).toArray),(3,.slice A n c)]=some (Value.int .i64 p:: .int .i64 f::(u8s l++[.slice A n c])).toArray:=by
 match l,hl with
 |[a0,a1,a2,a3,a4,a5,a6,a7,a8,a9,a10,a11,a12,a13,a14,a15,b0,b1,b2,b3,b4,b5,b6,b7,b8,b9,b10,b11,b12,b13,b14,b15],_=>exact built_v35 _ _ _ _ _ _ _ _ _ _ _ _ _ _ _ _ _ _ _ _ _ _ _ _ _ _ _ _ _ _ _ _ _ _ _ _ _
theorem wbuild4V {P:Program} {o:Oper} {a:Act} {w:World} {K:Act→World→Prop} {Q:Exit→Act→World→Prop} (t:TypeId) (x y z z':Operand) (ho:o.op= .build t #[(0,x),(1,y),(2,z),(3,z')]) (cs:List Value) (u v s s':Value) (hx:a.eval x=u) (hy:a.eval y=v) (hz:a.eval z=s) (hz':a.eval z'=s')
  (hb:P.built t [(0,u),(1,v),(2,s),(3,s')]=some cs.toArray) (h:K (a.put o.dst (.agg cs.toArray)) w):o.wp P a w K Q:=by
 have e:((#[(0,x),(1,y),(2,z),(3,z')]:Array (Nat×Operand)).map λ(i,x)=>(i,a.eval x)).toList=[(0,u),(1,v),(2,s),(3,s')]:=by simp[hx,hy,hz,hz']
 unfold Oper.wp execOp;simp only[ho,Sem.run_bind,run_build w t _ cs.toArray (by rw[e];exact hb),Result.andThen_ok];exact h
theorem anE_lenN (x:Gv):(anE x).length=32:=rfl
theorem sum_anyN (l:List Nat):Bytes (sum l):=by
 have hok:∀ s:S8,s.ok→Bytes (out s):=λs hs=>by
  rw[bytes_mem];intro x hx;obtain⟨v,hv,hx⟩:=List.mem_flatMap.1 hx;have hvl:v<4294967296:=by
   obtain⟨i,hi,rfl⟩:=List.mem_iff_getElem.1 hv;have:=list_lt hs i
   rwa [gt_of_lt hi] at this
  unfold bytes4 at hx;simp at hx;omega
 exact hok _ (run_ok _ _)
set_option maxHeartbeats 4000000 in
theorem castC_t (x:Gv) (s i g p q:Nat) (fr:Int) (l:List Nat) (w:World) (hx:GvW w x) (hc:GvC x) (hm:begB x=true) (hs:x.st.length≤900000) (ht:Blk w g 62 (treeM s i)) (hp:p≤1048576) (hq:q<32) (hl:l.length=32) (hlb:Bytes l):
  Calls Tryz.prog 6 #[.agg (gv x).toArray,.pointer (some ⟨g,0,none⟩),.int .i64 fr,.int .i64 (q:Int),.int .i64 (p:Int),.agg (u8s l).toArray] w λe w'=>∃ v:Vv,e= .returned (.agg (vv v).toArray)∧v.vt=⟨(p:Int),fr,l,lsigN (secI s i) (secS s i) 1 q (textV (anE x) p l)⟩∧VvW w' v∧(∀ ad:Addr,v.A=some ad→w.heap.size≤ad.block)∧v.s.length≤v.c∧Below w.heap.size w w':=by
 have AL:=hid (anE_lenN x);have LL:=hid hl;have HLB:=hid hlb;have AN:=hid (λW (h:CA w W x l)=>gAnchorR_yes x W h.gw hc hm hs);have TXT:=hid (λW=>show Calls Tryz.prog 16 #[.agg (u8s (anE x)).toArray,.int .i64 (p:Int),.agg (u8s l).toArray] W λe w'=>∃ u,e= .returned u∧Fresh 5 W w' u (textV (anE x) p l) from refText_t (anE x) l p W (anE_lenN x) hl hp);have TL:=hid (textV_len (q:=p) (anE_lenN x) hl);have TB:=hid (show Bytes (textV (anE x) p l) from by
  have hb:Bytes (anE x):=by
   unfold anE;exact sum_anyN _
  unfold textV;exact app_bytes (app_bytes (app_bytes (sl_bytes (by decide)) hb) (beN_bytes _ _)) hlb)
 have SG:=hid (λW (xs:List Nat) (P:Option Addr) (cc:Nat) (hT:Blk W g 62 (treeM s i)) (hx:xs.length=72) (hp:Sr W P xs) (hxb:Bytes xs)=>reftsign_t (secI s i) (secS s i) xs 2 1 g q P 72 cc W (secI_length s i) (treeM_bytes s i).1 (secS_length s i) (treeM_bytes s i).2 (by decide) rfl hq hx hp hxb (by decide) hT);have GL:=hid (show(lsigN (secI s i) (secS s i) 1 q (textV (anE x) p l)).length=4460 from lsigN_length _ _ 1 q _ hq);have GB:=hid (lsigN_bytes (secI s i) (secS s i) 1 q (textV (anE x) p l) (by decide) (treeM_bytes s i).1 (treeM_bytes s i).2);have FG:=hid (gv_size x);have ZL:=hid (hash_size l hl);have BL:=hid ((((Below.refl w.heap.size w).alloc (Nat.le_refl _) (.cells (gv x).toArray 27)).alloc (by simp) (.cells (u8s l).toArray 23)).alloc (by simp;omega) (.cells (vv ⟨0,0,List.replicate 32 0,none,0,[]⟩).toArray 33));have C0:=hid (show CA w (((w.alloc (.cells (gv x).toArray 27)).alloc (.cells (u8s l).toArray 23)).alloc (.cells (vv ⟨0,0,List.replicate 32 0,none,0,[]⟩).toArray 33)) x l from
  ⟨((Blk.new w 27 (gv x)).alloc _).alloc _,(Blk.new2 w _ 23 (u8s l)).alloc _,new3V w _ _ 33 _,hx.below BL.out,BL.out⟩)
 have T0:=hid (ht.below BL.out ht.lt);obtain⟨AE,hAE⟩:∃ z,anE x=z:=⟨_,rfl⟩;rw[hAE] at AL AN TXT TL TB GL GB ⊢;obtain⟨T,hT⟩:∃ z,textV AE p l=z:=⟨_,rfl⟩;rw[hT] at TXT TL TB GL GB ⊢;have SGT:=hid (λW P cc hT h1 hp h2=>SG.out W T P cc hT h1 hp h2);obtain⟨sg,hsg⟩:∃ z,lsigN (secI s i) (secS s i) 1 q T=z:=⟨_,rfl⟩;rw[hsg] at SGT GL GB ⊢;clear SG hsg;clear hx hc hm hs ht hp hq hl hlb hAE hT BL
 go_enter Tryz.func6,Tryz.ntmps6
 go_upto_region 1 with(fail)
 refine world_is (λW=>CA w W x l∧Blk W g 62 (treeM s i)) ⟨C0.out,T0.out⟩ ?_
 rintro W ⟨c1,t1⟩
 have bd:Below W.heap.size W W.drew:=(Below.refl _ _).drew;have C1:=hid (c1.below bd);have T1:=hid (t1.below bd t1.lt);clear c1 t1 bd C0 T0;refine wp_region_held (S:=λX=>X.rangeAt w.heap.size 0 (gv x)∧X.rangeAt (w.heap.size+1) 0 (u8s l)) (by kernel_rfl) ?_;change wpAnyH _ _ _ _ _ _ _ _ W.drew;obtain⟨V,hV⟩:∃ V,W.drew=V:=⟨_,rfl⟩;rw[hV] at C1 T1 ⊢;clear hV;have RS:=hid (λW (h:CA w W x l)=>show W.rangeAt w.heap.size 0 (gv x)∧W.rangeAt (w.heap.size+1) 0 (u8s l) from⟨rows_of_blk h.g,rows_of_blk h.l⟩);have r1:=RS.out V C1.out;refine tka9 0 r1 ?_;refine tka9 1 r1 ?_;refine tka9 3 r1 ?_;refine tka9 4 r1 ?_;refine tka9 7 r1 ?_;refine tkg9 2 (v:= .agg (u8s l).toArray) (yieldsIf_load_mid (by kernel_rfl) 23 (.tmp 11) rfl (w.heap.size+1) 0 (by go_simp) (u8s l) _ (λ_ h=>h.2) Tryz.underlying23 rfl (ZL.out)) r1 ?_;refine tkg9 5 (v:= .agg (gv x).toArray) (yieldsIf_load_mid (by kernel_rfl) 27 (.tmp 6) rfl w.heap.size 0 (by go_simp) (gv x) _ (λ_ h=>h.1) Tryz.underlying27 rfl (FG.out)) r1 ?_;refine tkg9 8 (v:= .agg (u8s l).toArray) (yieldsIf_load_mid (by kernel_rfl) 23 (.tmp 11) rfl (w.heap.size+1) 0 (by go_simp) (u8s l) _ (λ_ h=>h.2) Tryz.underlying23 rfl (ZL.out)) r1 ?_;refine rd9 6 λK hK=>?_
 go_simp;refine(AN.out V C1.out).mono ?_
 rintro e w2 ⟨rfl,b2⟩
 have C2:=hid (C1.out.below b2);have T2:=hid (T1.out.below b2 T1.out.lt);have r2:=RS.out w2 C2.out;refine hK.out _ _ r2 (λ_=>?_);clear hK K b2 C1 T1 r1 AN;refine rd9 9 λK hK=>?_
 go_simp;refine(TXT.out w2).mono ?_
 rintro e w3 ⟨u,rfl,f3⟩
 have o3:=f3.1;rw[TL.out] at o3;obtain⟨A3,c3,rfl,hc3⟩:=own_form o3;have S3:=hid (Sr.of_own o3);have C3:=hid (C2.out.below f3.2);have T3:=hid (T2.out.below f3.2 T2.out.lt);have r3:=RS.out w3 C3.out;refine hK.out _ _ r3 (λ_=>?_);clear hK K f3 o3 hc3 C2 T2 r2 TXT;refine rd9 10 λK hK=>?_
 go_simp;refine(SGT.out w3 A3 c3 T3.out TL.out S3.out TB.out).mono ?_
 rintro e w4 ⟨u,rfl,f4⟩
 have o4:=f4.1;rw[GL.out] at o4;obtain⟨A4,c4,rfl,hc4⟩:=own_form o4;have S4:=hid (Sr.of_own o4);have hab:∀ ad:Addr,A4=some ad→w3.heap.size≤ad.block:=λad e=>by subst e;exact(o4.lt ad.block rfl).1
 have hw3:w.heap.size+2<w3.heap.size:=C3.out.v.lt;have HC4:=hid hc4;have C4:=hid (C3.out.below f4.2);have r4:=RS.out w4 C4.out;refine hK.out _ _ r4 (λ_=>?_);clear hK K f4 o4 hc4 C3 T3 S3 r3 SGT;obtain⟨v,hv⟩:∃ v:Vv,(⟨(p:Int),fr,l,A4,c4,sg⟩:Vv)=v:=⟨_,rfl⟩;have VE:=hid (show vv v=Value.int .i64 (p:Int):: .int .i64 fr::(u8s l++[.slice A4 4460 c4]) from by rw[←hv];unfold vv;rw[GL.out]);have VT:=hid (show v.vt=⟨(p:Int),fr,l,sg⟩ from by rw[←hv];rfl);have VW:=hid (λW (h:Sr W A4 sg)=>show VvW W v from by rw[←hv];exact⟨LL.out,HLB.out,h,GB.out,by rw[GL.out];decide⟩);have VL:=hid (show v.l.length=32 from by rw[←hv];exact LL.out);have VC:=hid (show v.s.length≤v.c from by rw[←hv];show sg.length≤c4;rw[GL.out];exact HC4.out);have VA:=hid (show ∀ ad:Addr,v.A=some ad→w.heap.size≤ad.block from by rw[←hv];exact λad e=>by have:=hab ad e;omega);clear hv;refine rdw9 11 λK hK=>?_
 refine wbuild4V 33 (.tmp 13) (.tmp 14) (.tmp 15) (.tmp 23) rfl (vv v) (.int .i64 (p:Int)) (.int .i64 fr) (.agg (u8s l).toArray) (.slice A4 4460 c4) (by go_simp) (by go_simp) (by go_simp) (by go_simp) (by rw[VE.out];exact built_vote _ _ _ _ _ _ LL.out) ?_;refine hK.out _ _ r4 (λ_=>?_);clear hK K;refine rdw9 12 λK hK=>?_
 refine wstore_part 33 (.tmp 12) (.tmp 24) (w.heap.size+2) 0 33 [] (vv ⟨0,0,List.replicate 32 0,none,0,[]⟩) [] (vv v) rfl (by rw[List.nil_append,List.append_nil];exact C4.out.v) rfl (by rw[vv_len VL.out,vv_len (x:=⟨0,0,List.replicate 32 0,none,0,[]⟩) (by simp)]) (vv_size VL.out) (vv_one v) rfl rfl ?_;intro wz a1 a2 a3;have VZ:=hid (show Blk wz (w.heap.size+2) 33 (vv v) by have:=a1.out;rwa [List.nil_append,List.append_nil] at this);have bz:Below w.heap.size w wz:=C4.out.bel.trans (a2.out.below (by omega) C4.out.bel.size);have rz:wz.rangeAt w.heap.size 0 (gv x)∧wz.rangeAt (w.heap.size+1) 0 (u8s l):=⟨rows_of_blk (C4.out.g.but a2.out C4.out.g.lt (by omega)),rows_of_blk (C4.out.l.but a2.out C4.out.l.lt (by omega))⟩;have WZ:=hid (VW.out wz (S4.out.kept (F:=λk=>k=w.heap.size+2) ⟨a2.out.os,a2.out.tape,a2.out.output,a2.out.size,λk hk hf=>a2.out.block k hk hf⟩ (λ_ ad e q=>by have h1:=hab ad e;have h2:ad.block=w.heap.size+2:=q;omega)));refine hK.out _ _ rz (λ_=>?_);clear hK K;refine wpAnyH_done (by kernel_rfl) ?_ _;go_simp;go_wp2_with fail
 exact ret_blk (p:=12) (ty:=33) rfl rfl (w.heap.size+2) 33 _ _ rfl VZ.out Tryz.underlying33 rfl (vv_size VL.out) ⟨v,rfl,VT.out,WZ.out,VA.out,VC.out,bz⟩
def zVv:Vv:=⟨0,0,List.replicate 32 0,none,0,[]⟩
theorem built_vz:Tryz.prog.built 33 []=some (vv zVv).toArray:=by kernel_rfl
theorem lnkN_len {l:List Nat} (h:l.length≤32):(lnkN l).length=32:=by unfold lnkN;rw[List.length_append,List.length_replicate];omega
theorem zerosV (n:Nat):Bytes (List.replicate n 0):=sl_bytes λx hx=>by rw[(List.mem_replicate.1 hx).2];decide
theorem vraw_t (F:Nat→Prop) (g:Nat) (xs:List Nat) (bad:Bool) (n:Nat) (w:World) (x:RdF F w g xs bad) (hl:xs.length≤70368744177664):
  Calls Tryz.prog 51 #[.pointer (some ⟨g,0,none⟩),.int .i64 n] w λe w'=>∃ v,e= .returned v∧w'.ownsRow w.heap.size 5 1 v (rawN xs bad n).1.length (u8s (rawN xs bad n).1)∧RdF F w' g (rawN xs bad n).2.1 (rawN xs bad n).2.2 ∧Kept (λk=>k=g) w w':=by
 unfold rawN
 by_cases h:n≤xs.length
 ·rw[if_pos h];refine(raw_F F g xs bad n w x h hl).mono ?_
  rintro e w' ⟨v,he,o,r,k⟩
  exact⟨v,he,by dsimp only;rw[List.length_take,Nat.min_eq_left h];exact o,r,k⟩
 ·rw[if_neg h];refine(raw_bad g xs bad n w x.rd (.inr (by omega))).mono ?_
  rintro e w' ⟨v,he,o,r,k⟩
  obtain⟨A,c,h1,h2,h3⟩:=r.is;exact⟨v,he,o,⟨⟨A,c,h1,h2,h3,λhx=>absurd hx (Nat.lt_irrefl 0)⟩,r.none_⟩,k⟩
theorem rTxt_txV (xs:List Nat) (bad:Bool) (n:Nat) (h:Bytes xs):Bytes (rTxt xs bad n).1 ∧(rTxt xs bad n).1.length≤n:=by
 unfold rTxt
 split
 ·rename_i q
  exact⟨bytes_take (bytes_drop h _) _,by rw[List.length_take];omega⟩
 ·exact⟨nil_bytes,Nat.zero_le _⟩
theorem vv_set {x:Vv} (hl:x.l.length=32) (A:Option Addr) (c:Nat) (s:List Nat):(vv x).set 34 (.slice A s.length c)=vv { x with A:=A,c:=c,s:=s } :=by
 unfold vv;have h32:(u8s x.l).length=32:=by rw[u8s_length,hl]
 show Value.int .i64 x.p::Value.int .i64 x.f::((u8s x.l++[Value.slice x.A x.s.length x.c]).set 32 _)=_
 rw[List.set_append_right _ _ (by omega),h32];rfl
structure VH (B:Nat) (w0 W:World) (g:Nat) (zs:List Nat) (bad:Bool):Prop where
 rd:RdF (λk=>k<B∧k≠g) W g zs bad
 res:Blk W w0.heap.size 33 (vv zVv)
 og:w0.heap.size<g
 gB:g<B
 ob:B≤W.heap.size
 bel:Below w0.heap.size w0 W
theorem VH.read {B:Nat} {w0 W W':World} {g:Nat} {zs zs':List Nat} {bad bad':Bool} (h:VH B w0 W g zs bad) (hk:Kept (λk=>k=g) W W') (hr:RdF (λk=>k<B∧k≠g) W' g zs' bad'):VH B w0 W' g zs' bad':=by
 have h1:=h.og;exact⟨hr,h.res.kept hk (by omega),h.og,h.gB,Nat.le_trans h.ob hk.size,kept_below h.bel hk (by omega)⟩
structure VG (B:Nat) (w0 W:World) (g g5:Nat) (zs:List Nat) (bad:Bool) (x:Vv):Prop where
 rd:RdF (λk=>k<B∧k≠g) W g zs bad
 res:Blk W w0.heap.size 33 (vv zVv)
 bx:Blk W g5 33 (vv x)
 og:w0.heap.size<g
 gB:g<B
 ob:B≤g5
 bel:Below w0.heap.size w0 W
section
variable {B : Nat} {w0 W W' : World} {g g5 : Nat} {zs zs' : List Nat} {bad bad' : Bool} {x x' : Vv}
theorem VG.read (h:VG B w0 W g g5 zs bad x) (hk:Kept (λk=>k=g) W W') (hr:RdF (λk=>k<B∧k≠g) W' g zs' bad'):VG B w0 W' g g5 zs' bad' x:=by
 have h1:=h.og;have h2:=h.gB;have h3:=h.ob;exact⟨hr,h.res.kept hk (by omega),h.bx.kept hk (by omega),h.og,h.gB,h.ob,kept_below h.bel hk (by omega)⟩
theorem VG.below (h:VG B w0 W g g5 zs bad x) (hb:Below W.heap.size W W'):VG B w0 W' g g5 zs bad x:=
 ⟨h.rd.below hb,h.res.below hb h.res.lt,h.bx.below hb h.bx.lt,h.og,h.gB,h.ob,h.bel.trans (hb.mono h.bel.size)⟩
theorem VG.put (h:VG B w0 W g g5 zs bad x) (hk:Kept (λk=>k=g5) W W') (hb:Blk W' g5 33 (vv x')):VG B w0 W' g g5 zs bad x':=by
 have h1:=h.og;have h2:=h.gB;have h3:=h.ob;exact⟨h.rd.stays hk (by omega) (λk hf e=>by omega),h.res.kept hk (by omega),hb,h.og,h.gB,h.ob,kept_below h.bel hk (by omega)⟩
theorem VH.alloc (h:VH B w0 W g zs bad) (x:Vv):VG B w0 (W.alloc (.cells (vv x).toArray 33)) g W.heap.size zs bad x:=by
 have bz:Below W.heap.size W (W.alloc (.cells (vv x).toArray 33)):=(Below.refl _ _).alloc (Nat.le_refl _) _;exact⟨h.rd.below bz,h.res.below bz h.res.lt,Blk.new W _ (vv x),h.og,h.gB,h.ob,h.bel.trans (bz.mono h.bel.size)⟩
end
set_option maxHeartbeats 2000000 in
theorem vGet_t (xs:List Nat) (p:Option Addr) (m c:Nat) (w:World) (hx:xs.length=m) (hp:Sr w p xs) (hb:Bytes xs) (hl:m≤1000000):
  Calls Tryz.prog 23 #[.slice p m c] w λe W'=>Below w.heap.size w W'∧((okV9 xs=false∧e= .returned (.tuple #[.agg (vv zVv).toArray,.int .i64 2]))∨(okV9 xs=true∧∃ y:Vv,y.vt=gotV xs∧e= .returned (.tuple #[.agg (vv y).toArray,.int .i64 0])∧VvW W' y)):=by
 obtain⟨⟨a,y1,d1⟩,E1⟩:∃ r,rNum xs false 4=r:=⟨_,rfl⟩;obtain⟨⟨b,y2,d2⟩,E2⟩:∃ r,rNum y1 d1 1=r:=⟨_,rfl⟩;obtain⟨⟨l,y3,d3⟩,E3⟩:∃ r,rawN y2 d2 32=r:=⟨_,rfl⟩;obtain⟨⟨st,y4,d4⟩,E4⟩:∃ r,rTxt y3 d3 9000=r:=⟨_,rfl⟩;have F1:v1 xs=(a,y1,d1):=E1;have F2:v2 xs=(b,y2,d2):=by unfold v2;rw[F1];exact E2
 have F3:v3 xs=(l,y3,d3):=by unfold v3;rw[F2];exact E3
 have F4:v4 xs=(st,y4,d4):=by unfold v4;rw[F3];exact E4
 have B1:=rNum_bytes xs false 4 hb;rw[E1] at B1;have B2:=rNum_bytes y1 d1 1 B1.1;rw[E2] at B2;have B3:=rawN_bytes d2 32 B2.1;have L3:=rawN_len y2 d2 32;rw[E3] at B3 L3;have B4:=rTxt_txV y3 d3 9000 B3.2;rw[E4] at B4;have a8:a<4294967296:=by have:=B1.2.2;dsimp only at this;omega
 have b8:b<256:=by have:=B2.2.2;dsimp only at this;omega
 have Q2:=hid (show y2.length≤1000000∧y3.length≤1000000 from by have q1:=B1.2.1;have q2:=B2.2.1;have q3:=L3.2;dsimp only at q1 q2 q3;omega);obtain⟨ok,hok⟩:∃ z,okV9 xs=z:=⟨_,rfl⟩;obtain⟨ge,hge⟩:∃ z,gotV xs=z:=⟨_,rfl⟩;have GOT:=hid (show ge=⟨(a:Int),(b:Int),lnkN l,st⟩ from by rw[←hge];unfold gotV;rw[F1,F2,F3,F4]);have OKD:=hid (show ok=(decide (endN y4 d4=0) && mayVo ge) from by rw[←hok,←hge];unfold okV9;rw[F4]);rw[hok,hge];have H1:=hid E1;have H2:=hid E2;have H3:=hid E3;have H4:=hid E4;have BY1:=hid B1.1;have BY2:=hid B2.1;have BY3:=hid B3;have BY4:=hid B4;have HB:=hid hb;have LL:=hid L3.1;have i1:IntKind.i64.wrap (a:Int)=(a:Int):=IntWalk.i64_in _ (by omega);have i2:IntKind.i64.wrap (b:Int)=(b:Int):=IntWalk.i64_in _ (by omega);have Z0:=hid ((Below.refl w.heap.size w).alloc (Nat.le_refl _) (.cells (vv zVv).toArray 33));have R0:=hid (Blk.new w 33 (vv zVv));have NW:=hid (rnew_t xs p m c _ hx (hp.below Z0.out) (by omega));clear hx hp hb E1 E2 E3 E4 F1 F2 F3 F4 B1 B2 B3 B4 L3 hok hge
 go_enter Tryz.func23,Tryz.ntmps23
 go_wp2_with fail
 refine NW.out.mono ?_
 rintro e w1 ⟨g,rfl,hg,x1,b1⟩
 have hg1:w.heap.size<g:=by have:=hg;simp at this;omega
 have P1:=hid (show VH w1.heap.size w w1 g xs false from⟨x1.there,R0.out.below b1 R0.out.lt,hg1,x1.lt,Nat.le_refl _,Z0.out.trans (b1.mono Z0.out.size)⟩);obtain⟨B,hB⟩:∃ b,w1.heap.size=b:=⟨_,rfl⟩;rw[hB] at P1;clear NW hg hg1 x1 b1 Z0 R0 hB;go_wp2_with fail
 refine(rnum_F _ g xs false 4 w1 P1.out.rd HB.out (by decide) (by decide)).mono ?_;rw[H1.out]
 rintro e w2 ⟨rfl,x_,k_⟩
 have P2:=hid (P1.out.read k_ x_);clear x_ k_ P1;go_wp2_with fail
 refine(rnum_F _ g y1 d1 1 w2 P2.out.rd BY1.out (by decide) (by decide)).mono ?_;rw[H2.out]
 rintro e w3 ⟨rfl,x_,k_⟩
 have P3:=hid (P2.out.read k_ x_);clear x_ k_ P2;obtain⟨q1,hq1⟩:∃ q:Vv,(⟨(a:Int),(b:Int),List.replicate 32 0,none,0,[]⟩:Vv)=q:=⟨_,rfl⟩;have HQV:=hid (show vv q1=[.int .i64 (a:Int),.int .i64 (b:Int),.int .u8 0,.int .u8 0,.int .u8 0,.int .u8 0,.int .u8 0,.int .u8 0,.int .u8 0,.int .u8 0,.int .u8 0,.int .u8 0,.int .u8 0,.int .u8 0,.int .u8 0,.int .u8 0,.int .u8 0,.int .u8 0,.int .u8 0,.int .u8 0,.int .u8 0,.int .u8 0,.int .u8 0,.int .u8 0,.int .u8 0,.int .u8 0,.int .u8 0,.int .u8 0,.int .u8 0,.int .u8 0,.int .u8 0,.int .u8 0,.int .u8 0,.int .u8 0,.slice none 0 0] from by rw[←hq1];rfl);have QL:=hid (show q1.l.length=32 from by rw[←hq1];rfl);have FQ:=hid (vv_size QL.out);have FQO:=hid (vv_one q1);have Z0:=hid (Blk.new w3 33 (vv zVv));have LQ:=hid (show(vv zVv).length=(vv q1).length from by rw[vv_len QL.out,vv_len (x:=zVv) rfl]);have A0:=hid (show VG B w ((w3.alloc (.cells (vv zVv).toArray 33)).setRow w3.heap.size (vv q1).toArray) g w3.heap.size y2 d2 q1 from
  (P3.out.alloc zVv).put (Kept.setRowK (F:=λk=>k=w3.heap.size) (Kept.refl _ _) (.inl rfl) _) (Z0.out.setRow (vv q1)))
 go_upto_region 3 with((with_reducible refine at_op (.store 33 (.tmp 5) (.tmp 14)) rfl ?_);go_must (refine store_blk 33 (.tmp 5) (.tmp 14) w3.heap.size 33 (vv zVv) (vv q1) rfl rfl Z0.out LQ.out FQ.out FQO.out rfl (by rw[HQV.out];rfl) ?_))
 obtain⟨V,hV⟩:∃ V,(w3.alloc (.cells (vv zVv).toArray 33)).setRow w3.heap.size (vv q1).toArray=V:=⟨_,rfl⟩;change Code.wp _ _ _ _ ((w3.alloc (.cells (vv zVv).toArray 33)).setRow w3.heap.size (vv q1).toArray);rw[hV] at A0 ⊢;obtain⟨gx,hgx⟩:∃ x,w3.heap.size=x:=⟨_,rfl⟩;rw[hgx] at A0 ⊢;have HQ1:=hid hq1;have A1:=hid A0.out;clear A0 P3 hgx hV i1 i2 hq1 HQV Z0 LQ FQ FQO QL;obtain⟨U,hU⟩:∃ U,V.drew=U:=⟨_,rfl⟩;have A2:=hid (A1.out.below (show Below V.heap.size V U from by rw[←hU];exact(Below.refl _ _).drew));refine wp_region_held (S:=λ_=>True) (by kernel_rfl) ?_;change wpAnyH _ _ _ _ _ _ _ _ V.drew;rw[hU];clear hU A1;refine tka9 0 trivial ?_;refine tka9 1 trivial ?_;refine tka9 2 trivial ?_;have RT:=hid (vraw_t _ g y2 d2 32 U A2.out.rd (by have:=Q2.out.1;omega));rw[H3.out] at RT;refine rdw9 3 λK hK=>?_
 go_simp;refine RT.out.mono ?_
 rintro e w5 ⟨v,rfl,o5,x5,k5⟩
 dsimp only at o5 x5
 obtain⟨A,cA,rfl,_⟩:=own_form o5;have S5:=hid (Sr.of_own (xs:=l) o5);have A3:=hid (A2.out.read k5 x5);refine hK.out _ _ trivial (λhz=>?_);clear hK K hz RT o5 x5 k5 A2;have HRS:=hid (show(vv q1)=[.int .i64 (a:Int),.int .i64 (b:Int)]++(u8s (List.replicate l.length 0)++(u8s (List.replicate (32-l.length) 0)++[.slice none 0 0])) from by
  have h:List.replicate 32 0=List.replicate l.length 0++List.replicate (32-l.length) 0:=by rw[List.replicate_append_replicate];congr 1;have:=LL.out;omega
  rw[←HQ1.out];unfold vv
  dsimp only
  rw[h,u8s_app,List.append_assoc];rfl)
 refine rdw9 4 λK hK=>?_
 refine wcopy_partG (.tmp 16) (.tmp 18) 25 25 5 gx 2 32 32 l.length cA l.length (some ⟨gx,2,none⟩) A 33 [.int .i64 (a:Int),.int .i64 (b:Int)] (u8s (List.replicate l.length 0)) (u8s (List.replicate (32-l.length) 0)++[.slice none 0 0]) (u8s l) rfl Tryz.underlying25 byte_size (by rw[←HRS.out];exact A3.out.bx) rfl (by rw[u8s_length,u8s_length,List.length_replicate]) (by rw[u8s_length];have:=LL.out;exact(Nat.min_eq_left this).symm) (by go_simp) (by go_simp) (λhpos=>⟨rfl,by
  obtain⟨ad,ha,hc⟩:=S5.out.cells (by rw[u8s_length] at hpos;exact hpos);exact⟨ad,ha,hc⟩⟩) (u8s_each _) (by rw[u8s_length]) ?_
 intro wz a1 a2 a3;have A4:=hid (A3.out.put (x':=⟨(a:Int),(b:Int),lnkN l,none,0,[]⟩) (a2.out.keptOneS rfl) (by
  have h:=a1.out;rw[show vv ⟨(a:Int),(b:Int),lnkN l,none,0,[]⟩=[.int .i64 (a:Int),.int .i64 (b:Int)]++(u8s l++(u8s (List.replicate (32-l.length) 0)++[.slice none 0 0])) from by
   unfold vv lnkN
   dsimp only
   rw[u8s_app,List.append_assoc];rfl]
  exact h))
 refine hK.out _ _ trivial (λhz=>?_);clear hK K hz a1 a2 a3 S5 A3 HRS;refine wpAnyH_done (by kernel_rfl) ?_ _;go_simp;have LK:=hid (lnkN_len LL.out);go_wp2_with fail
 refine(rtxt_F _ g y3 d3 9000 wz A4.out.rd BY3.out.2 (by decide) (by have:=Q2.out.2;omega)).mono ?_;rw[H4.out]
 rintro e w8 ⟨u,rfl,o8,x8,k8⟩
 dsimp only at o8 x8
 obtain⟨A',cA',rfl,_⟩:=own_form o8;have A5:=hid (A4.out.read k8 x8);have O5:=hid (own_base (base':=gx+1) o8 (λk hk=>by have h1:=(o8.lt k hk).1;have h2:=A4.out.bx.lt;omega));clear o8 x8 k8 A4;have fz:=A5.out.bx.frozen 34;have ct:w8.cell? ⟨gx,34,none⟩=some (.slice none 0 0):=(vv_cells A5.out.bx LK.out).2.2;have kz:Kept (λk=>k=gx) w8 (w8.setCell ⟨gx,34,none⟩ (.slice A' st.length cA')):=Kept.setCell (F:=λk=>k=gx) (Kept.refl _ _) (p:=⟨gx,34,none⟩) (.inl rfl) _;have A6:=hid (A5.out.put (x':=⟨(a:Int),(b:Int),lnkN l,A',cA',st⟩) kz (by
  have h:=A5.out.bx.store 34 (.slice A' st.length cA');rw[vv_set (x:=⟨(a:Int),(b:Int),lnkN l,none,0,[]⟩) LK.out A' cA' st] at h;exact h))
 have O6:=hid (own_kept O5.out kz (λk hk e=>by have:=(O5.out.lt k hk).1;omega));clear A5 O5 kz
 go_upto_region 5 with(fail)
 clear fz ct;obtain⟨V4,hV4⟩:∃ V,w8.setCell ⟨gx,34,none⟩ (.slice A' st.length cA')=V:=⟨_,rfl⟩;rw[hV4] at A6 O6 ⊢;clear hV4;obtain⟨y,hy⟩:∃ y:Vv,(⟨(a:Int),(b:Int),lnkN l,A',cA',st⟩:Vv)=y:=⟨_,rfl⟩;have HYG:=hid (show y.vt=ge from by rw[←hy,GOT.out];rfl);have GYW:=hid (show VvW V4 y from by
  rw[←hy];exact⟨LK.out,app_bytes BY3.out.1 (zerosV _),Sr.of_own O6.out,BY4.out.1,by have:=BY4.out.2;show st.length≤_;omega⟩)
 have OY:=hid (show V4.ownsRow (gx+1) 5 1 (.slice y.A y.s.length y.c) y.s.length (u8s y.s) from by rw[←hy];exact O6.out);rw[hy] at A6;clear hy GOT O6;have ET:=hid (end_t g y4 d4 V4 A6.out.rd.rd);obtain⟨en,hen⟩:∃ z,endN y4 d4=z:=⟨_,rfl⟩;rw[hen] at ET OKD;clear hen
 by_cases h0:en=0
 ·subst h0;have MT:=hid (vMayPut_t y V4 GYW.out);rw[HYG.out] at MT;obtain⟨mb,hmb⟩:∃ b,mayVo ge=b:=⟨_,rfl⟩;rw[hmb] at MT OKD;have FY:=hid (vv_size GYW.out.ll);have FYO:=hid (vv_one y);clear hmb;go_wp2_with fail
  refine ET.out.mono ?_
  rintro e w9 ⟨rfl,rfl⟩
  have GBX:=hid A6.out.bx
  go_wp2_with ((with_reducible refine load_blk_gdO 27 33 (.tmp 5) gx 33 (vv y) _ ?_ ?_ rfl ?_ Tryz.underlying33 ?_ ?_ ?_ ?_);exact rfl;kernel_rfl;exact GBX.out;exact rfl;exact FY.out;exact rfl)
  refine MT.out.mono ?_
  rintro e w10 ⟨rfl,b10⟩
  have A7:=hid (A6.out.below b10);have GY7:=hid (GYW.out.below b10);have OY7:=hid (own_below OY.out b10);clear b10 MT ET GBX A6 GYW
  cases mb with
  |false=>
   have RES:=hid A7.out.res;have RZ:=hid (A7.out.res.setRow (vv zVv));have BF:=hid (below_setRow A7.out.bel (Nat.le_refl _) (vv zVv).toArray);have FZ:=hid (vv_size (x:=zVv) rfl);have FZO:=hid (vv_one zVv);have BZ:=built_vz
   go_wp2_with ((with_reducible refine at_op (.store 33 (.tmp 2) (.tmp 31)) rfl ?_);go_must (refine store_blk 33 (.tmp 2) (.tmp 31) w.heap.size 33 _ (vv zVv) rfl rfl RES.out rfl FZ.out FZO.out rfl rfl ?_))
   exact ret_blkS (p:=2) (u:=3) (ty:=33) rfl rfl w.heap.size 33 _ _ rfl RZ.out Tryz.underlying33 rfl FZ.out _ rfl ⟨BF.out,.inl ⟨OKD.out,rfl⟩⟩
  |true=>
   have OK:=hid (show ok=true from OKD.out);have RES:=hid A7.out.res;have GBX:=hid A7.out.bx;have RZ:=hid (A7.out.res.setRow (vv y));have BF:=hid (below_setRow A7.out.bel (Nat.le_refl _) (vv y).toArray);have KW:=hid (show VvW (w10.setRow w.heap.size (vv y).toArray) y from by
    have q:=GY7.out;have kz:Kept (λk=>k=w.heap.size) w10 (w10.setRow w.heap.size (vv y).toArray):=Kept.setRowK (F:=λk=>k=w.heap.size) (Kept.refl _ _) (.inl rfl) _;exact⟨q.ll,q.lb,Sr.of_own (own_kept OY7.out kz (λk e e2=>own_apart OY7.out A7.out.res (by decide) (by rw[e,e2]))),q.sb,q.sn⟩)
   have LVZ:=hid (show(vv zVv).length=(vv y).length from by rw[vv_len GY7.out.ll,vv_len (x:=zVv) rfl])
   go_wp2_with (first
    |((with_reducible refine load_blk 33 (.tmp 5) gx 33 (vv y) _ rfl rfl ?_ Tryz.underlying33 ?_ ?_ ?_ ?_);exact GBX.out;exact rfl;exact FY.out;exact rfl)
    |((with_reducible refine at_op (.store 33 (.tmp 2) (.tmp 32)) rfl ?_);go_must (refine store_blk 33 (.tmp 2) (.tmp 32) w.heap.size 33 _ (vv y) rfl rfl RES.out LVZ.out FY.out FYO.out rfl rfl ?_)))
   exact ret_blkS (p:=2) (u:=3) (ty:=33) rfl rfl w.heap.size 33 _ _ rfl RZ.out Tryz.underlying33 rfl FY.out _ rfl ⟨BF.out,.inr ⟨OK.out,y,HYG.out,rfl,KW.out⟩⟩
 ·have e1:((en:Int) != 0)=true:=by rw[bne_iff_ne];omega
  have OK:=hid (show ok=false from by have:=OKD.out;rw[decide_eq_false h0] at this;exact this);go_wp2_with fail
  refine ET.out.mono ?_
  rintro e w9 ⟨rfl,rfl⟩
  clear ET GYW;have RES:=hid A6.out.res;have RZ:=hid (A6.out.res.setRow (vv zVv));have BF:=hid (below_setRow A6.out.bel (Nat.le_refl _) (vv zVv).toArray);have FZ:=hid (vv_size (x:=zVv) rfl);have FZO:=hid (vv_one zVv);have BZ:=built_vz
  go_wp2_with ((with_reducible refine at_op (.store 33 (.tmp 2) (.tmp 31)) rfl ?_);go_must (refine store_blk 33 (.tmp 2) (.tmp 31) w.heap.size 33 _ (vv zVv) rfl rfl RES.out rfl FZ.out FZO.out rfl rfl ?_))
  exact ret_blkS (p:=2) (u:=3) (ty:=33) rfl rfl w.heap.size 33 _ _ rfl RZ.out Tryz.underlying33 rfl FZ.out _ rfl ⟨BF.out,.inl ⟨OK.out,rfl⟩⟩
end Go.Proofs.YtjlophplcmidlaaGreatDoor
