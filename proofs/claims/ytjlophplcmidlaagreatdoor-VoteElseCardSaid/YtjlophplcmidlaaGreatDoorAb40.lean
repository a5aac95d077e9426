/-
  THE REFERENCE OF CHAPTER 10
  THE REFERENCE OF CHAPTER 10
  LAYER 13's laws
-/
import Derived.Test.YtjlophplcmidlaaGreatDoorAb28
import Derived.Test.YtjlophplcmidlaaGreatDoorAb39
import Derived.Test.YtjlophplcmidlaaGreatDoorAb37
import Derived.Test.YtjlophplcmidlaaGreatDoorAb38
import Derived.Test.YtjlophplcmidlaaGreatDoorTk
open Go.Lib (hid)
set_option maxRecDepth 100000
namespace Go.Proofs.YtjlophplcmidlaaGreatDoor
open Go Go.RowKit Sh
structure PR9 (w0 W:World) (x:Gv) (v:Value) (l:List Nat):Prop where
 a:Blk W w0.heap.size 27 (gv x)
 ow:W.ownsRow w0.heap.size 5 1 v l.length (u8s l)
 bel:Below w0.heap.size w0 W
theorem PR9.below {w0 W W':World} {x:Gv} {v:Value} {l:List Nat} (h:PR9 w0 W x v l) (hb:Below W.heap.size W W'):PR9 w0 W' x v l:=⟨h.a.below hb h.a.lt,own_below h.ow hb,h.bel.trans (hb.mono h.bel.size)⟩
theorem PR9.grow {w0 W W':World} {x:Gv} {v v':Value} {l ys:List Nat} {m:Nat} (h:PR9 w0 W x v l) (hm:ys.length=m) (a1:W'.ownsRow w0.heap.size 5 1 v' (l.length+m) (u8s (l++ys))) (a2:W.grownBy W' v.ownBlock):PR9 w0 W' x v' (l++ys):=
 ⟨(a2.block _ h.a.lt (λq=>own_apart h.ow h.a (by decide) q.symm)).trans h.a,by rw[List.length_append,hm];exact a1,h.bel.grown a2 h.bel.size λk e=>(h.ow.lt k e).1⟩
theorem beN_one (n:Nat) (h:n<256):beN n 1=[n]:=by
 unfold beN;simp;omega
set_option maxHeartbeats 1000000 in
theorem gPutR_t (x:Gv) (w:World) (h:GvW w x) (hm:begB x=true):
  Calls Tryz.prog 37 #[.agg (gv x).toArray] w λe w'=>∃ u,e= .returned u∧Fresh 5 w w' u (pg x):=by
 have m:=begB_h hm;obtain⟨a,ha⟩:∃ a:Nat,x.f=(a:Int):=⟨x.f.toNat,by have:=m.f0;omega⟩;obtain⟨b,hb⟩:∃ a:Nat,x.rd=(a:Int):=⟨x.rd.toNat,by have:=m.r0;omega⟩;obtain⟨k,hk⟩:∃ a:Nat,x.wr=(a:Int):=⟨x.wr.toNat,by have:=m.w0;omega⟩;obtain⟨n,hn⟩:∃ n,x.ks.length=n:=⟨_,rfl⟩;obtain⟨kp,hkp⟩:∃ n,x.kp=n:=⟨_,rfl⟩;have a9:a≤2:=by have:=m.f2;omega
 have b9:b≤15:=by have:=m.r1;omega
 have k9:k≤15:=by have:=m.w1;omega
 have n9:n≤7:=by have:=m.n;omega
 have KL:=hid (λ(y:Ky) (hy:y∈x.ks)=>formN_len (m.k y hy));have E:=hid (show pg x=[a,b,k]++(x.ks.map (·.X)).flatten++txtN x.st from by
  unfold pg putG;rw[ha,hb,hk];simp only[Int.toNat_natCast,beN_one a (by omega),beN_one b (by omega),beN_one k (by omega)];simp only[List.cons_append,List.nil_append])
 obtain⟨xs,hxs⟩:∃ l,pg x=l:=⟨_,rfl⟩;rw[hxs] at E ⊢;have RC:=hid (λ(W:World) (hb:Blk W w.heap.size 27 (gv x))=>gv_cells hb);rw[ha,hb,hk,hn,hkp] at RC;have i1:IntKind.u8.wrap (a:Int)=(a:Int):=IntWalk.u8_in _ (by omega);have i2:IntKind.u8.wrap (b:Int)=(b:Int):=IntWalk.u8_in _ (by omega);have i3:IntKind.u8.wrap (k:Int)=(k:Int):=IntWalk.u8_in _ (by omega);have HN:=hid hn;have HKP:=hid hkp;have HX:=hid h;have P0:=hid (show PR9 w ((w.alloc (.cells (gv x).toArray 27)).alloc (.cells #[.int .u8 (a:Int),.int .u8 (b:Int),.int .u8 (k:Int)] 5)) x (.slice (some ⟨(w.alloc (.cells (gv x).toArray 27)).heap.size,0,none⟩) 3 3) [a,b,k] from by
  have g0:=GB9.new h;have bz:Below (w.alloc (.cells (gv x).toArray 27)).heap.size (w.alloc (.cells (gv x).toArray 27)) ((w.alloc (.cells (gv x).toArray 27)).alloc (.cells #[.int .u8 (a:Int),.int .u8 (b:Int),.int .u8 (k:Int)] 5)):=(Below.refl _ _).alloc (Nat.le_refl _) _;exact⟨g0.a.below bz g0.a.lt,World.ownsRow_lit (w.alloc (.cells (gv x).toArray 27)) (e:=5) (size:=1) (base:=w.heap.size) #[.int .u8 (a:Int),.int .u8 (b:Int),.int .u8 (k:Int)] 3 g0.bel.size (by decide) rfl,g0.bel.trans (bz.mono g0.bel.size)⟩)
 have c:=RC.out _ (GB9.new h).a;obtain⟨c0,c1,c2,_,_⟩:=c;clear h hm m ha hb hk hn hkp hxs
 go_enter Tryz.func37,Tryz.ntmps37
 go_upto_region 2 with(fail)
 clear c0 c1 c2 i1 i2 i3;refine world_at (λY=>PR9 w Y x (.slice (some ⟨w.heap.size+1,0,none⟩) 3 3) [a,b,k]) (by have h:=P0.out;simpa using h) ?_
 rintro Y p1
 have P1:=hid p1;clear p1 P0 a9 b9 k9;obtain⟨pre,hpre⟩:∃ l,[a,b,k]=l:=⟨_,rfl⟩;have LP:=hid (show pre.length=3 from by rw[←hpre];rfl);rw[hpre] at P1 E;clear hpre;go_wp2_with fail
 go_loopw [3,4] (λv t wr=>∃ j:Nat,j≤n∧t= .int .i64 (j:Int)∧PR9 w wr x v (pre++((x.ks.take j).map (·.X)).flatten)) (λ_ t _=>n- (intOf t).toNat)
 case atStart=>exact⟨0,by omega,rfl,by rw[List.take_zero,List.map_nil,List.flatten_nil,List.append_nil];exact P1.out⟩
 case round=>
  clear P1;obtain⟨j,hj,rfl,pj⟩:=hrel;have PJ:=hid pj;clear pj;have LJ:=hid (show(pre++((x.ks.take j).map (·.X)).flatten).length≤3+56 * 7 from by
   have h1:=flatten_le (C:=56) (l:=x.ks.take j) (λy hy=>Nat.le_of_eq (KL.out y (List.mem_of_mem_take hy)));have h2:(x.ks.take j).length≤7:=by rw[List.length_take];omega
   rw[List.length_append,LP.out];omega)
  obtain⟨_,_,_,c3,c4⟩:=RC.out _ PJ.out.a
  by_cases hlt:j<n
  ·obtain⟨y,hy⟩:∃ y,x.ks[j]? =some y:=⟨_,List.getElem?_eq_getElem (by rw[HN.out];exact hlt)⟩;obtain⟨bq,o,hpe,hbl,rg⟩:=(HX.out.below PJ.out.bel).ks j y hy;obtain rfl:kp=some ⟨bq,o,none⟩:=HKP.out.symm.trans hpe;have c1:wr.cell? ⟨bq,o+j,none⟩=some (.slice y.A y.X.length y.c):=by have:=rg 0 _ rfl;rw[Nat.mul_one,Nat.add_zero] at this;exact this
   have j1:(j:Int)< (n:Int):=by omega
   have HY:=hid hy;have HM:=List.mem_of_getElem? hy;have SK:=hid ((HX.out.k y HM).below PJ.out.bel);have L63:=hid (show(pre++((x.ks.take j).map (·.X)).flatten).length+y.X.length≤70368744177664 from by have h1:=LJ.out;have h2:=KL.out y HM;omega);clear rg hpe hbl hy HM c4
   go_wp2_with ((with_reducible refine at_op (.call { callee:= .builtin .append,args:= #[.tmp 22,.tmp 27],argTypes:= #[25,25] }) rfl ?_);go_must (refine append_bytes (.tmp 22) (.tmp 27) 25 rfl rfl 5 Tryz.underlying25 byte_info w.heap.size _ _ _ y.X rfl PJ.out.ow y.A y.X.length y.c rfl rfl SK.out L63.out PJ.out.bel.size ?_);intro v3 w11 a1 a2 a3)
   have P7:=hid (PJ.out.grow rfl a1.out a2.out);clear a1 a2 a3 PJ SK c1 c3;go_wp2_with fail
   go_roundw
   case rel=>exact⟨j+1,by omega,by go_num,by rw[flatten_snoc HY.out,←List.append_assoc];exact P7.out⟩
   case measure=>simp[intOf];omega
  ·obtain rfl:j=n:=by omega
   clear hlt;rw[List.take_of_length_le (by rw[HN.out];exact Nat.le_refl _)] at PJ LJ;have TX:=hid (reftext_t x.st x.sp x.st.length x.sc wr rfl (HX.out.st.below PJ.out.bel) (by have:=HX.out.sl;omega));go_wp2_with fail
   refine TX.out.mono ?_
   rintro e w8 ⟨u,rfl,fr⟩
   obtain⟨A8,c8,rfl,hc8,s8,b8⟩:=fresh_opO fr;have P8:=hid (PJ.out.below b8);have S8:=hid s8;have L63:=hid (show(pre++(x.ks.map (·.X)).flatten).length+(txtN x.st).length≤70368744177664 from by have h1:=LJ.out;have h2:=HX.out.sl;rw[show(txtN x.st).length=4+x.st.length by unfold txtN;rw[List.length_append,beN_length]];omega);clear fr hc8 s8 b8 PJ TX c3 c4
   go_wp2_with ((with_reducible refine at_op (.call { callee:= .builtin .append,args:= #[.tmp 29,.tmp 32],argTypes:= #[25,25] }) rfl ?_);go_must (refine append_bytes (.tmp 29) (.tmp 32) 25 rfl rfl 5 Tryz.underlying25 byte_info w.heap.size _ _ _ (txtN x.st) rfl P8.out.ow A8 (txtN x.st).length c8 rfl rfl S8.out L63.out P8.out.bel.size ?_);intro v3 w11 a1 a2 a3)
   have P9:=hid (P8.out.grow rfl a1.out a2.out);rw[←E.out] at P9;clear a1 a2 a3 P8 S8;go_wp2_with fail
   go_ret;exact⟨_,rfl,P9.out.ow,P9.out.bel⟩
def anL:List Nat:=[71,69,78,69]
theorem anL_eq:bs anM=anL:=by decide+kernel
theorem anL_bytes:Bytes anL:=sl_bytes (by decide)
theorem pg_leN {x:Gv} {N:Nat} (hm:begB x=true) (hs:x.st.length≤N):(pg x).length≤N+400:=by
 have m:=begB_h hm;have h1:=flatten_le (C:=56) (l:=x.ks) λy hy=>Nat.le_of_eq (formN_len (m.k y hy))
 have h2:=m.n;have h3:=m.f2;unfold pg putG;simp only[List.length_append,beN_length,txtN];omega
set_option maxHeartbeats 1000000 in
theorem gAnchorR_yes (x:Gv) (w:World) (h:GvW w x) (hc:GvC x) (hm:begB x=true) (hs:x.st.length≤900000):
  Calls Tryz.prog 17 #[.agg (gv x).toArray] w λe w'=>e= .returned (.agg (u8s (anE x)).toArray)∧Below w.heap.size w w':=by
 have S0:=hid (HG9.new h);have HC:=hid hc;have FG:=hid (gv_size x);have HM:=hid hm;have PL:=hid (pg_leN hm hs);have PB:=hid (pg_bytes h.kb h.sb);clear h hc hm hs;obtain⟨S,hS⟩:∃ S,anE x=S:=⟨_,rfl⟩;have HSL:=hid (show S.length=32 from by rw[←hS];rfl);have HSS:=hid (show sum (anL++pg x)=S from by rw[←hS,←anL_eq];rfl);rw[hS];clear hS
 go_enter Tryz.func17,Tryz.ntmps17
 go_upto_region 1 with(fail)
 refine world_at (λY=>HG9 w Y x zH) S0.out ?_
 rintro V s1
 have S1:=hid s1;clear s1 S0;have MT:=hid (gMayR_t x V S1.out.gb.rx HC.out);rw[HM.out] at MT;have GA:=hid S1.out.gb.a
 go_wp2_with ((with_reducible refine load_blk 27 (.tmp 1) w.heap.size 27 (gv x) _ rfl rfl ?_ Tryz.underlying27 ?_ ?_ ?_ ?_);exact GA.out;exact rfl;exact FG.out;exact rfl)
 refine MT.out.mono ?_
 rintro e w1 ⟨rfl,b1⟩
 have S2:=hid (S1.out.below b1);clear S1 MT b1 GA;have S4:=hid (sr_frz anL w1 [] 5 (4,5));have BA:=hid (show Below w1.heap.size w1 (w1.alloc (.cells (u8s anL).toArray 5 (4,5))) from(Below.refl _ _).alloc (Nat.le_refl _) _);rw[List.append_nil] at S4;have S3:=hid (S2.out.below BA.out);have PT:=hid (gPutR_t x _ S3.out.gb.rx HM.out);have GA:=hid S3.out.gb.a;have kc:=λ(w:World) (C:Array Value) (n c:Nat)=>Lib.run_convert_bytes_const (P:=Tryz.prog) w 25 5 C n c Tryz.underlying25 Tryz.underlying5
 clear S2 BA
 go_wp2_with ((with_reducible refine load_blk 27 (.tmp 1) w.heap.size 27 (gv x) _ rfl rfl ?_ Tryz.underlying27 ?_ ?_ ?_ ?_);exact GA.out;exact rfl;exact FG.out;exact rfl)
 clear kc;refine PT.out.mono ?_
 rintro e w2 ⟨u,rfl,fr⟩
 obtain⟨A,c,rfl,_,s2,b2⟩:=fresh_opO fr;have S5:=hid (S3.out.below b2);have SP:=hid s2;have SA:=hid (S4.out.below b2);obtain⟨xs,hxs⟩:∃ l,pg x=l:=⟨_,rfl⟩;rw[hxs] at PL PB HSS SP ⊢;obtain⟨ga,hga⟩:∃ g,w1.heap.size=g:=⟨_,rfl⟩;rw[hga] at SA ⊢;clear fr s2 b2 S3 S4 PT GA hxs hga;have E:=hid (show catO [⟨some ⟨ga,0,none⟩,4,anL⟩,⟨A,c,xs⟩]=anL++xs by simp[catO]);have BP:=hid (Blk.new w2 25 (partsO [⟨some ⟨ga,0,none⟩,4,anL⟩,⟨A,c,xs⟩]));have BW:=hid (show Below w2.heap.size w2 (w2.alloc (.cells (partsO [⟨some ⟨ga,0,none⟩,4,anL⟩,⟨A,c,xs⟩]).toArray 25)) from(Below.refl _ _).alloc (Nat.le_refl _) _);have CT:=hid (catO_t [⟨some ⟨ga,0,none⟩,4,anL⟩,⟨A,c,xs⟩] w2.heap.size 2 2 25 _ rfl BP.out (λx hx=>by
  simp only[List.mem_cons,List.not_mem_nil,or_false] at hx;rcases hx with rfl |rfl
  ·exact SA.out.below BW.out
  ·exact SP.out.below BW.out) (by rw[E.out,List.length_append];have:=PL.out;show 4+xs.length≤_;omega) (by decide))
 have S6:=hid (S5.out.below BW.out);go_wp2_with fail
 refine CT.out.mono ?_
 rintro e w4 ⟨u,rfl,fr⟩
 rw[E.out] at fr;have YB:=hid (app_bytes anL_bytes PB.out);have YL:=hid (show(anL++xs).length≤100000000 by rw[List.length_append];have:=PL.out;show 4+xs.length≤_;omega);obtain⟨ys,hys⟩:∃ l,anL++xs=l:=⟨_,rfl⟩;rw[hys] at fr YB YL HSS;clear hys;obtain⟨A4,c4,rfl,_,s4,b4⟩:=fresh_opO fr;have S7:=hid (S6.out.below b4);have R4:=hid s4;clear fr s4 b4 S5 S6 CT BW BP E SA SP PL PB;have US:=hid (refsum_t ys A4 ys.length c4 w4 rfl R4.out YB.out YL.out);rw[HSS.out] at US;go_wp2_with fail
 refine US.out.mono ?_
 rintro e w5 ⟨rfl,b5⟩
 have S8:=hid (S7.out.below b5);clear S7 US b5 R4;have RES:=hid S8.out.res;have RZ:=hid (S8.out.res.setRow (u8s S));have BF:=hid (below_setRow S8.out.gb.bel (g:=w.heap.size+1) (by omega) (u8s S).toArray);have FZ:=hid (hash_size S HSL.out);have HZL:=hid (show(u8s zH).length=(u8s S).length by rw[u8s_length,u8s_length,HSL.out];rfl)
 go_wp2_with ((with_reducible refine at_op (.store 23 (.tmp 2) (.tmp 13)) rfl ?_);go_must (refine store_blk 23 (.tmp 2) (.tmp 13) (w.heap.size+1) 23 (u8s zH) (u8s S) rfl rfl RES.out HZL.out FZ.out (u8s_oneD _) rfl rfl ?_))
 exact ret_blk (p:=2) (ty:=23) rfl rfl (w.heap.size+1) 23 _ _ rfl RZ.out Tryz.underlying23 rfl FZ.out ⟨rfl,BF.out⟩
structure CA (w0 W:World) (x:Gv) (l:List Nat):Prop where
 g:Blk W w0.heap.size 27 (gv x)
 l:Blk W (w0.heap.size+1) 23 (u8s l)
 v:Blk W (w0.heap.size+2) 33 (vv ⟨0,0,List.replicate 32 0,none,0,[]⟩)
 gw:GvW W x
 bel:Below w0.heap.size w0 W
theorem CA.below {w0 W W':World} {x:Gv} {l:List Nat} (h:CA w0 W x l) (hb:Below W.heap.size W W'):CA w0 W' x l:=
 ⟨h.g.below hb h.g.lt,h.l.below hb h.l.lt,h.v.below hb h.v.lt,h.gw.below hb,h.bel.trans (hb.mono h.bel.size)⟩
theorem built_v35 (p f:Int) (A:Option Addr) (n c a0 a1 a2 a3 a4 a5 a6 a7 a8 a9 a10 a11 a12 a13 a14 a15 b0 b1 b2 b3 b4 b5 b6 b7 b8 b9 b10 b11 b12 b13 b14 b15:Nat):Tryz.prog.built 33 [(0,.int .i64 p),(1,.int .i64 f),(2,.agg (u8s [a0,a1,a2,a3,a4,a5,a6,a7,a8,a9,a10,a11,a12,a13,a14,a15,b0,b1,b2,b3,b4,b5,b6,b7,b8,b9,b10,b11,b12,b13,b14,b15]).toArray),(3,.slice A n c)]=some (Value.int .i64 p:: .int .i64 f::(u8s [a0,a1,a2,a3,a4,a5,a6,a7,a8,a9,a10,a11,a12,a13,a14,a15,b0,b1,b2,b3,b4,b5,b6,b7,b8,b9,b10,b11,b12,b13,b14,b15]++[.slice A n c])).toArray:=by kernel_rfl
theorem built_vote (p f:Int) (A:Option Addr) (n c:Nat) (l:List Nat) (hl:l.length=32):Tryz.prog.built 33 [(0,.int .i64 p),(1,.int .i64 f),(2,.agg (u8s l).toArray),(3,.slice A n c)]=some (Value.int .i64 p:: .int .i64 f::(u8s l++[.slice A n c])).toArray:=by
 match l,hl with
 |[a0,a1,a2,a3,a4,a5,a6,a7,a8,a9,a10,a11,a12,a13,a14,a15,b0,b1,b2,b3,b4,b5,b6,b7,b8,b9,b10,b11,b12,b13,b14,b15],_=>exact built_v35 _ _ _ _ _ _ _ _ _ _ _ _ _ _ _ _ _ _ _ _ _ _ _ _ _ _ _ _ _ _ _ _ _ _ _ _ _
theorem wbuild4V {P:Program} {o:Oper} {a:Act} {w:World} {K:Act→World→Prop} {Q:Exit→Act→World→Prop} (t:TypeId) (x y z z':Operand) (ho:o.op= .build t #[(0,x),(1,y),(2,z),(3,z')]) (cs:List Value) (u v s s':Value) (hx:a.eval x=u) (hy:a.eval y=v) (hz:a.eval z=s) (hz':a.eval z'=s')
  (hb:P.built t [(0,u),(1,v),(2,s),(3,s')]=some cs.toArray) (h:K (a.put o.dst (.agg cs.toArray)) w):o.wp P a w K Q:=by
 have e:((#[(0,x),(1,y),(2,z),(3,z')]:Array (Nat×Operand)).map λ(i,x)=>(i,a.eval x)).toList=[(0,u),(1,v),(2,s),(3,s')]:=by simp[hx,hy,hz,hz']
 unfold Oper.wp execOp;simp only[ho,Sem.run_bind,run_build w t _ cs.toArray (by rw[e];exact hb),Result.andThen_ok];exact h
theorem anE_lenN (x:Gv):(anE x).length=32:=rfl
theorem sum_anyN (l:List Nat):Bytes (sum l):=by
 have hok:∀ s:S8,s.ok→Bytes (out s):=λs hs=>by
  rw[bytes_mem];intro x hx;obtain⟨v,hv,hx⟩:=List.mem_flatMap.1 hx;have hvl:v<4294967296:=by
   obtain⟨i,hi,rfl⟩:=List.mem_iff_getElem.1 hv;have:=list_lt hs i
   rwa [gt_of_lt hi] at this
  unfold bytes4 at hx;simp at hx;omega
 exact hok _ (run_ok _ _)
set_option maxHeartbeats 4000000 in
theorem cast_t (x:Gv) (s i g p q:Nat) (fr:Int) (l:List Nat) (w:World) (hx:GvW w x) (hc:GvC x) (hm:begB x=true) (hs:x.st.length≤900000) (ht:Blk w g 62 (treeM s i)) (hp:p≤1048576) (hq:q<32) (hl:l.length=32) (hlb:Bytes l):
  Calls Tryz.prog 6 #[.agg (gv x).toArray,.pointer (some ⟨g,0,none⟩),.int .i64 fr,.int .i64 (q:Int),.int .i64 (p:Int),.agg (u8s l).toArray] w λe w'=>∃ v:Vv,e= .returned (.agg (vv v).toArray)∧v.vt=⟨(p:Int),fr,l,lsigN (secI s i) (secS s i) 1 q (textV (anE x) p l)⟩∧VvW w' v∧(∀ ad:Addr,v.A=some ad→w.heap.size≤ad.block)∧Below w.heap.size w w':=by
 have AL:=hid (anE_lenN x);have LL:=hid hl;have HLB:=hid hlb;have AN:=hid (λW (h:CA w W x l)=>gAnchorR_yes x W h.gw hc hm hs);have TXT:=hid (λW=>show Calls Tryz.prog 16 #[.agg (u8s (anE x)).toArray,.int .i64 (p:Int),.agg (u8s l).toArray] W λe w'=>∃ u,e= .returned u∧Fresh 5 W w' u (textV (anE x) p l) from refText_t (anE x) l p W (anE_lenN x) hl hp);have TL:=hid (textV_len (q:=p) (anE_lenN x) hl);have TB:=hid (show Bytes (textV (anE x) p l) from by
  have hb:Bytes (anE x):=by
   unfold anE;exact sum_anyN _
  unfold textV;exact app_bytes (app_bytes (app_bytes (sl_bytes (by decide)) hb) (beN_bytes _ _)) hlb)
 have SG:=hid (λW (xs:List Nat) (P:Option Addr) (cc:Nat) (hT:Blk W g 62 (treeM s i)) (hx:xs.length=72) (hp:Sr W P xs) (hxb:Bytes xs)=>reftsign_t (secI s i) (secS s i) xs 2 1 g q P 72 cc W (secI_length s i) (treeM_bytes s i).1 (secS_length s i) (treeM_bytes s i).2 (by decide) rfl hq hx hp hxb (by decide) hT);have GL:=hid (show(lsigN (secI s i) (secS s i) 1 q (textV (anE x) p l)).length=4460 from lsigN_length _ _ 1 q _ hq);have GB:=hid (lsigN_bytes (secI s i) (secS s i) 1 q (textV (anE x) p l) (by decide) (treeM_bytes s i).1 (treeM_bytes s i).2);have FG:=hid (gv_size x);have ZL:=hid (hash_size l hl);have BL:=hid ((((Below.refl w.heap.size w).alloc (Nat.le_refl _) (.cells (gv x).toArray 27)).alloc (by simp) (.cells (u8s l).toArray 23)).alloc (by simp;omega) (.cells (vv ⟨0,0,List.replicate 32 0,none,0,[]⟩).toArray 33));have C0:=hid (show CA w (((w.alloc (.cells (gv x).toArray 27)).alloc (.cells (u8s l).toArray 23)).alloc (.cells (vv ⟨0,0,List.replicate 32 0,none,0,[]⟩).toArray 33)) x l from
  ⟨((Blk.new w 27 (gv x)).alloc _).alloc _,(Blk.new2 w _ 23 (u8s l)).alloc _,new3V w _ _ 33 _,hx.below BL.out,BL.out⟩)
 have T0:=hid (ht.below BL.out ht.lt);obtain⟨AE,hAE⟩:∃ z,anE x=z:=⟨_,rfl⟩;rw[hAE] at AL AN TXT TL TB GL GB ⊢;obtain⟨T,hT⟩:∃ z,textV AE p l=z:=⟨_,rfl⟩;rw[hT] at TXT TL TB GL GB ⊢;have SGT:=hid (λW P cc hT h1 hp h2=>SG.out W T P cc hT h1 hp h2);obtain⟨sg,hsg⟩:∃ z,lsigN (secI s i) (secS s i) 1 q T=z:=⟨_,rfl⟩;rw[hsg] at SGT GL GB ⊢;clear SG hsg;clear hx hc hm hs ht hp hq hl hlb hAE hT BL
 go_enter Tryz.func6,Tryz.ntmps6
 go_upto_region 1 with(fail)
 refine world_is (λW=>CA w W x l∧Blk W g 62 (treeM s i)) ⟨C0.out,T0.out⟩ ?_
 rintro W ⟨c1,t1⟩
 have bd:Below W.heap.size W W.drew:=(Below.refl _ _).drew;have C1:=hid (c1.below bd);have T1:=hid (t1.below bd t1.lt);clear c1 t1 bd C0 T0;refine wp_region_held (S:=λX=>X.rangeAt w.heap.size 0 (gv x)∧X.rangeAt (w.heap.size+1) 0 (u8s l)) (by kernel_rfl) ?_;change wpAnyH _ _ _ _ _ _ _ _ W.drew;obtain⟨V,hV⟩:∃ V,W.drew=V:=⟨_,rfl⟩;rw[hV] at C1 T1 ⊢;clear hV;have RS:=hid (λW (h:CA w W x l)=>show W.rangeAt w.heap.size 0 (gv x)∧W.rangeAt (w.heap.size+1) 0 (u8s l) from⟨rows_of_blk h.g,rows_of_blk h.l⟩);have r1:=RS.out V C1.out;refine tka9 0 r1 ?_;refine tka9 1 r1 ?_;refine tka9 3 r1 ?_;refine tka9 4 r1 ?_;refine tka9 7 r1 ?_;refine tkg9 2 (v:= .agg (u8s l).toArray) (yieldsIf_load_mid (by kernel_rfl) 23 (.tmp 11) rfl (w.heap.size+1) 0 (by go_simp) (u8s l) _ (λ_ h=>h.2) Tryz.underlying23 rfl (ZL.out)) r1 ?_;refine tkg9 5 (v:= .agg (gv x).toArray) (yieldsIf_load_mid (by kernel_rfl) 27 (.tmp 6) rfl w.heap.size 0 (by go_simp) (gv x) _ (λ_ h=>h.1) Tryz.underlying27 rfl (FG.out)) r1 ?_;refine tkg9 8 (v:= .agg (u8s l).toArray) (yieldsIf_load_mid (by kernel_rfl) 23 (.tmp 11) rfl (w.heap.size+1) 0 (by go_simp) (u8s l) _ (λ_ h=>h.2) Tryz.underlying23 rfl (ZL.out)) r1 ?_;refine rd9 6 λK hK=>?_
 go_simp;refine(AN.out V C1.out).mono ?_
 rintro e w2 ⟨rfl,b2⟩
 have C2:=hid (C1.out.below b2);have T2:=hid (T1.out.below b2 T1.out.lt);have r2:=RS.out w2 C2.out;refine hK.out _ _ r2 (λ_=>?_);clear hK K b2 C1 T1 r1 AN;refine rd9 9 λK hK=>?_
 go_simp;refine(TXT.out w2).mono ?_
 rintro e w3 ⟨u,rfl,f3⟩
 have o3:=f3.1;rw[TL.out] at o3;obtain⟨A3,c3,rfl,hc3⟩:=own_form o3;have S3:=hid (Sr.of_own o3);have C3:=hid (C2.out.below f3.2);have T3:=hid (T2.out.below f3.2 T2.out.lt);have r3:=RS.out w3 C3.out;refine hK.out _ _ r3 (λ_=>?_);clear hK K f3 o3 hc3 C2 T2 r2 TXT;refine rd9 10 λK hK=>?_
 go_simp;refine(SGT.out w3 A3 c3 T3.out TL.out S3.out TB.out).mono ?_
 rintro e w4 ⟨u,rfl,f4⟩
 have o4:=f4.1;rw[GL.out] at o4;obtain⟨A4,c4,rfl,hc4⟩:=own_form o4;have S4:=hid (Sr.of_own o4);have hab:∀ ad:Addr,A4=some ad→w3.heap.size≤ad.block:=λad e=>by subst e;exact(o4.lt ad.block rfl).1
 have hw3:w.heap.size+2<w3.heap.size:=C3.out.v.lt;have C4:=hid (C3.out.below f4.2);have r4:=RS.out w4 C4.out;refine hK.out _ _ r4 (λ_=>?_);clear hK K f4 o4 hc4 C3 T3 S3 r3 SGT;obtain⟨v,hv⟩:∃ v:Vv,(⟨(p:Int),fr,l,A4,c4,sg⟩:Vv)=v:=⟨_,rfl⟩;have VE:=hid (show vv v=Value.int .i64 (p:Int):: .int .i64 fr::(u8s l++[.slice A4 4460 c4]) from by rw[←hv];unfold vv;rw[GL.out]);have VT:=hid (show v.vt=⟨(p:Int),fr,l,sg⟩ from by rw[←hv];rfl);have VW:=hid (λW (h:Sr W A4 sg)=>show VvW W v from by rw[←hv];exact⟨LL.out,HLB.out,h,GB.out,by rw[GL.out];decide⟩);have VL:=hid (show v.l.length=32 from by rw[←hv];exact LL.out);have VA:=hid (show ∀ ad:Addr,v.A=some ad→w.heap.size≤ad.block from by rw[←hv];exact λad e=>by have:=hab ad e;omega);clear hv;refine rdw9 11 λK hK=>?_
 refine wbuild4V 33 (.tmp 13) (.tmp 14) (.tmp 15) (.tmp 23) rfl (vv v) (.int .i64 (p:Int)) (.int .i64 fr) (.agg (u8s l).toArray) (.slice A4 4460 c4) (by go_simp) (by go_simp) (by go_simp) (by go_simp) (by rw[VE.out];exact built_vote _ _ _ _ _ _ LL.out) ?_;refine hK.out _ _ r4 (λ_=>?_);clear hK K;refine rdw9 12 λK hK=>?_
 refine wstore_part 33 (.tmp 12) (.tmp 24) (w.heap.size+2) 0 33 [] (vv ⟨0,0,List.replicate 32 0,none,0,[]⟩) [] (vv v) rfl (by rw[List.nil_append,List.append_nil];exact C4.out.v) rfl (by rw[vv_len VL.out,vv_len (x:=⟨0,0,List.replicate 32 0,none,0,[]⟩) (by simp)]) (vv_size VL.out) (vv_one v) rfl rfl ?_;intro wz a1 a2 a3;have VZ:=hid (show Blk wz (w.heap.size+2) 33 (vv v) by have:=a1.out;rwa [List.nil_append,List.append_nil] at this);have bz:Below w.heap.size w wz:=C4.out.bel.trans (a2.out.below (by omega) C4.out.bel.size);have rz:wz.rangeAt w.heap.size 0 (gv x)∧wz.rangeAt (w.heap.size+1) 0 (u8s l):=⟨rows_of_blk (C4.out.g.but a2.out C4.out.g.lt (by omega)),rows_of_blk (C4.out.l.but a2.out C4.out.l.lt (by omega))⟩;have WZ:=hid (VW.out wz (S4.out.kept (F:=λk=>k=w.heap.size+2) ⟨a2.out.os,a2.out.tape,a2.out.output,a2.out.size,λk hk hf=>a2.out.block k hk hf⟩ (λ_ ad e q=>by have h1:=hab ad e;have h2:ad.block=w.heap.size+2:=q;omega)));refine hK.out _ _ rz (λ_=>?_);clear hK K;refine wpAnyH_done (by kernel_rfl) ?_ _;go_simp;go_wp2_with fail
 exact ret_blk (p:=12) (ty:=33) rfl rfl (w.heap.size+2) 33 _ _ rfl VZ.out Tryz.underlying33 rfl (vv_size VL.out) ⟨v,rfl,VT.out,WZ.out,VA.out,bz⟩
end Go.Proofs.YtjlophplcmidlaaGreatDoor
