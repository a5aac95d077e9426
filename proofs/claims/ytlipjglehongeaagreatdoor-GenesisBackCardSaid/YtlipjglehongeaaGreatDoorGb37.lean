/-
  FEW
  StateAsks walked
  THE REFERENCE OF CHAPTER 10
  THE REFERENCE OF CHAPTER 10
  THE REFERENCE
-/
import Derived.Test.YtlipjglehongeaaGreatDoorGb36
import Derived.Test.YtlipjglehongeaaGreatDoorGb9
import Derived.Test.YtlipjglehongeaaGreatDoorGb31
import Derived.Test.YtlipjglehongeaaGreatDoorGb33
import Derived.Test.YtlipjglehongeaaGreatDoorGb35
import Derived.Test.YtlipjglehongeaaGreatDoorGb17
import Derived.Test.YtlipjglehongeaaGreatDoorGb32
import Derived.Test.YtlipjglehongeaaGreatDoorGb29
open Go.Lib (hid)
set_option maxRecDepth 100000
namespace Go.Proofs.YtlipjglehongeaaGreatDoor
open Go Go.RowKit Sh
theorem refDigS_t (x:Spv) (w:World) (hx:SpW w x) (hm:spMay x.sp=true):
  Calls Tryz.prog 70 #[.agg (sv x).toArray] w λe w'=>e= .returned (.agg (u8s (sum (stM++putS x.sp))).toArray)∧Below w.heap.size w w':=by
 have B0:=hid ((Blk.new w 46 (sv x)).alloc (.cells (u8s zH).toArray 36));have R0:=hid (Blk.new2 w (.cells (sv x).toArray 46) 36 (u8s zH));have BW:=hid (((Below.refl w.heap.size w).alloc (Nat.le_refl _) (.cells (sv x).toArray 46)).alloc (by simp) (.cells (u8s zH).toArray 36));have FX:=hid (sv_size x hx.l4);have PY:=hid (refPutS_t x _ (hx.below BW.out) hm);have HL:=hid (putS_le hm (by show(x.last.map (·.r)).length=4;rw[List.length_map];exact hx.l4));have HB:=hid (putS_bytes x.sp);obtain⟨xs,hxs⟩:∃ l,putS x.sp=l:=⟨_,rfl⟩;rw[hxs] at PY HL HB ⊢;clear hx hm hxs
 go_enter Tryz.func70,Tryz.ntmps70
 go_wp2_with ((with_reducible refine load_blk 46 (.tmp 1) w.heap.size 46 (sv x) _ rfl rfl ?_ Tryz.underlying46 ?_ ?_ ?_ ?_);exact B0.out;exact rfl;exact FX.out;exact rfl)
 refine PY.out.mono ?_
 rintro e w2 ⟨u,rfl,fr⟩
 obtain⟨A,c,rfl,hc,sr2,b2⟩:=fresh_opO fr;have S2:=hid sr2;have R2:=hid (R0.out.below b2 R0.out.lt);have B2:=hid (BW.out.trans (b2.mono BW.out.size));have OB_:=hid (refOfB_t xs A xs.length c w2 rfl S2.out HB.out (by have:=HL.out;omega));clear b2 sr2 fr PY B0 R0 BW hc;go_wp2_with fail
 refine OB_.out.mono ?_
 rintro e w3 ⟨rfl,b3⟩
 have R3:=hid (R2.out.below b3 R2.out.lt);have B3:=hid (B2.out.trans (b3.mono B2.out.size));obtain⟨S,hS⟩:∃ S,sum (stM++xs)=S:=⟨_,rfl⟩;have hSl:S.length=32:=by rw[←hS];rfl
 rw[hS];have HSS:=hid hS;have HSL:=hid hSl;have HZL:=hid (show(u8s zH).length=(u8s S).length by rw[u8s_length,u8s_length,hSl];rfl);have R4:=hid (R3.out.setRow (u8s S));have B4:=hid (below_setRow B3.out (by omega) (u8s S).toArray (g:=w.heap.size+1));clear b3 OB_ hS hSl R2 B2 S2
 go_wp2_with ((with_reducible refine at_op (.store 36 (.tmp 2) (.tmp 5)) rfl ?_);go_must (refine store_blk 36 (.tmp 2) (.tmp 5) (w.heap.size+1) 36 (u8s zH) (u8s S) rfl rfl R3.out HZL.out (hash_size _ HSL.out) (u8s_oneD _) rfl rfl ?_))
 exact ret_blk (p:=2) (ty:=36) rfl rfl (w.heap.size+1) 36 _ _ rfl R4.out Tryz.underlying36 rfl (hash_size _ HSL.out) ⟨by rw[HSS.out],B4.out⟩
structure PR9 (w0 W:World) (x:Gv) (v:Value) (l:List Nat):Prop where
 a:Blk W w0.heap.size 25 (gv x)
 ow:W.ownsRow w0.heap.size 5 1 v l.length (u8s l)
 bel:Below w0.heap.size w0 W
theorem PR9.below {w0 W W':World} {x:Gv} {v:Value} {l:List Nat} (h:PR9 w0 W x v l) (hb:Below W.heap.size W W'):PR9 w0 W' x v l:=⟨h.a.below hb h.a.lt,own_below h.ow hb,h.bel.trans (hb.mono h.bel.size)⟩
theorem PR9.grow {w0 W W':World} {x:Gv} {v v':Value} {l ys:List Nat} {m:Nat} (h:PR9 w0 W x v l) (hm:ys.length=m) (a1:W'.ownsRow w0.heap.size 5 1 v' (l.length+m) (u8s (l++ys))) (a2:W.grownBy W' v.ownBlock):PR9 w0 W' x v' (l++ys):=
 ⟨(a2.block _ h.a.lt (λq=>own_apart h.ow h.a (by decide) q.symm)).trans h.a,by rw[List.length_append,hm];exact a1,h.bel.grown a2 h.bel.size λk e=>(h.ow.lt k e).1⟩
theorem beN_one (n:Nat) (h:n<256):beN n 1=[n]:=by
 unfold beN;simp;omega
set_option maxHeartbeats 1000000 in
theorem gPutR_t (x:Gv) (w:World) (h:GvW w x) (hm:begB x=true):
  Calls Tryz.prog 15 #[.agg (gv x).toArray] w λe w'=>∃ u,e= .returned u∧Fresh 5 w w' u (pg x):=by
 have m:=begB_h hm;obtain⟨a,ha⟩:∃ a:Nat,x.f=(a:Int):=⟨x.f.toNat,by have:=m.f0;omega⟩;obtain⟨b,hb⟩:∃ a:Nat,x.rd=(a:Int):=⟨x.rd.toNat,by have:=m.r0;omega⟩;obtain⟨k,hk⟩:∃ a:Nat,x.wr=(a:Int):=⟨x.wr.toNat,by have:=m.w0;omega⟩;obtain⟨n,hn⟩:∃ n,x.ks.length=n:=⟨_,rfl⟩;obtain⟨kp,hkp⟩:∃ n,x.kp=n:=⟨_,rfl⟩;have a9:a≤2:=by have:=m.f2;omega
 have b9:b≤15:=by have:=m.r1;omega
 have k9:k≤15:=by have:=m.w1;omega
 have n9:n≤7:=by have:=m.n;omega
 have KL:=hid (λ(y:Ky) (hy:y∈x.ks)=>formN_len (m.k y hy));have E:=hid (show pg x=[a,b,k]++(x.ks.map (·.X)).flatten++txtN x.st from by
  unfold pg putG;rw[ha,hb,hk];simp only[Int.toNat_natCast,beN_one a (by omega),beN_one b (by omega),beN_one k (by omega)];simp only[List.cons_append,List.nil_append])
 obtain⟨xs,hxs⟩:∃ l,pg x=l:=⟨_,rfl⟩;rw[hxs] at E ⊢;have RC:=hid (λ(W:World) (hb:Blk W w.heap.size 25 (gv x))=>gv_cells hb);rw[ha,hb,hk,hn,hkp] at RC;have i1:IntKind.u8.wrap (a:Int)=(a:Int):=IntWalk.u8_in _ (by omega);have i2:IntKind.u8.wrap (b:Int)=(b:Int):=IntWalk.u8_in _ (by omega);have i3:IntKind.u8.wrap (k:Int)=(k:Int):=IntWalk.u8_in _ (by omega);have HN:=hid hn;have HKP:=hid hkp;have HX:=hid h;have P0:=hid (show PR9 w ((w.alloc (.cells (gv x).toArray 25)).alloc (.cells #[.int .u8 (a:Int),.int .u8 (b:Int),.int .u8 (k:Int)] 5)) x (.slice (some ⟨(w.alloc (.cells (gv x).toArray 25)).heap.size,0,none⟩) 3 3) [a,b,k] from by
  have g0:=GB9.new h;have bz:Below (w.alloc (.cells (gv x).toArray 25)).heap.size (w.alloc (.cells (gv x).toArray 25)) ((w.alloc (.cells (gv x).toArray 25)).alloc (.cells #[.int .u8 (a:Int),.int .u8 (b:Int),.int .u8 (k:Int)] 5)):=(Below.refl _ _).alloc (Nat.le_refl _) _;exact⟨g0.a.below bz g0.a.lt,World.ownsRow_lit (w.alloc (.cells (gv x).toArray 25)) (e:=5) (size:=1) (base:=w.heap.size) #[.int .u8 (a:Int),.int .u8 (b:Int),.int .u8 (k:Int)] 3 g0.bel.size (by decide) rfl,g0.bel.trans (bz.mono g0.bel.size)⟩)
 have c:=RC.out _ (GB9.new h).a;obtain⟨c0,c1,c2,_,_⟩:=c;clear h hm m ha hb hk hn hkp hxs
 go_enter Tryz.func15,Tryz.ntmps15
 go_upto_region 2 with(fail)
 clear c0 c1 c2 i1 i2 i3;refine world_at (λY=>PR9 w Y x (.slice (some ⟨w.heap.size+1,0,none⟩) 3 3) [a,b,k]) (by have h:=P0.out;simpa using h) ?_
 rintro Y p1
 have P1:=hid p1;clear p1 P0 a9 b9 k9;obtain⟨pre,hpre⟩:∃ l,[a,b,k]=l:=⟨_,rfl⟩;have LP:=hid (show pre.length=3 from by rw[←hpre];rfl);rw[hpre] at P1 E;clear hpre;go_wp2_with fail
 go_loopw [3,4] (λv t wr=>∃ j:Nat,j≤n∧t= .int .i64 (j:Int)∧PR9 w wr x v (pre++((x.ks.take j).map (·.X)).flatten)) (λ_ t _=>n- (intOf t).toNat)
 case atStart=>exact⟨0,by omega,rfl,by rw[List.take_zero,List.map_nil,List.flatten_nil,List.append_nil];exact P1.out⟩
 case round=>
  clear P1;obtain⟨j,hj,rfl,pj⟩:=hrel;have PJ:=hid pj;clear pj;have LJ:=hid (show(pre++((x.ks.take j).map (·.X)).flatten).length≤3+56 * 7 from by
   have h1:=flatten_le (C:=56) (l:=x.ks.take j) (λy hy=>Nat.le_of_eq (KL.out y (List.mem_of_mem_take hy)));have h2:(x.ks.take j).length≤7:=by rw[List.length_take];omega
   rw[List.length_append,LP.out];omega)
  obtain⟨_,_,_,c3,c4⟩:=RC.out _ PJ.out.a
  by_cases hlt:j<n
  ·obtain⟨y,hy⟩:∃ y,x.ks[j]? =some y:=⟨_,List.getElem?_eq_getElem (by rw[HN.out];exact hlt)⟩;obtain⟨bq,o,hpe,hbl,rg⟩:=(HX.out.below PJ.out.bel).ks j y hy;obtain rfl:kp=some ⟨bq,o,none⟩:=HKP.out.symm.trans hpe;have c1:wr.cell? ⟨bq,o+j,none⟩=some (.slice y.A y.X.length y.c):=by have:=rg 0 _ rfl;rw[Nat.mul_one,Nat.add_zero] at this;exact this
   have j1:(j:Int)< (n:Int):=by omega
   have HY:=hid hy;have HM:=List.mem_of_getElem? hy;have SK:=hid ((HX.out.k y HM).below PJ.out.bel);have L63:=hid (show(pre++((x.ks.take j).map (·.X)).flatten).length+y.X.length≤70368744177664 from by have h1:=LJ.out;have h2:=KL.out y HM;omega);clear rg hpe hbl hy HM c4
   go_wp2_with ((with_reducible refine at_op (.call { callee:= .builtin .append,args:= #[.tmp 22,.tmp 27],argTypes:= #[23,23] }) rfl ?_);go_must (refine append_bytes (.tmp 22) (.tmp 27) 23 rfl rfl 5 Tryz.underlying23 byte_info w.heap.size _ _ _ y.X rfl PJ.out.ow y.A y.X.length y.c rfl rfl SK.out L63.out PJ.out.bel.size ?_);intro v3 w11 a1 a2 a3)
   have P7:=hid (PJ.out.grow rfl a1.out a2.out);clear a1 a2 a3 PJ SK c1 c3;go_wp2_with fail
   go_roundw
   case rel=>exact⟨j+1,by omega,by go_num,by rw[flatten_snoc HY.out,←List.append_assoc];exact P7.out⟩
   case measure=>simp[intOf];omega
  ·obtain rfl:j=n:=by omega
   clear hlt;rw[List.take_of_length_le (by rw[HN.out];exact Nat.le_refl _)] at PJ LJ;have TX:=hid (reftext_t x.st x.sp x.st.length x.sc wr rfl (HX.out.st.below PJ.out.bel) (by have:=HX.out.sl;omega));go_wp2_with fail
   refine TX.out.mono ?_
   rintro e w8 ⟨u,rfl,fr⟩
   obtain⟨A8,c8,rfl,hc8,s8,b8⟩:=fresh_opO fr;have P8:=hid (PJ.out.below b8);have S8:=hid s8;have L63:=hid (show(pre++(x.ks.map (·.X)).flatten).length+(txtN x.st).length≤70368744177664 from by have h1:=LJ.out;have h2:=HX.out.sl;rw[show(txtN x.st).length=4+x.st.length by unfold txtN;rw[List.length_append,beN_length]];omega);clear fr hc8 s8 b8 PJ TX c3 c4
   go_wp2_with ((with_reducible refine at_op (.call { callee:= .builtin .append,args:= #[.tmp 29,.tmp 32],argTypes:= #[23,23] }) rfl ?_);go_must (refine append_bytes (.tmp 29) (.tmp 32) 23 rfl rfl 5 Tryz.underlying23 byte_info w.heap.size _ _ _ (txtN x.st) rfl P8.out.ow A8 (txtN x.st).length c8 rfl rfl S8.out L63.out P8.out.bel.size ?_);intro v3 w11 a1 a2 a3)
   have P9:=hid (P8.out.grow rfl a1.out a2.out);rw[←E.out] at P9;clear a1 a2 a3 P8 S8;go_wp2_with fail
   go_ret;exact⟨_,rfl,P9.out.ow,P9.out.bel⟩
def anL:List Nat:=[71,69,78,69]
def liL:List Nat:=[76,73,78,75]
theorem anL_eq:bs anM=anL:=by decide+kernel
theorem liL_eq:bs liM=liL:=by decide+kernel
theorem anL_bytes:Bytes anL:=sl_bytes (by decide)
theorem liL_bytes:Bytes liL:=sl_bytes (by decide)
theorem pg_leN {x:Gv} {N:Nat} (hm:begB x=true) (hs:x.st.length≤N):(pg x).length≤N+400:=by
 have m:=begB_h hm;have h1:=flatten_le (C:=56) (l:=x.ks) λy hy=>Nat.le_of_eq (formN_len (m.k y hy))
 have h2:=m.n;have h3:=m.f2;unfold pg putG;simp only[List.length_append,beN_length,txtN];omega
set_option maxHeartbeats 1000000 in
theorem gAnchorR_no (x:Gv) (w:World) (h:GvW w x) (hc:GvC x) (hm:begB x=false):
  Calls Tryz.prog 21 #[.agg (gv x).toArray] w λe w'=>e= .returned (.agg (u8s zH).toArray)∧Below w.heap.size w w':=by
 have S0:=hid (HG9.new h);have HC:=hid hc;have FG:=hid (gv_size x);have HM:=hid hm;clear h hc hm
 go_enter Tryz.func21,Tryz.ntmps21
 go_upto_region 1 with(fail)
 refine world_at (λY=>HG9 w Y x zH) S0.out ?_
 rintro V s1
 have S1:=hid s1;clear s1 S0;have MT:=hid (gMayR_t x V S1.out.gb.rx HC.out);rw[HM.out] at MT;have GA:=hid S1.out.gb.a
 go_wp2_with ((with_reducible refine load_blk 25 (.tmp 1) w.heap.size 25 (gv x) _ rfl rfl ?_ Tryz.underlying25 ?_ ?_ ?_ ?_);exact GA.out;exact rfl;exact FG.out;exact rfl)
 refine MT.out.mono ?_
 rintro e w1 ⟨rfl,b1⟩
 have S2:=hid (S1.out.below b1);clear S1 MT b1 GA;have RES:=hid S2.out.res;have RZ:=hid (S2.out.res.setRow (u8s zH));have BF:=hid (below_setRow S2.out.gb.bel (g:=w.heap.size+1) (by omega) (u8s zH).toArray);have BZ:=built_hz;have FZ:=hid (hash_size zH rfl)
 go_wp2_with ((with_reducible refine at_op (.store 36 (.tmp 2) (.tmp 6)) rfl ?_);go_must (refine store_blk 36 (.tmp 2) (.tmp 6) (w.heap.size+1) 36 (u8s zH) (u8s zH) rfl rfl RES.out rfl FZ.out (u8s_oneD _) rfl rfl ?_))
 exact ret_blk (p:=2) (ty:=36) rfl rfl (w.heap.size+1) 36 _ _ rfl RZ.out Tryz.underlying36 rfl FZ.out ⟨rfl,BF.out⟩
set_option maxHeartbeats 1000000 in
theorem gAnchorR_yes (x:Gv) (w:World) (h:GvW w x) (hc:GvC x) (hm:begB x=true) (hs:x.st.length≤900000):
  Calls Tryz.prog 21 #[.agg (gv x).toArray] w λe w'=>e= .returned (.agg (u8s (anE x)).toArray)∧Below w.heap.size w w':=by
 have S0:=hid (HG9.new h);have HC:=hid hc;have FG:=hid (gv_size x);have HM:=hid hm;have PL:=hid (pg_leN hm hs);have PB:=hid (pg_bytes h.kb h.sb);clear h hc hm hs;obtain⟨S,hS⟩:∃ S,anE x=S:=⟨_,rfl⟩;have HSL:=hid (show S.length=32 from by rw[←hS];rfl);have HSS:=hid (show sum (anL++pg x)=S from by rw[←hS,←anL_eq];rfl);rw[hS];clear hS
 go_enter Tryz.func21,Tryz.ntmps21
 go_upto_region 1 with(fail)
 refine world_at (λY=>HG9 w Y x zH) S0.out ?_
 rintro V s1
 have S1:=hid s1;clear s1 S0;have MT:=hid (gMayR_t x V S1.out.gb.rx HC.out);rw[HM.out] at MT;have GA:=hid S1.out.gb.a
 go_wp2_with ((with_reducible refine load_blk 25 (.tmp 1) w.heap.size 25 (gv x) _ rfl rfl ?_ Tryz.underlying25 ?_ ?_ ?_ ?_);exact GA.out;exact rfl;exact FG.out;exact rfl)
 refine MT.out.mono ?_
 rintro e w1 ⟨rfl,b1⟩
 have S2:=hid (S1.out.below b1);clear S1 MT b1 GA;have S4:=hid (sr_frz anL w1 [] 5 (4,5));have BA:=hid (show Below w1.heap.size w1 (w1.alloc (.cells (u8s anL).toArray 5 (4,5))) from(Below.refl _ _).alloc (Nat.le_refl _) _);rw[List.append_nil] at S4;have S3:=hid (S2.out.below BA.out);have PT:=hid (gPutR_t x _ S3.out.gb.rx HM.out);have GA:=hid S3.out.gb.a;have kc:=λ(w:World) (C:Array Value) (n c:Nat)=>Lib.run_convert_bytes_const (P:=Tryz.prog) w 23 5 C n c Tryz.underlying23 Tryz.underlying5
 clear S2 BA
 go_wp2_with ((with_reducible refine load_blk 25 (.tmp 1) w.heap.size 25 (gv x) _ rfl rfl ?_ Tryz.underlying25 ?_ ?_ ?_ ?_);exact GA.out;exact rfl;exact FG.out;exact rfl)
 clear kc;refine PT.out.mono ?_
 rintro e w2 ⟨u,rfl,fr⟩
 obtain⟨A,c,rfl,_,s2,b2⟩:=fresh_opO fr;have S5:=hid (S3.out.below b2);have SP:=hid s2;have SA:=hid (S4.out.below b2);obtain⟨xs,hxs⟩:∃ l,pg x=l:=⟨_,rfl⟩;rw[hxs] at PL PB HSS SP ⊢;obtain⟨ga,hga⟩:∃ g,w1.heap.size=g:=⟨_,rfl⟩;rw[hga] at SA ⊢;clear fr s2 b2 S3 S4 PT GA hxs hga;have E:=hid (show catO [⟨some ⟨ga,0,none⟩,4,anL⟩,⟨A,c,xs⟩]=anL++xs by simp[catO]);have BP:=hid (Blk.new w2 23 (partsO [⟨some ⟨ga,0,none⟩,4,anL⟩,⟨A,c,xs⟩]));have BW:=hid (show Below w2.heap.size w2 (w2.alloc (.cells (partsO [⟨some ⟨ga,0,none⟩,4,anL⟩,⟨A,c,xs⟩]).toArray 23)) from(Below.refl _ _).alloc (Nat.le_refl _) _);have CT:=hid (catO_t [⟨some ⟨ga,0,none⟩,4,anL⟩,⟨A,c,xs⟩] w2.heap.size 2 2 23 _ rfl BP.out (λx hx=>by
  simp only[List.mem_cons,List.not_mem_nil,or_false] at hx;rcases hx with rfl |rfl
  ·exact SA.out.below BW.out
  ·exact SP.out.below BW.out) (by rw[E.out,List.length_append];have:=PL.out;show 4+xs.length≤_;omega) (by decide))
 have S6:=hid (S5.out.below BW.out);go_wp2_with fail
 refine CT.out.mono ?_
 rintro e w4 ⟨u,rfl,fr⟩
 rw[E.out] at fr;have YB:=hid (app_bytes anL_bytes PB.out);have YL:=hid (show(anL++xs).length≤100000000 by rw[List.length_append];have:=PL.out;show 4+xs.length≤_;omega);obtain⟨ys,hys⟩:∃ l,anL++xs=l:=⟨_,rfl⟩;rw[hys] at fr YB YL HSS;clear hys;obtain⟨A4,c4,rfl,_,s4,b4⟩:=fresh_opO fr;have S7:=hid (S6.out.below b4);have R4:=hid s4;clear fr s4 b4 S5 S6 CT BW BP E SA SP PL PB;have US:=hid (refsum_t ys A4 ys.length c4 w4 rfl R4.out YB.out YL.out);rw[HSS.out] at US;go_wp2_with fail
 refine US.out.mono ?_
 rintro e w5 ⟨rfl,b5⟩
 have S8:=hid (S7.out.below b5);clear S7 US b5 R4;have RES:=hid S8.out.res;have RZ:=hid (S8.out.res.setRow (u8s S));have BF:=hid (below_setRow S8.out.gb.bel (g:=w.heap.size+1) (by omega) (u8s S).toArray);have FZ:=hid (hash_size S HSL.out);have HZL:=hid (show(u8s zH).length=(u8s S).length by rw[u8s_length,u8s_length,HSL.out];rfl)
 go_wp2_with ((with_reducible refine at_op (.store 36 (.tmp 2) (.tmp 13)) rfl ?_);go_must (refine store_blk 36 (.tmp 2) (.tmp 13) (w.heap.size+1) 36 (u8s zH) (u8s S) rfl rfl RES.out HZL.out FZ.out (u8s_oneD _) rfl rfl ?_))
 exact ret_blk (p:=2) (ty:=36) rfl rfl (w.heap.size+1) 36 _ _ rfl RZ.out Tryz.underlying36 rfl FZ.out ⟨rfl,BF.out⟩
def OffT (F:Nat→Prop) (p:Option Addr) (t:List Fld):Prop:=t≠[]→∀ k,OB p k→¬ F k
structure OffS (F:Nat→Prop) (x:Spv):Prop where
 its:x.its≠[]→∀ k,OB x.ip k→¬ F k
 it:∀ y∈x.its,OffT F y.p y.i.t
 wts:x.wts≠[]→∀ k,OB x.wp k→¬ F k
 wt:∀ y∈x.wts,OffT F y.p y.x.p
 la:∀ y∈x.last,OffT F y.p y.r.t
theorem RowL.keptF {α:Type} {w w':World} {p:Option Addr} {sz:Nat} {f:α→List Value} {l:List α} {F:Nat→Prop} (h:RowL w p sz f l) (hk:Kept F w w') (ho:l≠[]→∀ k,OB p k→¬ F k):RowL w' p sz f l:=by
 by_cases hl:l=[]
 ·subst hl;exact RowL.nil
 ·exact h.kept hk (λa e=>ho hl a.block ⟨a,e,rfl⟩)
theorem RowL.lt {α:Type} {w:World} {p:Option Addr} {sz:Nat} {f:α→List Value} {l:List α} (h:RowL w p sz f l) (hl:l≠[]) {k:Nat} (hk:OB p k):k<w.heap.size:=by
 obtain⟨b,o,e,hb,_⟩:=h.at (List.length_pos_iff.2 hl);obtain⟨a,e2,rfl⟩:=hk;rw[e] at e2
 injection e2 with e2
 rw[←e2];exact hb
theorem TR.keptF {w w':World} {p:Option Addr} {t:List Fld} {F:Nat→Prop} (h:TR w p t) (hk:Kept F w w') (ho:OffT F p t):TR w' p t:=⟨rw_row.2 ((rw_row.1 h.t).keptF hk ho),h.n⟩
theorem TR.offNew {w:World} {p:Option Addr} {t:List Fld} {F:Nat→Prop} (h:TR w p t) (hF:∀ k,F k→w.heap.size≤k):OffT F p t:=λht k hk hf=>by
 have:=(rw_row.1 h.t).lt ht hk;have:=hF k hf;omega
theorem OffT.mono {F G:Nat→Prop} {p:Option Addr} {t:List Fld} (h:OffT F p t) (hg:∀ k,G k→F k):OffT G p t:=λht k hk hf=>h ht k hk (hg k hf)
theorem OffS.mono {F G:Nat→Prop} {x:Spv} (h:OffS F x) (hg:∀ k,G k→F k):OffS G x:=
 ⟨λa k b c=>h.its a k b (hg k c),λy hy=>(h.it y hy).mono hg,λa k b c=>h.wts a k b (hg k c),λy hy=>(h.wt y hy).mono hg,λy hy=>(h.la y hy).mono hg⟩
theorem SpW.keptF {w w':World} {x:Spv} {F:Nat→Prop} (h:SpW w x) (hk:Kept F w w') (ho:OffS F x):SpW w' x:=
 ⟨h.its.keptF hk ho.its,λy hy=>(h.it y hy).keptF hk (ho.it y hy),h.wts.keptF hk ho.wts,λy hy=>(h.wt y hy).keptF hk (ho.wt y hy),h.l4,λy hy=>(h.la y hy).keptF hk (ho.la y hy),h.n,h.m⟩
theorem SpW.offNew {w:World} {x:Spv} {F:Nat→Prop} (h:SpW w x) (hF:∀ k,F k→w.heap.size≤k):OffS F x:=
 ⟨λa k b c=>(by have:=h.its.lt a b;have:=hF k c;omega),λy hy=>(h.it y hy).offNew hF,λa k b c=>(by have:=h.wts.lt a b;have:=hF k c;omega),λy hy=>(h.wt y hy).offNew hF,λy hy=>(h.la y hy).offNew hF⟩
def GFr (gg:Nat) (q:Option Addr):Nat→Prop:=λk=>k=gg∨OB q k
def gB (x:Spv) (q:Option Addr) (n c:Nat):List Value:=sv x++[.slice q n c]
structure GW (E:Nat→Prop) (w0 W:World) (gg:Nat) (x:Spv) (q:Option Addr) (c:Nat) (R:List Rpv):Prop where
 box:Blk W gg 114 (gB x q R.length c)
 sp:SpW W x
 off:OffS (GFr gg q) x
 ro:W.ownsRow w0.heap.size 43 5 (.slice q R.length c) R.length (R.flatMap pv)
 rt:∀ y∈R,TR W y.p y.r.t
 rof:∀ y∈R,OffT (GFr gg q) y.p y.r.t
 ge:w0.heap.size≤gg
 bel:Below w0.heap.size w0 W
 oe:OffS E x
 eo:∀ k,E k→k<w0.heap.size
section
variable {E : Nat → Prop}
theorem GW.below {w0 W W':World} {gg c:Nat} {x:Spv} {q:Option Addr} {R:List Rpv} (h:GW E w0 W gg x q c R) (hb:Below W.heap.size W W'):GW E w0 W' gg x q c R:=
 ⟨h.box.below hb h.box.lt,h.sp.below hb,h.off,own_below h.ro hb,λy hy=>(h.rt y hy).below hb,h.rof,h.ge,h.bel.trans (hb.mono h.bel.size),h.oe,h.eo⟩
theorem gB_25 {x:Spv} {q:Option Addr} {n c:Nat} (h:x.last.length=4):(gB x q n c)[25]? =some (.slice q n c):=by
 have:=sv_len x h;unfold gB;rw[List.getElem?_append_right (by omega),this];rfl
theorem gB_lo {x:Spv} {q:Option Addr} {n c i:Nat} (h:x.last.length=4) (hi:i<25):(gB x q n c)[i]? =(sv x)[i]? :=by
 unfold gB;rw[List.getElem?_append_left (by rw[sv_len x h];exact hi)]
theorem GW.out {w0 W:World} {gg c:Nat} {x:Spv} {q:Option Addr} {R:List Rpv} (h:GW E w0 W gg x q c R):W.cell? ⟨gg,25,none⟩=some (.slice q R.length c):=(h.box.cell 25).trans (gB_25 h.sp.l4)
theorem GW.cells {w0 W:World} {gg c:Nat} {x:Spv} {q:Option Addr} {R:List Rpv} (h:GW E w0 W gg x q c R):
  W.cell? ⟨gg,0,none⟩=some (.int .i64 x.now)∧W.cell? ⟨gg,1,none⟩=some (.slice x.ip x.its.length x.ic)∧W.cell? ⟨gg,2,none⟩=some (.slice x.wp x.wts.length x.wc):=
 ⟨(h.box.cell 0).trans (gB_lo h.sp.l4 (by decide)),(h.box.cell 1).trans (gB_lo h.sp.l4 (by decide)),(h.box.cell 2).trans (gB_lo h.sp.l4 (by decide))⟩
theorem set_len4 {x:Spv} {k:Nat} {z:Rpv} (h:x.last.length=4):({ x with last:=x.last.set k z } :Spv).last.length=4:=by
 show(x.last.set k z).length=4
 rw[List.length_set,h]
theorem SpW.setLast {w:World} {x:Spv} {k:Nat} {z:Rpv} (h:SpW w x) (hz:TR w z.p z.r.t):SpW w { x with last:=x.last.set k z } :=
 ⟨h.its,h.it,h.wts,h.wt,set_len4 h.l4,λy hy=>by
  rcases List.mem_or_eq_of_mem_set hy with hy |rfl
  ·exact h.la y hy
  ·exact hz,h.n,h.m⟩
theorem OffS.setLast {F:Nat→Prop} {x:Spv} {k:Nat} {z:Rpv} (h:OffS F x) (hz:OffT F z.p z.r.t):OffS F { x with last:=x.last.set k z } :=
 ⟨h.its,h.it,h.wts,h.wt,λy hy=>by
  rcases List.mem_or_eq_of_mem_set hy with hy |rfl
  ·exact h.la y hy
  ·exact hz⟩
theorem gB_at (x:Spv) (j:Nat) (y:Rpv) (q:Option Addr) (n c:Nat) (hy:x.last[j]? =some y):gB x q n c=svL x j++(pv y++(svR x j++[.slice q n c])):=by
 unfold gB;rw[sv_at x j y hy,List.append_assoc,List.append_assoc]
theorem gB_put (x:Spv) (j:Nat) (y y':Rpv) (q:Option Addr) (n c:Nat) (hy:x.last[j]? =some y):svL x j++(pv y'++(svR x j++[.slice q n c]))=gB { x with last:=x.last.set j y' } q n c:=by
 unfold gB;rw[←List.append_assoc,←List.append_assoc,List.append_assoc (svL x j),sv_put x j y y' hy]
theorem GW.last {w0 W W':World} {gg c k:Nat} {x:Spv} {q:Option Addr} {R:List Rpv} {z:Rpv} (h:GW E w0 W gg x q c R) (hz:TR W z.p z.r.t) (ho:OffT (GFr gg q) z.p z.r.t) (hz2:OffT E z.p z.r.t) (hk:Kept (λb=>b=gg) W W') (hb:Blk W' gg 114 (gB { x with last:=x.last.set k z } q R.length c)):
  GW E w0 W' gg { x with last:=x.last.set k z } q c R:=by
 have f:∀ k,k=gg→GFr gg q k:=λk e=> .inl e
 refine⟨hb,(h.sp.setLast hz).keptF hk ((h.off.setLast ho).mono f),h.off.setLast ho,own_kept h.ro hk (λb hb' e=>own_apart h.ro h.box (by decide) (by rw[hb',e])),λy hy=>(h.rt y hy).keptF hk ((h.rof y hy).mono f),h.rof,h.ge,?_,h.oe.setLast hz2,h.eo⟩;exact h.bel.trans ⟨hk.os,hk.tape,hk.output,hk.size,λb hb=>hk.block b (Nat.lt_of_lt_of_le hb h.bel.size) (λe=>by have:=h.ge;omega)⟩
theorem GW.more {w0 W W1:World} {gg c c':Nat} {x:Spv} {q q':Option Addr} {R:List Rpv} {z:Rpv} (h:GW E w0 W gg x q c R) (hz:TR W z.p z.r.t) (ho:OffT (GFr gg q) z.p z.r.t)
  (hr:W1.ownsRow w0.heap.size 43 5 (.slice q' (R.length+1) c') (R.length+1) (R.flatMap pv++[z].flatMap pv)) (hg:W.grownBy W1 (Value.ownBlock (.slice q R.length c))) (hn:Value.ownBlock (.slice q' (R.length+1) c')=Value.ownBlock (.slice q R.length c)∨Value.ownBlock (.slice q' (R.length+1) c')=some W.heap.size):
  GW E w0 (W1.setCell ⟨gg,25,none⟩ (.slice q' (R.length+1) c')) gg x q' c' (R++[z])∧Kept (GFr gg q) W (W1.setCell ⟨gg,25,none⟩ (.slice q' (R.length+1) c'))∧∀ k,OB q' k→OB q k∨W.heap.size≤k:=by
 have hq:∀ k,OB q' k→OB q k∨W.heap.size≤k:=λk hk=>by
  have e:=hk.own (n:=R.length+1) (c:=c');rcases hn with hn |hn
  ·rw[hn] at e;exact .inl (ob_own' e)
  ·rw[hn] at e
   injection e with e
   exact .inr (by omega)
 have hb1:Blk W1 gg 114 (gB x q R.length c):=own_grown_blk h.ro hg h.box (by decide);have hk1:Kept (GFr gg q) W W1:=(Kept.refl (GFr gg q) W).grown hg (λk e=> .inl (.inr (ob_own' e)));have hk2:Kept (λb=>b=gg) W1 (W1.setCell ⟨gg,25,none⟩ (.slice q' (R.length+1) c')):=(Kept.refl (λb=>b=gg) W1).setCell (p:=⟨gg,25,none⟩) (.inl rfl) _;have hk:Kept (GFr gg q) W (W1.setCell ⟨gg,25,none⟩ (.slice q' (R.length+1) c')):=hk1.trans (hk2.mono λk e=> .inl e);have hof:∀ {p:Option Addr} {t:List Fld},TR W p t→OffT (GFr gg q) p t→OffT (GFr gg q') p t:=λht ho hne k hk hf=>by
  rcases hf with e |e
  ·exact ho hne k hk (.inl e)
  ·rcases hq k e with e |e
   ·exact ho hne k hk (.inr e)
   ·have:=(rw_row.1 ht.t).lt hne hk;omega
 have hos:OffS (GFr gg q') x:=⟨λhne k hk hf=>by
   rcases hf with e |e
   ·exact h.off.its hne k hk (.inl e)
   ·rcases hq k e with e |e
    ·exact h.off.its hne k hk (.inr e)
    ·have:=h.sp.its.lt hne hk;omega,λy hy=>hof (h.sp.it y hy) (h.off.it y hy),λhne k hk hf=>by
   rcases hf with e |e
   ·exact h.off.wts hne k hk (.inl e)
   ·rcases hq k e with e |e
    ·exact h.off.wts hne k hk (.inr e)
    ·have:=h.sp.wts.lt hne hk;omega,λy hy=>hof (h.sp.wt y hy) (h.off.wt y hy),λy hy=>hof (h.sp.la y hy) (h.off.la y hy)⟩
 refine⟨⟨?_,h.sp.keptF hk h.off,hos,?_,λy hy=>?_,λy hy=>?_,h.ge,?_,h.oe,h.eo⟩,hk,hq⟩
 ·have e:=hb1.store 25 (.slice q' (R.length+1) c');have e2:(gB x q R.length c).set 25 (.slice q' (R.length+1) c')=gB x q' (R++[z]).length c':=by
   unfold gB;rw[List.set_append_right _ _ (by rw[sv_len x h.sp.l4];exact Nat.le_refl _),sv_len x h.sp.l4,List.length_append];rfl
  rw[←e2];exact e
 ·rw[List.length_append,List.flatMap_append];exact own_kept hr hk2 (λb hb' e=>own_apart hr hb1 (by decide) (by have:=hb';rw[e] at this;exact this))
 ·rcases List.mem_append.1 hy with hy |hy
  ·exact(h.rt y hy).keptF hk (h.rof y hy)
  ·rw[List.mem_singleton.1 hy];exact hz.keptF hk ho
 ·rcases List.mem_append.1 hy with hy |hy
  ·exact hof (h.rt y hy) (h.rof y hy)
  ·rw[List.mem_singleton.1 hy];exact hof hz ho
 ·refine h.bel.trans ⟨hk.os,hk.tape,hk.output,hk.size,λb hb=>hk.block b (Nat.lt_of_lt_of_le hb h.bel.size) (λe=>?_)⟩;rcases e with e |e
  ·have:=h.ge;omega
  ·have:=(h.ro.lt b e.own).1;omega
end
end Go.Proofs.YtlipjglehongeaaGreatDoor
