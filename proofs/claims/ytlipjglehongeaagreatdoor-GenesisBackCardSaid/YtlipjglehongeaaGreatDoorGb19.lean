/-
  PACKAGE genesis
  PACKAGE genesis
-/
import Derived.Test.YtlipjglehongeaaGreatDoorGb18
import Derived.Test.YtlipjglehongeaaGreatDoorTk
open Go.Lib (hid)
set_option maxRecDepth 100000
namespace Go.Proofs.YtlipjglehongeaaGreatDoor
open Go Go.RowKit Sh
def putG (f rd wr:Int) (ks:List (List Nat)) (st:List Nat):List Nat:=beN f.toNat 1++(beN rd.toNat 1++(beN wr.toNat 1++(ks.flatten++txtN st)))
def pg (x:Gv):List Nat:=putG x.f x.rd x.wr (x.ks.map (·.X)) x.st
structure MayG (x:Gv):Prop where
 f0:0≤x.f
 f2:x.f≤2
 r0:0≤x.rd
 r1:x.rd≤15
 w0:0≤x.wr
 w1:x.wr≤15
 n:(x.ks.length:Int)=3 * x.f+1
 k:∀ y∈x.ks,formN y.X=true
 st:stB x=true
theorem formN_len {l:List Nat} (h:formN l=true):l.length=56:=by
 unfold formN at h;rw[decide_eq_true_iff] at h;exact h.1
theorem begB_h {x:Gv} (h:begB x=true):MayG x:=by
 unfold begB fltB alB mayK at h;simp only[Bool.and_eq_true,decide_eq_true_eq,List.all_eq_true,List.length_map] at h;obtain⟨⟨h1,h2⟩,⟨h3,h4⟩,⟨h5,h6⟩,⟨h7,h8⟩,h9⟩:=h;exact⟨h1,h2,h3,h4,h5,h6,h7,λy hy=>h8 y.X (List.mem_map_of_mem hy),h9⟩
structure QG9 (w0 w2 W:World) (x:Gv) (l:List Nat):Prop where
 wr:Wr W (λk=>w2.heap.size≤k) w2.heap.size l
 box:Blk W w0.heap.size 25 (gv x)
 lo:w0.heap.size<w2.heap.size
 r2:GvW w2 x
 bel:Below w0.heap.size w0 w2
 b2:Below w2.heap.size w2 W
theorem QG9.step {w0 w2 W W':World} {x:Gv} {l l':List Nat} (h:QG9 w0 w2 W x l) (hw:Wr W' (λk=>w2.heap.size≤k) w2.heap.size l') (hb:Below w2.heap.size W W'):QG9 w0 w2 W' x l':=
 ⟨hw,h.box.below hb h.lo,h.lo,h.r2,h.bel,h.b2.trans hb⟩
theorem flatten_len {l:List Ky} (h:∀ y∈l,y.X.length=56):(l.map (·.X)).flatten.length=56 * l.length:=by
 induction l with
 |nil=>rfl
 |cons a l ih=>
  rw[List.map_cons,List.flatten_cons,List.length_append,h a List.mem_cons_self,ih (λy hy=>h y (List.mem_cons_of_mem _ hy)),List.length_cons];omega
theorem flatten_snoc {l:List Ky} {j:Nat} {y:Ky} (h:l[j]? =some y):((l.take (j+1)).map (·.X)).flatten=((l.take j).map (·.X)).flatten++y.X:=by
 rw[take_snocS h,List.map_append,List.flatten_append];simp
set_option maxHeartbeats 1000000 in
theorem written_t (x:Gv) (w:World) (h:GvW w x) (hm:begB x=true):
  Calls Tryz.prog 48 #[.agg (gv x).toArray] w λe w'=>∃ u,e= .returned u∧Fresh 5 w w' u (pg x):=by
 have m:=begB_h hm;obtain⟨a,ha⟩:∃ a:Nat,x.f=(a:Int):=⟨x.f.toNat,by have:=m.f0;omega⟩;obtain⟨b,hb⟩:∃ a:Nat,x.rd=(a:Int):=⟨x.rd.toNat,by have:=m.r0;omega⟩;obtain⟨k,hk⟩:∃ a:Nat,x.wr=(a:Int):=⟨x.wr.toNat,by have:=m.w0;omega⟩;obtain⟨n,hn⟩:∃ n,x.ks.length=n:=⟨_,rfl⟩;obtain⟨kp,hkp⟩:∃ n,x.kp=n:=⟨_,rfl⟩;have a9:a≤2:=by have:=m.f2;omega
 have b9:b≤15:=by have:=m.r1;omega
 have k9:k≤15:=by have:=m.w1;omega
 have n9:n≤7:=by have:=m.n;omega
 have KL:=hid (λ(y:Ky) (hy:y∈x.ks)=>formN_len (m.k y hy));have E:=hid (show pg x=((beN a 1++beN b 1)++beN k 1)++(x.ks.map (·.X)).flatten++txtN x.st from by
  unfold pg putG;rw[ha,hb,hk];simp only[Int.toNat_natCast,List.append_assoc])
 obtain⟨xs,hxs⟩:∃ l,pg x=l:=⟨_,rfl⟩;rw[hxs] at E ⊢;have SL:=hid h.sl;have RC:=hid (λ(W:World) (hb:Blk W w.heap.size 25 (gv x))=>gv_cells hb);rw[ha,hb,hk,hn,hkp] at RC;have i1:IntKind.u64.wrap (a:Int)=(a:Int):=IntWalk.u64_in _ (by omega);have i2:IntKind.u64.wrap (b:Int)=(b:Int):=IntWalk.u64_in _ (by omega);have i3:IntKind.u64.wrap (k:Int)=(k:Int):=IntWalk.u64_in _ (by omega);have HN:=hid hn;have HKP:=hid hkp;have P0:=hid (show QG9 w (w.alloc (.cells (gv x).toArray 25)) ((w.alloc (.cells (gv x).toArray 25)).alloc (.cells #[.pointer none,.int .i64 0] 123)) x [] from by
  have g0:=GB9.new h;have bz:Below (w.alloc (.cells (gv x).toArray 25)).heap.size (w.alloc (.cells (gv x).toArray 25)) ((w.alloc (.cells (gv x).toArray 25)).alloc (.cells #[.pointer none,.int .i64 0] 123)):=(Below.refl _ _).alloc (Nat.le_refl _) _;exact⟨Wr.new,g0.a.below bz g0.a.lt,g0.a.lt,g0.rx,g0.bel,bz⟩)
 clear h hm m ha hb hk hn hkp hxs
 go_enter Tryz.func48,Tryz.ntmps48
 go_upto_region 2 with(fail)
 obtain⟨w2,hw2⟩:∃ V,w.alloc (.cells (gv x).toArray 25)=V:=⟨_,rfl⟩;obtain⟨gw,hgw⟩:∃ g,w.heap.size+1=g:=⟨_,rfl⟩;have HGW:=hid (show w2.heap.size=gw from by rw[←hw2,←hgw];simp);refine world_at (λY=>QG9 w w2 Y x []) (by rw[←hw2];exact P0.out) ?_
 rintro Y py
 have PY:=hid py;clear py P0 hw2
 first |rw[hgw] |skip
 rw[←HGW.out];clear hgw HGW;obtain⟨c0,_,_,_,_⟩:=RC.out _ PY.out.box;go_wp2_with fail
 refine(num_s a 1 PY.out.wr (Below.refl _ _) PY.out.b2.size (by omega) (by decide) (by decide) (by simp)).mono ?_
 rintro e w3 ⟨rfl,x2,b2⟩
 have P3:=hid (PY.out.step x2 b2);clear x2 b2 PY;rw[List.nil_append] at P3;clear c0;obtain⟨_,c1,_,_,_⟩:=RC.out _ P3.out.box;go_wp2_with fail
 refine(num_s b 1 P3.out.wr (Below.refl _ _) P3.out.b2.size (by omega) (by decide) (by decide) (by rw[beN_length];omega)).mono ?_
 rintro e w4 ⟨rfl,x2,b2⟩
 have P4:=hid (P3.out.step x2 b2);clear x2 b2 P3;clear c1;obtain⟨_,_,c2,_,_⟩:=RC.out _ P4.out.box;go_wp2_with fail
 refine(num_s k 1 P4.out.wr (Below.refl _ _) P4.out.b2.size (by omega) (by decide) (by decide) (by simp only[List.length_append,beN_length];omega)).mono ?_
 rintro e w5 ⟨rfl,x2,b2⟩
 have P5:=hid (P4.out.step x2 b2);clear x2 b2 P4;clear c2 i1 i2 i3;obtain⟨_,_,_,c3,_⟩:=RC.out _ P5.out.box;obtain⟨pre,hpre⟩:∃ l,(beN a 1++beN b 1)++beN k 1=l:=⟨_,rfl⟩;have LP:=hid (show pre.length=3 from by rw[←hpre];simp only[List.length_append,beN_length]);rw[hpre] at P5 E;clear hpre;go_wp2_with fail
 clear c3
 go_loopw [21] (λt wr=>∃ j:Nat,j≤n∧t= .int .i64 (j:Int)∧QG9 w w2 wr x (pre++((x.ks.take j).map (·.X)).flatten)) (λt _=>n- (intOf t).toNat)
 case atStart=>exact⟨0,by omega,rfl,by rw[List.take_zero,List.map_nil,List.flatten_nil,List.append_nil];exact P5.out⟩
 case round=>
  clear P5;obtain⟨j,hj,rfl,pj⟩:=hrel;have PJ:=hid pj;clear pj;have LJ:=hid (show(pre++((x.ks.take j).map (·.X)).flatten).length≤3+56 * 7 from by
   have h1:=flatten_len (l:=x.ks.take j) (λy hy=>KL.out y (List.mem_of_mem_take hy));have h2:(x.ks.take j).length≤7:=by rw[List.length_take];omega
   rw[List.length_append,LP.out,h1];omega)
  by_cases hlt:j<n
  ·obtain⟨y,hy⟩:∃ y,x.ks[j]? =some y:=⟨_,List.getElem?_eq_getElem (by rw[HN.out];exact hlt)⟩;obtain⟨bq,o,hpe,hbl,rg⟩:=(PJ.out.r2.below PJ.out.b2).ks j y hy;obtain rfl:kp=some ⟨bq,o,none⟩:=HKP.out.symm.trans hpe;have c1:wr.cell? ⟨bq,o+j,none⟩=some (.slice y.A y.X.length y.c):=by have:=rg 0 _ rfl;rw[Nat.mul_one,Nat.add_zero] at this;exact this
   have j1:(j:Int)< (n:Int):=by omega
   have HY:=hid hy;have HM:=List.mem_of_getElem? hy;have RW_:=hid (raw_s y.X y.A y.X.length y.c PJ.out.wr (Below.refl _ _) PJ.out.b2.size rfl ((PJ.out.r2.k y HM).below PJ.out.b2) (by have:=LJ.out;have:=KL.out y HM;omega));clear rg hpe hbl hy HM;go_wp2_with fail
   refine RW_.out.mono ?_
   rintro e w7 ⟨rfl,x7,b7⟩
   have P7:=hid (PJ.out.step x7 b7);clear x7 b7 RW_ PJ c1;go_wp2_with fail
   go_roundw
   case rel=>exact⟨j+1,by omega,by go_num,by rw[flatten_snoc HY.out,←List.append_assoc];exact P7.out⟩
   case measure=>simp[intOf];omega
  ·obtain rfl:j=n:=by omega
   clear hlt;rw[List.take_of_length_le (by rw[HN.out];exact Nat.le_refl _)] at PJ LJ;obtain⟨_,_,_,_,c4⟩:=RC.out _ PJ.out.box;have TX:=hid (text_s x.st x.sp x.st.length x.sc PJ.out.wr (Below.refl _ _) PJ.out.b2.size rfl (PJ.out.r2.st.below PJ.out.b2) (λhx a ha=> .inl (PJ.out.r2.st.lt hx a ha)) (by have:=LJ.out;have:=SL.out;omega));go_wp2_with fail
   refine TX.out.mono ?_
   rintro e w8 ⟨rfl,x8,b8⟩
   have P8:=hid (PJ.out.step x8 b8);rw[←E.out] at P8;have LX:=hid (show xs.length≤70368744177664 from by rw[E.out,List.length_append];have:=LJ.out;have:=SL.out;show _+(txtN x.st).length≤_;rw[show(txtN x.st).length=4+x.st.length by unfold txtN;rw[List.length_append,beN_length]];omega);clear x8 b8 TX PJ c4;go_wp2_with fail
   refine(wbytes_t _ w2.heap.size xs w8 P8.out.wr LX.out).mono ?_
   rintro e w9 ⟨v,rfl,fr⟩
   have hs:=P8.out.bel.trans (P8.out.b2.mono P8.out.bel.size);have FR:=hid (show Fresh 5 w w9 v xs from⟨own_base fr.1 (λk hk=>Nat.le_trans hs.size (fr.1.lt k hk).1),hs.trans (fr.2.mono hs.size)⟩);clear fr P8 hs;go_wp2_with fail
   go_ret;exact⟨v,rfl,FR.out⟩
def erP (x:Gv):Int:=if begB x then 0 else 1
def byP (x:Gv):List Nat:=if begB x then pg x else[]
set_option maxHeartbeats 1000000 in
theorem gPut_t (x:Gv) (w:World) (h:GvW w x) (hk:KI w):
  Calls Tryz.prog 12 #[.agg (gv x).toArray] w λe w'=>∃ u,e= .returned (.tuple #[u,.int .i64 (erP x)])∧Fresh 5 w w' u (byP x):=by
 have S0:=hid (GB9.new h);have HK:=hid hk;have FG:=hid (gv_size x);have MT:=hid (gMay_t x _ S0.out.rx (HK.out.kept S0.out.bel))
 cases hm:begB x with
 |false=>
  rw[show erP x=1 from if_neg (by rw[hm];decide),show byP x=[] from if_neg (by rw[hm];decide)];rw[hm] at MT;clear h hk hm
  go_enter Tryz.func12,Tryz.ntmps12
  go_wp2_with ((with_reducible refine load_blk 25 (.tmp 1) w.heap.size 25 (gv x) _ rfl rfl ?_ Tryz.underlying25 ?_ ?_ ?_ ?_);exact S0.out.a;exact rfl;exact FG.out;exact rfl)
  refine MT.out.mono ?_
  rintro e w1 ⟨rfl,b1⟩
  have S1:=hid (S0.out.below b1);clear S0 MT b1;go_wp2_with fail
  go_ret2;exact⟨.slice none 0 0,rfl,nil_own _ _,S1.out.bel⟩
 |true=>
  rw[show erP x=0 from if_pos hm,show byP x=pg x from if_pos hm];have HM:=hid hm;rw[hm] at MT;clear h hk hm
  go_enter Tryz.func12,Tryz.ntmps12
  go_wp2_with ((with_reducible refine load_blk 25 (.tmp 1) w.heap.size 25 (gv x) _ rfl rfl ?_ Tryz.underlying25 ?_ ?_ ?_ ?_);exact S0.out.a;exact rfl;exact FG.out;exact rfl)
  refine MT.out.mono ?_
  rintro e w1 ⟨rfl,b1⟩
  have S1:=hid (S0.out.below b1);clear S0 MT b1;have WT:=hid (written_t x w1 S1.out.rx HM.out);have GA:=hid S1.out.a
  go_wp2_with ((with_reducible refine load_blk 25 (.tmp 1) w.heap.size 25 (gv x) _ rfl rfl ?_ Tryz.underlying25 ?_ ?_ ?_ ?_);exact GA.out;exact rfl;exact FG.out;exact rfl)
  refine WT.out.mono ?_
  rintro e w2 ⟨u,rfl,fr⟩
  have FR:=hid (show Fresh 5 w w2 u (pg x) from⟨own_base fr.1 (λk hk=>Nat.le_trans S1.out.bel.size (fr.1.lt k hk).1),S1.out.bel.trans (fr.2.mono S1.out.bel.size)⟩);clear fr S1 WT GA;go_wp2_with fail
  go_ret2;exact⟨u,rfl,FR.out⟩
theorem wcopy_part {P:Program} {o:Oper} {a:Act} {w:World} {K:Act→World→Prop} {Q:Exit→Act→World→Prop} (d s:Operand) (dT sT elem:TypeId) (g off dLen dCap sLen sCap nn:Nat) (dp sp:Option Addr) (t:TypeId) (A M C M':List Value)
  (ho:o.op= .call { callee:= .builtin .copy,args:= #[d,s],argTypes:= #[dT,sT] }) (hu:P.underlying dT=some (.slice elem)) (hsz:(P.info? elem).map (·.size)=some 1)
  (hg:Blk w g t (A++(M++C))) (hoff:off=A.length) (hl:M.length=M'.length) (hn:M'.length=Nat.min sLen dLen) (hd:a.eval d= .slice dp dLen dCap) (hs:a.eval s= .slice sp sLen sCap)
  (hpos:0<M'.length→dp=some ⟨g,off,none⟩∧∃ ad,sp=some ad∧∀ j v,M'[j]? =some v→w.cell? (ad.add j)=some v) (h1:∀ v∈M',v.oneCell'=true) (hnn:M'.length=nn)
  (h:∀ w',Hid (Blk w' g t (A++(M'++C)))→Hid (But w.heap.size g w w')→Hid (w'.heap.size=w.heap.size)→K (a.put o.dst (.int .i64 (nn:Int))) w'):o.wp P a w K Q:=by
 subst hnn
 by_cases h0:M'.length=0
 ·obtain rfl:M'=[]:=List.eq_nil_of_length_eq_zero h0;obtain rfl:M=[]:=List.eq_nil_of_length_eq_zero hl;have hrun:=run_copy_none (P:=P) w dT sT o.type elem dp sp dLen dCap sLen sCap hu hsz (by simpa using hn.symm);unfold Oper.wp;simp[execOp,ho,resolve,invoke,builtin,hd,hs,hrun,Result.andThen];exact h w (hid hg) (hid (But.refl _ _ _)) (hid rfl)
 ·obtain⟨rfl,ad,rfl,hsrc⟩:=hpos (by omega);subst hoff;have hrun:=run_copy_row (P:=P) w dT sT o.type elem g A.length dLen dCap ad sLen sCap (A++(M++C)).toArray t M' hu hsz hg hn hsrc (by simp;omega) h1;unfold Oper.wp;simp[execOp,ho,resolve,invoke,builtin,hd,hs,hrun,Result.andThen];refine h _ ?_ ?_ ?_
  ·have e:(A++(M++C)).take A.length++(M'++(A++(M++C)).drop (A.length+M'.length))=A++(M'++C):=by
    rw[←hl,←List.drop_drop,List.take_left,List.drop_left,List.drop_left]
   have hb:=hg.setRow ((A++(M++C)).take A.length++(M'++(A++(M++C)).drop (A.length+M'.length)));rw[e] at hb;rw[←e] at hb ⊢;exact hid (by simpa using hb)
  ·exact hid ((But.refl _ _ _).setRow _)
  ·exact hid (by simp)
theorem key_t (g n:Nat) (hn:n<7) (w:World):
  Calls Tryz.prog 115 #[.pointer (some ⟨g,0,none⟩),.int .i64 (n:Int)] w λe w'=>e= .returned (.slice (some ⟨g,n * 56,none⟩) 56 56)∧w=w':=by
 have hc:n=0∨n=1∨n=2∨n=3∨n=4∨n=5∨n=6:=by omega
 rcases hc with rfl |rfl |rfl |rfl |rfl |rfl |rfl
 all_goals
  go_enter Tryz.func115,Tryz.ntmps115
  go_wp2_with fail
  go_ret;exact⟨rfl,rfl⟩
theorem make_keys (n:Nat) (hn:n≤7) (w:World):(Instr.makeSlice 22 (.int .i64 (n:Int)) (.int .i64 (n:Int))).run Tryz.prog w= .ok (.slice (some ⟨w.heap.size,0,none⟩) n n) (w.alloc (.cells (List.replicate n (.slice none 0 0)).toArray 23)):=by
 have hinfo:(Tryz.prog.info? 23).map (λi=>(i.zero,i.size,i.bytes))=some (some (.slice none 0 0),1,24):=by kernel_rfl
 obtain⟨i,hi,hzz⟩:=Option.map_eq_some_iff.1 hinfo;simp only[Prod.mk.injEq] at hzz;obtain⟨hz,hs,hb⟩:=hzz;have hr:=run_make (P:=Tryz.prog) w 22 23 i (.slice none 0 0) Tryz.underlying22 hi hz .i64 .i64 (n:Int) (n:Int) (by omega) (Int.le_refl _) (by rw[hb];omega) (by omega);rw[Int.toNat_natCast,hs] at hr;have hc:n=0∨n=1∨n=2∨n=3∨n=4∨n=5∨n=6∨n=7:=by omega
 rw[show madeCells (Value.slice none 0 0).cells (n * 1)=(List.replicate n (.slice none 0 0)).toArray from by
  rcases hc with rfl |rfl |rfl |rfl |rfl |rfl |rfl |rfl<;>kernel_rfl] at hr
 exact hr
def kSeg (ys:List Nat) (bad:Bool):List Nat×List Nat×Bool:=if 56≤ys.length then(ys.take 56,ys.drop 56,bad) else(List.replicate 56 0,[],true)
def kRd (ys:List Nat) (bad:Bool):Nat→List (List Nat)×List Nat×Bool
 |0=>([],ys,bad)
 |j+1=>((kRd ys bad j).1 ++[(kSeg (kRd ys bad j).2.1 (kRd ys bad j).2.2).1],(kSeg (kRd ys bad j).2.1 (kRd ys bad j).2.2).2)
theorem kSeg_len (ys:List Nat) (bad:Bool):(kSeg ys bad).1.length=56:=by
 unfold kSeg
 split
 ·rw[List.length_take];omega
 ·simp
theorem kRd_len (ys:List Nat) (bad:Bool):∀ j,(kRd ys bad j).1.length=j∧∀ x∈(kRd ys bad j).1,x.length=56
 |0=>⟨rfl,λx hx=>by cases hx⟩
 |j+1=>by
  obtain⟨h1,h2⟩:=kRd_len ys bad j;refine⟨by show((kRd ys bad j).1 ++[_]).length=_;simp[h1],λx hx=>?_⟩;rcases List.mem_append.1 hx with hx |hx
  ·exact h2 x hx
  ·rw[List.mem_singleton.1 hx];exact kSeg_len _ _
theorem flat56 {l:List (List Nat)} (h:∀ x∈l,x.length=56):l.flatten.length=56 * l.length:=by
 induction l with
 |nil=>rfl
 |cons a l ih=>rw[List.flatten_cons,List.length_append,h a List.mem_cons_self,ih (λy hy=>h y (List.mem_cons_of_mem _ hy)),List.length_cons];omega
theorem kSeg_bytes {ys:List Nat} (bad:Bool) (h:Bytes ys):Bytes (kSeg ys bad).1 ∧Bytes (kSeg ys bad).2.1 ∧(kSeg ys bad).2.1.length≤ys.length:=by
 unfold kSeg
 split
 ·exact⟨bytes_take h _,bytes_drop h _,by rw[List.length_drop];omega⟩
 ·exact⟨sl_bytes (by decide),nil_bytes,Nat.zero_le _⟩
theorem kRd_bytes {ys:List Nat} (bad:Bool) (h:Bytes ys):∀ j,(∀ x∈(kRd ys bad j).1,Bytes x)∧Bytes (kRd ys bad j).2.1 ∧(kRd ys bad j).2.1.length≤ys.length
 |0=>⟨(λx hx=>by cases hx),h,Nat.le_refl _⟩
 |j+1=>by
  obtain⟨h1,h2,h3⟩:=kRd_bytes bad h j;obtain⟨k1,k2,k3⟩:=kSeg_bytes (kRd ys bad j).2.2 h2;refine⟨λx hx=>?_,k2,Nat.le_trans k3 h3⟩;rcases List.mem_append.1 hx with hx |hx
  ·exact h1 x hx
  ·rw[List.mem_singleton.1 hx];exact k1
def keysAt (g5:Nat) (l:List (List Nat)):List Ky:=(List.range l.length).map λi=>⟨some ⟨g5,i * 56,none⟩,56,l.getD i []⟩
def slotsAt (g5 n j:Nat):List Value:=(List.range j).map (λi=>Value.slice (some ⟨g5,i * 56,none⟩) 56 56)++List.replicate (n-j) (.slice none 0 0)
structure KR9 (F:Nat→Prop) (w0 W:World) (g n:Nat) (l:List (List Nat)) (s:Nat) (ys:List Nat) (bad:Bool):Prop where
 rd:RdF F W g ys bad
 room:Blk W w0.heap.size 148 (u8s (l.flatten++List.replicate (392-56 * l.length) 0))
 keys:Blk W (w0.heap.size+1) 23 (slotsAt w0.heap.size n s)
 kp:Kept (λk=>k=g) w0 W
 gl:g<w0.heap.size
 fl:∀ k,F k→k<w0.heap.size
section
variable {F : Nat → Prop} {w0 W W' : World} {g n s s' : Nat} {l l' : List (List Nat)} {ys ys' : List Nat} {bad bad' : Bool}
theorem KR9.read (h:KR9 F w0 W g n l s ys bad) (hk:Kept (λk=>k=g) W W') (hr:RdF F W' g ys' bad'):KR9 F w0 W' g n l s ys' bad':=by
 have:=h.gl;exact⟨hr,h.room.kept hk (by omega),h.keys.kept hk (by omega),h.kp.trans hk,h.gl,h.fl⟩
theorem KR9.below (h:KR9 F w0 W g n l s ys bad) (hb:Below W.heap.size W W'):KR9 F w0 W' g n l s ys bad:=
 ⟨h.rd.below hb,h.room.below hb h.room.lt,h.keys.below hb h.keys.lt,h.kp.trans (Kept.of_below hb),h.gl,h.fl⟩
theorem Kept.ahead {G:Nat→Prop} {a b:World} {w0:World} {H:Nat→Prop} (h:Kept H w0 a) (hk:Kept G a b) (hG:∀ k,G k→w0.heap.size≤k):Kept H w0 b:=
 ⟨hk.os.trans h.os,hk.tape.trans h.tape,hk.output.trans h.output,Nat.le_trans h.size hk.size,λk hlt hf=>(hk.block k (Nat.lt_of_lt_of_le hlt h.size) (λq=>by have:=hG k q;omega)).trans (h.block k hlt hf)⟩
theorem KR9.slot (h:KR9 F w0 W g n l s ys bad) (hk:Kept (λk=>k=w0.heap.size+1) W W') (hb:Blk W' (w0.heap.size+1) 23 (slotsAt w0.heap.size n s')):KR9 F w0 W' g n l s' ys bad:=by
 have h1:=h.gl;exact⟨h.rd.stays hk (by omega) (λk hf e=>by have:=h.fl k hf;omega),h.room.kept hk (by omega),hb,h.kp.ahead hk (λk e=>by omega),h.gl,h.fl⟩
theorem KR9.fill (h:KR9 F w0 W g n l s ys bad) (hk:Kept (λk=>k=w0.heap.size) W W') (hb:Blk W' w0.heap.size 148 (u8s (l'.flatten++List.replicate (392-56 * l'.length) 0))):KR9 F w0 W' g n l' s ys bad:=by
 have h1:=h.gl;exact⟨h.rd.stays hk (by omega) (λk hf e=>by have:=h.fl k hf;omega),hb,h.keys.kept hk (by omega),h.kp.ahead hk (λk e=>by omega),h.gl,h.fl⟩
end
theorem slots_set (g5 n j:Nat) (hj:j<n):(slotsAt g5 n j).set j (.slice (some ⟨g5,j * 56,none⟩) 56 56)=slotsAt g5 n (j+1):=by
 unfold slotsAt;rw[List.set_append_right _ _ (by simp),show j- ((List.range j).map λi=>Value.slice (some ⟨g5,i * 56,none⟩) 56 56).length=0 by simp,show n-j=(n- (j+1))+1 by omega,List.replicate_succ,List.set_cons_zero,List.range_succ,List.map_append,List.append_assoc];rfl
theorem slots_get (g5 n j i:Nat) (hi:i<j):(slotsAt g5 n j)[i]? =some (.slice (some ⟨g5,i * 56,none⟩) 56 56):=by
 unfold slotsAt;rw[List.getElem?_append_left (by simpa using hi),List.getElem?_map,List.getElem?_range hi];rfl
theorem slots_nil (g5 n j:Nat) (hj:j<n):(slotsAt g5 n j)[j]? =some (.slice none 0 0):=by
 unfold slotsAt;rw[List.getElem?_append_right (by simp),show j- ((List.range j).map λi=>Value.slice (some ⟨g5,i * 56,none⟩) 56 56).length=0 by simp,List.getElem?_replicate,if_pos (by omega)]
theorem kRd_succ (ys:List Nat) (bad:Bool) (j:Nat):kRd ys bad (j+1)=((kRd ys bad j).1 ++[(kSeg (kRd ys bad j).2.1 (kRd ys bad j).2.2).1],(kSeg (kRd ys bad j).2.1 (kRd ys bad j).2.2).2):=rfl
theorem room_split (l:List (List Nat)) (hl:l.length<7):l.flatten++List.replicate (392-56 * l.length) 0=l.flatten++(List.replicate 56 0++List.replicate (392-56 * (l.length+1)) 0):=by
 rw[←List.replicate_append_replicate.symm]
 congr 2
 omega
set_option maxHeartbeats 2000000 in
theorem readKeys_t (F:Nat→Prop) (ys:List Nat) (bad:Bool) (g n:Nat) (w:World) (x:RdF F w g ys bad) (hF:∀ k,F k→k<w.heap.size) (hb:Bytes ys) (hl:ys.length≤1000000) (hn:n≤7):
  Calls Tryz.prog 54 #[.pointer (some ⟨g,0,none⟩),.int .i64 (n:Int)] w λe w'=>e= .returned (.slice (some ⟨w.heap.size+1,0,none⟩) n n)∧KR9 F w w' g n (kRd ys bad n).1 n (kRd ys bad n).2.1 (kRd ys bad n).2.2 :=by
 have X0:=hid x;have HF:=hid hF;have HL:=hid hl;have KB:=hid (λj=>kRd_bytes bad hb j);have MK:=hid (λW=>make_keys n hn W);have GL:=hid x.rd.lt;clear x hF hb hl
 go_enter Tryz.func54,Tryz.ntmps54
 go_upto_region 2 with(fail)
 refine world_at (λY=>RdF F Y g ys bad∧Blk Y w.heap.size 148 (u8s (List.replicate 392 0))∧Below w.heap.size w Y∧Y.heap.size=w.heap.size+1) (by
  have bz:Below w.heap.size w (w.alloc (.cells (u8s (List.replicate 392 0)).toArray 148)):=(Below.refl _ _).alloc (Nat.le_refl _) _;exact⟨X0.out.below bz,Blk.new w 148 (u8s (List.replicate 392 0)),bz,by simp⟩) ?_
 rintro Y ⟨y1,y2,y3,y4⟩
 have Y1:=hid y1;have Y2:=hid y2;have Y3:=hid y3;have Y4:=hid y4;clear y1 y2 y3 y4 X0;have mk:=MK.out Y;have K0:=hid (show KR9 F w (Y.alloc (.cells (List.replicate n (.slice none 0 0)).toArray 23)) g n [] 0 ys bad from by
  have bz:Below Y.heap.size Y (Y.alloc (.cells (List.replicate n (.slice none 0 0)).toArray 23)):=(Below.refl _ _).alloc (Nat.le_refl _) _;have hb:=Blk.new Y 23 (List.replicate n (Value.slice none 0 0));rw[Y4.out] at hb;exact⟨Y1.out.below bz,Y2.out.below bz Y2.out.lt,hb,Kept.of_below (Y3.out.trans (bz.mono Y3.out.size)),GL.out,HF.out⟩)
 have ey:Y.heap.size=w.heap.size+1:=Y4.out;clear Y1 Y2 Y3 HF GL;go_wp2_with fail
 have K0:=hid (show KR9 F w (Y.alloc (.cells (Array.replicate n (.slice none 0 0)) 23)) g n [] 0 ys bad from by have h:=K0.out;rw[List.toArray_replicate] at h;exact h);clear mk MK ey Y4
 go_loopw [12] (λt wr=>∃ j:Nat,j≤n∧t= .int .i64 (j:Int)∧KR9 F w wr g n (kRd ys bad j).1 j (kRd ys bad j).2.1 (kRd ys bad j).2.2) (λt _=>n- (intOf t).toNat)
 case atStart=>exact⟨0,by omega,rfl,K0.out⟩
 case round=>
  clear K0;obtain⟨j,hj,rfl,kr⟩:=hrel;have K1:=hid kr;clear kr
  by_cases hlt:j<n
  ·have j1:(j:Int)< (n:Int):=by omega
   have j0:(0:Int)≤(j:Int):=by omega
   have KT:=hid (key_t w.heap.size j (by omega) wr);have NX:=hid (kRd_succ ys bad j);have KBJ:=hid (KB.out j);have KLJ:=hid (kRd_len ys bad j);obtain⟨⟨l,zs,b⟩,hr⟩:∃ r,kRd ys bad j=r:=⟨_,rfl⟩;rw[hr] at K1 NX KBJ KLJ
   dsimp only at K1 NX KBJ KLJ
   clear hr;have HLT:=hid hlt;have fz:=K1.out.keys.frozen j;have ct:wr.cell? ⟨w.heap.size+1,j,none⟩=some (.slice none 0 0):=by rw[K1.out.keys.cell];exact slots_nil _ _ _ hlt
   have K2:=hid (K1.out.slot (s':=j+1) (W':=wr.setCell ⟨w.heap.size+1,j,none⟩ (.slice (some ⟨w.heap.size,j * 56,none⟩) 56 56)) (Kept.setCell (F:=λk=>k=w.heap.size+1) (Kept.refl _ _) (p:=⟨w.heap.size+1,j,none⟩) (.inl rfl) _) (by rw[←slots_set _ _ _ hlt];exact K1.out.keys.store j _));clear hlt K1;go_wp2_with fail
   refine KT.out.mono ?_
   rintro e w1 ⟨rfl,rfl⟩
   clear KT
   go_upto_region 7 with(fail)
   clear fz ct;obtain⟨V,hV⟩:∃ V,wr.setCell ⟨w.heap.size+1,j,none⟩ (.slice (some ⟨w.heap.size,j * 56,none⟩) 56 56)=V:=⟨_,rfl⟩;rw[hV] at K2 ⊢;clear hV;obtain⟨U,hU⟩:∃ U,V.drew=U:=⟨_,rfl⟩;have K3:=hid (K2.out.below (show Below V.heap.size V U from by rw[←hU];exact(Below.refl _ _).drew));have CELL:=hid (λ(W:World) (m:List (List Nat)) (q:List Nat) (c:Bool) (h:KR9 F w W g n m (j+1) q c)=>show W.cell? ⟨w.heap.size+1,j,none⟩=some (.slice (some ⟨w.heap.size,j * 56,none⟩) 56 56) from by rw[h.keys.cell];exact slots_get _ _ _ _ (Nat.lt_succ_self _));refine wp_region_held (S:=λW=>W.cell? ⟨w.heap.size+1,j,none⟩=some (.slice (some ⟨w.heap.size,j * 56,none⟩) 56 56)) (by kernel_rfl) ?_;change wpAnyH _ _ _ _ _ _ _ _ V.drew;rw[hU];clear hU K2;have r0:=CELL.out _ _ _ _ K3.out;refine tka9 0 r0 ?_;refine tka9 1 r0 ?_;refine tka9 2 r0 ?_;refine tk9 3 ?_ ?_ r0 ?_;rotate_left 1
   ·(intro w hS;have hs:=hS;clear hS;go_simp;try (with_reducible rfl))
   refine tka9 4 r0 ?_;have j7:l.length=j:=KLJ.out.1;have HRS:=hid (show u8s (l.flatten++List.replicate (392-56 * l.length) 0)=u8s l.flatten++(u8s (List.replicate 56 0)++u8s (List.replicate (392-56 * (l.length+1)) 0)) from by
    rw[room_split l (by omega),u8s_app,u8s_app])
   have HOF:=hid (show j * 56=(u8s l.flatten).length from by rw[u8s_length,flat56 KLJ.out.2,j7];omega)
   by_cases h56:56≤zs.length
   ·have RT:=hid (raw_F F g zs b 56 U K3.out.rd h56 (by have:=KBJ.out.2.2;have:=HL.out;omega));have NX2:=hid (show kRd ys bad (j+1)=(l++[zs.take 56],zs.drop 56,b) from by rw[NX.out,show kSeg zs b=(zs.take 56,zs.drop 56,b) from if_pos h56]);have T56:=hid (show(zs.take 56).length=56 by rw[List.length_take];omega);clear h56 NX;refine rdw9 5 λK hK=>?_
    go_simp;refine RT.out.mono ?_
    rintro e w5 ⟨v,rfl,o5,x5,k5⟩
    obtain⟨A,c,rfl,_⟩:=own_form o5;have S5:=hid (Sr.of_own (xs:=zs.take 56) o5);have K4:=hid (K3.out.read k5 x5);have r1:=CELL.out _ _ _ _ K4.out;refine hK.out _ _ r1 (λhz=>?_);clear hK K hz RT o5 x5 k5 K3;refine rdw9 6 λK hK=>?_
    refine wcopy_part (.tmp 23) (.tmp 25) 23 23 5 w.heap.size (j * 56) 56 56 56 c 56 (some ⟨w.heap.size,j * 56,none⟩) A 148 (u8s l.flatten) (u8s (List.replicate 56 0)) (u8s (List.replicate (392-56 * (l.length+1)) 0)) (u8s (zs.take 56)) rfl Tryz.underlying23 byte_size (by rw[←HRS.out];exact K4.out.room) HOF.out (by rw[u8s_length,u8s_length,T56.out,List.length_replicate]) (by rw[u8s_length,T56.out];rfl) (by go_simp) (by go_simp) (λ_=>⟨rfl,by
     obtain⟨ad,ha,hc⟩:=S5.out.cells (by rw[T56.out];decide);exact⟨ad,ha,hc⟩⟩) (u8s_each _) (by rw[u8s_length,T56.out]) ?_
    intro wz a1 a2 a3;have K5:=hid (K4.out.fill (l':=l++[zs.take 56]) (a2.out.keptOneS rfl) (by
     have h:=a1.out;rw[←u8s_app,←u8s_app,←List.append_assoc] at h;rw[List.flatten_append,List.length_append]
     simpa using h))
    have r2:=CELL.out _ _ _ _ K5.out;refine hK.out _ _ r2 (λhz=>?_);clear hK K hz a1 a2 a3 S5 K4;refine wpAnyH_done (by kernel_rfl) ?_ _;go_simp;clear r0 r1 r2;go_wp2_with fail
    go_roundw
    case rel=>exact⟨j+1,HLT.out,by go_num,by rw[NX2.out];exact K5.out⟩
    case measure=>have:=HLT.out;simp[intOf];omega
   ·have RT:=hid (raw_bad g zs b 56 U K3.out.rd.rd (.inr (by omega)));have NX2:=hid (show kRd ys bad (j+1)=(l++[List.replicate 56 0],[],true) from by rw[NX.out,show kSeg zs b=(List.replicate 56 0,[],true) from if_neg h56]);clear h56 NX;refine rdw9 5 λK hK=>?_
    go_simp;refine RT.out.mono ?_
    rintro e w5 ⟨v,rfl,o5,x5,k5⟩
    obtain⟨A,c,rfl,_⟩:=own_form o5;have K4:=hid (K3.out.read k5 (RdF.nil x5));have r1:=CELL.out _ _ _ _ K4.out;refine hK.out _ _ r1 (λhz=>?_);clear hK K hz RT o5 x5 k5 K3;refine rdw9 6 λK hK=>?_
    refine wcopy_part (.tmp 23) (.tmp 25) 23 23 5 w.heap.size (j * 56) 56 56 0 c 0 (some ⟨w.heap.size,j * 56,none⟩) A 148 (u8s l.flatten) [] (u8s (List.replicate 56 0)++u8s (List.replicate (392-56 * (l.length+1)) 0)) [] rfl Tryz.underlying23 byte_size (by rw[List.nil_append,←HRS.out];exact K4.out.room) HOF.out rfl rfl (by go_simp) (by go_simp) (λh=>absurd h (by decide)) (λv hv=>by cases hv) rfl ?_;intro wz a1 a2 a3;have K5:=hid (K4.out.fill (l':=l++[List.replicate 56 0]) (a2.out.keptOneS rfl) (by
     have h:=a1.out;rw[List.nil_append,←u8s_app,←u8s_app,←List.append_assoc] at h;rw[List.flatten_append,List.length_append]
     simpa using h))
    have r2:=CELL.out _ _ _ _ K5.out;refine hK.out _ _ r2 (λhz=>?_);clear hK K hz a1 a2 a3 K4;refine wpAnyH_done (by kernel_rfl) ?_ _;go_simp;clear r0 r1 r2;go_wp2_with fail
    go_roundw
    case rel=>exact⟨j+1,HLT.out,by go_num,by rw[NX2.out];exact K5.out⟩
    case measure=>have:=HLT.out;simp[intOf];omega
  ·obtain rfl:j=n:=by omega
   clear hlt;go_wp2_with fail
   go_ret;exact⟨rfl,K1.out⟩
end Go.Proofs.YtlipjglehongeaaGreatDoor
