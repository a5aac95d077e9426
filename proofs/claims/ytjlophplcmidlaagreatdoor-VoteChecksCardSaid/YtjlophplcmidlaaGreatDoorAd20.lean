/-
  PACKAGE genesis
  PACKAGE genesis
  PACKAGE genesis
  PACKAGE genesis, what is pure
  PACKAGE genesis
  PACKAGE genesis
  LAYER 10's laws
-/
import Derived.Test.YtjlophplcmidlaaGreatDoorAd19
open Go.Lib (hid)
set_option maxRecDepth 100000
namespace Go.Proofs.YtjlophplcmidlaaGreatDoor
open Go Go.RowKit Sh
section
section
section
section
section
def putG (f rd wr:Int) (ks:List (List Nat)) (st:List Nat):List Nat:=beN f.toNat 1++(beN rd.toNat 1++(beN wr.toNat 1++(ks.flatten++txtN st)))
def pg (x:Gv):List Nat:=putG x.f x.rd x.wr (x.ks.map (·.X)) x.st
structure MayG (x:Gv):Prop where
 f0:0≤x.f
 f2:x.f≤2
 r0:0≤x.rd
 r1:x.rd≤15
 w0:0≤x.wr
 w1:x.wr≤15
 n:(x.ks.length:Int)=3 * x.f+1
 k:∀ y∈x.ks,formN y.X=true
 st:stB x=true
theorem formN_len {l:List Nat} (h:formN l=true):l.length=56:=by
 unfold formN at h;rw[decide_eq_true_iff] at h;exact h.1
theorem begB_h {x:Gv} (h:begB x=true):MayG x:=by
 unfold begB fltB alB mayK at h;simp only[Bool.and_eq_true,decide_eq_true_eq,List.all_eq_true,List.length_map] at h;obtain⟨⟨h1,h2⟩,⟨h3,h4⟩,⟨h5,h6⟩,⟨h7,h8⟩,h9⟩:=h;exact⟨h1,h2,h3,h4,h5,h6,h7,λy hy=>h8 y.X (List.mem_map_of_mem hy),h9⟩
structure QG9 (w0 w2 W:World) (x:Gv) (l:List Nat):Prop where
 wr:Wr W (λk=>w2.heap.size≤k) w2.heap.size l
 box:Blk W w0.heap.size 27 (gv x)
 lo:w0.heap.size<w2.heap.size
 r2:GvW w2 x
 bel:Below w0.heap.size w0 w2
 b2:Below w2.heap.size w2 W
theorem QG9.step {w0 w2 W W':World} {x:Gv} {l l':List Nat} (h:QG9 w0 w2 W x l) (hw:Wr W' (λk=>w2.heap.size≤k) w2.heap.size l') (hb:Below w2.heap.size W W'):QG9 w0 w2 W' x l':=
 ⟨hw,h.box.below hb h.lo,h.lo,h.r2,h.bel,h.b2.trans hb⟩
theorem flatten_len {l:List Ky} (h:∀ y∈l,y.X.length=56):(l.map (·.X)).flatten.length=56 * l.length:=by
 induction l with
 |nil=>rfl
 |cons a l ih=>
  rw[List.map_cons,List.flatten_cons,List.length_append,h a List.mem_cons_self,ih (λy hy=>h y (List.mem_cons_of_mem _ hy)),List.length_cons];omega
theorem flatten_snoc {l:List Ky} {j:Nat} {y:Ky} (h:l[j]? =some y):((l.take (j+1)).map (·.X)).flatten=((l.take j).map (·.X)).flatten++y.X:=by
 rw[take_snocS h,List.map_append,List.flatten_append];simp
set_option maxHeartbeats 1000000 in
theorem written_t (x:Gv) (w:World) (h:GvW w x) (hm:begB x=true):
  Calls Tryz.prog 77 #[.agg (gv x).toArray] w λe w'=>∃ u,e= .returned u∧Fresh 5 w w' u (pg x):=by
 have m:=begB_h hm;obtain⟨a,ha⟩:∃ a:Nat,x.f=(a:Int):=⟨x.f.toNat,by have:=m.f0;omega⟩;obtain⟨b,hb⟩:∃ a:Nat,x.rd=(a:Int):=⟨x.rd.toNat,by have:=m.r0;omega⟩;obtain⟨k,hk⟩:∃ a:Nat,x.wr=(a:Int):=⟨x.wr.toNat,by have:=m.w0;omega⟩;obtain⟨n,hn⟩:∃ n,x.ks.length=n:=⟨_,rfl⟩;obtain⟨kp,hkp⟩:∃ n,x.kp=n:=⟨_,rfl⟩;have a9:a≤2:=by have:=m.f2;omega
 have b9:b≤15:=by have:=m.r1;omega
 have k9:k≤15:=by have:=m.w1;omega
 have n9:n≤7:=by have:=m.n;omega
 have KL:=hid (λ(y:Ky) (hy:y∈x.ks)=>formN_len (m.k y hy));have E:=hid (show pg x=((beN a 1++beN b 1)++beN k 1)++(x.ks.map (·.X)).flatten++txtN x.st from by
  unfold pg putG;rw[ha,hb,hk];simp only[Int.toNat_natCast,List.append_assoc])
 obtain⟨xs,hxs⟩:∃ l,pg x=l:=⟨_,rfl⟩;rw[hxs] at E ⊢;have SL:=hid h.sl;have RC:=hid (λ(W:World) (hb:Blk W w.heap.size 27 (gv x))=>gv_cells hb);rw[ha,hb,hk,hn,hkp] at RC;have i1:IntKind.u64.wrap (a:Int)=(a:Int):=IntWalk.u64_in _ (by omega);have i2:IntKind.u64.wrap (b:Int)=(b:Int):=IntWalk.u64_in _ (by omega);have i3:IntKind.u64.wrap (k:Int)=(k:Int):=IntWalk.u64_in _ (by omega);have HN:=hid hn;have HKP:=hid hkp;have P0:=hid (show QG9 w (w.alloc (.cells (gv x).toArray 27)) ((w.alloc (.cells (gv x).toArray 27)).alloc (.cells #[.pointer none,.int .i64 0] 119)) x [] from by
  have g0:=GB9.new h;have bz:Below (w.alloc (.cells (gv x).toArray 27)).heap.size (w.alloc (.cells (gv x).toArray 27)) ((w.alloc (.cells (gv x).toArray 27)).alloc (.cells #[.pointer none,.int .i64 0] 119)):=(Below.refl _ _).alloc (Nat.le_refl _) _;exact⟨Wr.new,g0.a.below bz g0.a.lt,g0.a.lt,g0.rx,g0.bel,bz⟩)
 clear h hm m ha hb hk hn hkp hxs
 go_enter Tryz.func77,Tryz.ntmps77
 go_upto_region 2 with(fail)
 obtain⟨w2,hw2⟩:∃ V,w.alloc (.cells (gv x).toArray 27)=V:=⟨_,rfl⟩;obtain⟨gw,hgw⟩:∃ g,w.heap.size+1=g:=⟨_,rfl⟩;have HGW:=hid (show w2.heap.size=gw from by rw[←hw2,←hgw];simp);refine world_at (λY=>QG9 w w2 Y x []) (by rw[←hw2];exact P0.out) ?_
 rintro Y py
 have PY:=hid py;clear py P0 hw2
 first |rw[hgw] |skip
 rw[←HGW.out];clear hgw HGW;obtain⟨c0,_,_,_,_⟩:=RC.out _ PY.out.box;go_wp2_with fail
 refine(num_s a 1 PY.out.wr (Below.refl _ _) PY.out.b2.size (by omega) (by decide) (by decide) (by simp)).mono ?_
 rintro e w3 ⟨rfl,x2,b2⟩
 have P3:=hid (PY.out.step x2 b2);clear x2 b2 PY;rw[List.nil_append] at P3;clear c0;obtain⟨_,c1,_,_,_⟩:=RC.out _ P3.out.box;go_wp2_with fail
 refine(num_s b 1 P3.out.wr (Below.refl _ _) P3.out.b2.size (by omega) (by decide) (by decide) (by rw[beN_length];omega)).mono ?_
 rintro e w4 ⟨rfl,x2,b2⟩
 have P4:=hid (P3.out.step x2 b2);clear x2 b2 P3;clear c1;obtain⟨_,_,c2,_,_⟩:=RC.out _ P4.out.box;go_wp2_with fail
 refine(num_s k 1 P4.out.wr (Below.refl _ _) P4.out.b2.size (by omega) (by decide) (by decide) (by simp only[List.length_append,beN_length];omega)).mono ?_
 rintro e w5 ⟨rfl,x2,b2⟩
 have P5:=hid (P4.out.step x2 b2);clear x2 b2 P4;clear c2 i1 i2 i3;obtain⟨_,_,_,c3,_⟩:=RC.out _ P5.out.box;obtain⟨pre,hpre⟩:∃ l,(beN a 1++beN b 1)++beN k 1=l:=⟨_,rfl⟩;have LP:=hid (show pre.length=3 from by rw[←hpre];simp only[List.length_append,beN_length]);rw[hpre] at P5 E;clear hpre;go_wp2_with fail
 clear c3
 go_loopw [21] (λt wr=>∃ j:Nat,j≤n∧t= .int .i64 (j:Int)∧QG9 w w2 wr x (pre++((x.ks.take j).map (·.X)).flatten)) (λt _=>n- (intOf t).toNat)
 case atStart=>exact⟨0,by omega,rfl,by rw[List.take_zero,List.map_nil,List.flatten_nil,List.append_nil];exact P5.out⟩
 case round=>
  clear P5;obtain⟨j,hj,rfl,pj⟩:=hrel;have PJ:=hid pj;clear pj;have LJ:=hid (show(pre++((x.ks.take j).map (·.X)).flatten).length≤3+56 * 7 from by
   have h1:=flatten_len (l:=x.ks.take j) (λy hy=>KL.out y (List.mem_of_mem_take hy));have h2:(x.ks.take j).length≤7:=by rw[List.length_take];omega
   rw[List.length_append,LP.out,h1];omega)
  by_cases hlt:j<n
  ·obtain⟨y,hy⟩:∃ y,x.ks[j]? =some y:=⟨_,List.getElem?_eq_getElem (by rw[HN.out];exact hlt)⟩;obtain⟨bq,o,hpe,hbl,rg⟩:=(PJ.out.r2.below PJ.out.b2).ks j y hy;obtain rfl:kp=some ⟨bq,o,none⟩:=HKP.out.symm.trans hpe;have c1:wr.cell? ⟨bq,o+j,none⟩=some (.slice y.A y.X.length y.c):=by have:=rg 0 _ rfl;rw[Nat.mul_one,Nat.add_zero] at this;exact this
   have j1:(j:Int)< (n:Int):=by omega
   have HY:=hid hy;have HM:=List.mem_of_getElem? hy;have RW_:=hid (raw_s y.X y.A y.X.length y.c PJ.out.wr (Below.refl _ _) PJ.out.b2.size rfl ((PJ.out.r2.k y HM).below PJ.out.b2) (by have:=LJ.out;have:=KL.out y HM;omega));clear rg hpe hbl hy HM;go_wp2_with fail
   refine RW_.out.mono ?_
   rintro e w7 ⟨rfl,x7,b7⟩
   have P7:=hid (PJ.out.step x7 b7);clear x7 b7 RW_ PJ c1;go_wp2_with fail
   go_roundw
   case rel=>exact⟨j+1,by omega,by go_num,by rw[flatten_snoc HY.out,←List.append_assoc];exact P7.out⟩
   case measure=>simp[intOf];omega
  ·obtain rfl:j=n:=by omega
   clear hlt;rw[List.take_of_length_le (by rw[HN.out];exact Nat.le_refl _)] at PJ LJ;obtain⟨_,_,_,_,c4⟩:=RC.out _ PJ.out.box;have TX:=hid (text_s x.st x.sp x.st.length x.sc PJ.out.wr (Below.refl _ _) PJ.out.b2.size rfl (PJ.out.r2.st.below PJ.out.b2) (λhx a ha=> .inl (PJ.out.r2.st.lt hx a ha)) (by have:=LJ.out;have:=SL.out;omega));go_wp2_with fail
   refine TX.out.mono ?_
   rintro e w8 ⟨rfl,x8,b8⟩
   have P8:=hid (PJ.out.step x8 b8);rw[←E.out] at P8;have LX:=hid (show xs.length≤70368744177664 from by rw[E.out,List.length_append];have:=LJ.out;have:=SL.out;show _+(txtN x.st).length≤_;rw[show(txtN x.st).length=4+x.st.length by unfold txtN;rw[List.length_append,beN_length]];omega);clear x8 b8 TX PJ c4;go_wp2_with fail
   refine(wbytes_t _ w2.heap.size xs w8 P8.out.wr LX.out).mono ?_
   rintro e w9 ⟨v,rfl,fr⟩
   have hs:=P8.out.bel.trans (P8.out.b2.mono P8.out.bel.size);have FR:=hid (show Fresh 5 w w9 v xs from⟨own_base fr.1 (λk hk=>Nat.le_trans hs.size (fr.1.lt k hk).1),hs.trans (fr.2.mono hs.size)⟩);clear fr P8 hs;go_wp2_with fail
   go_ret;exact⟨v,rfl,FR.out⟩
theorem wcopy_partG {P:Program} {o:Oper} {a:Act} {w:World} {K:Act→World→Prop} {Q:Exit→Act→World→Prop} (d s:Operand) (dT sT elem:TypeId) (g off dLen dCap sLen sCap nn:Nat) (dp sp:Option Addr) (t:TypeId) (A M C M':List Value)
  (ho:o.op= .call { callee:= .builtin .copy,args:= #[d,s],argTypes:= #[dT,sT] }) (hu:P.underlying dT=some (.slice elem)) (hsz:(P.info? elem).map (·.size)=some 1)
  (hg:Blk w g t (A++(M++C))) (hoff:off=A.length) (hl:M.length=M'.length) (hn:M'.length=Nat.min sLen dLen) (hd:a.eval d= .slice dp dLen dCap) (hs:a.eval s= .slice sp sLen sCap)
  (hpos:0<M'.length→dp=some ⟨g,off,none⟩∧∃ ad,sp=some ad∧∀ j v,M'[j]? =some v→w.cell? (ad.add j)=some v) (h1:∀ v∈M',v.oneCell'=true) (hnn:M'.length=nn)
  (h:∀ w',Hid (Blk w' g t (A++(M'++C)))→Hid (But w.heap.size g w w')→Hid (w'.heap.size=w.heap.size)→K (a.put o.dst (.int .i64 (nn:Int))) w'):o.wp P a w K Q:=by
 subst hnn
 by_cases h0:M'.length=0
 ·obtain rfl:M'=[]:=List.eq_nil_of_length_eq_zero h0;obtain rfl:M=[]:=List.eq_nil_of_length_eq_zero hl;have hrun:=run_copy_none (P:=P) w dT sT o.type elem dp sp dLen dCap sLen sCap hu hsz (by simpa using hn.symm);unfold Oper.wp;simp[execOp,ho,resolve,invoke,builtin,hd,hs,hrun,Result.andThen];exact h w (hid hg) (hid (But.refl _ _ _)) (hid rfl)
 ·obtain⟨rfl,ad,rfl,hsrc⟩:=hpos (by omega);subst hoff;have hrun:=run_copy_row (P:=P) w dT sT o.type elem g A.length dLen dCap ad sLen sCap (A++(M++C)).toArray t M' hu hsz hg hn hsrc (by simp;omega) h1;unfold Oper.wp;simp[execOp,ho,resolve,invoke,builtin,hd,hs,hrun,Result.andThen];refine h _ ?_ ?_ ?_
  ·have e:(A++(M++C)).take A.length++(M'++(A++(M++C)).drop (A.length+M'.length))=A++(M'++C):=by
    rw[←hl,←List.drop_drop,List.take_left,List.drop_left,List.drop_left]
   have hb:=hg.setRow ((A++(M++C)).take A.length++(M'++(A++(M++C)).drop (A.length+M'.length)));rw[e] at hb;rw[←e] at hb ⊢;exact hid (by simpa using hb)
  ·exact hid ((But.refl _ _ _).setRow _)
  ·exact hid (by simp)
def kSeg (ys:List Nat) (bad:Bool):List Nat×List Nat×Bool:=if 56≤ys.length then(ys.take 56,ys.drop 56,bad) else(List.replicate 56 0,[],true)
def kRd (ys:List Nat) (bad:Bool):Nat→List (List Nat)×List Nat×Bool
 |0=>([],ys,bad)
 |j+1=>((kRd ys bad j).1 ++[(kSeg (kRd ys bad j).2.1 (kRd ys bad j).2.2).1],(kSeg (kRd ys bad j).2.1 (kRd ys bad j).2.2).2)
section
variable {F : Nat → Prop} {w0 W W' : World} {g n s s' : Nat} {l l' : List (List Nat)} {ys ys' : List Nat} {bad bad' : Bool}
end
end
def g1 (xs:List Nat):=rNum xs false 1
def g2 (xs:List Nat):=rNum (g1 xs).2.1 (g1 xs).2.2 1
def g3 (xs:List Nat):=rNum (g2 xs).2.1 (g2 xs).2.2 1
def g4 (xs:List Nat):=kRd (g3 xs).2.1 (g3 xs).2.2 (3 * (g1 xs).1 +1)
def g5 (xs:List Nat):=rTxt (g4 xs).2.1 (g4 xs).2.2 (g4 xs).2.1.length
def zGv:Gv:=⟨0,0,0,none,0,[],none,0,[]⟩
theorem zGv_w (W:World):GvW W zGv:=⟨RowL.nil,(λy hy=>by cases hy),(λy hy=>by cases hy),(λy hy=>by cases hy),Nat.zero_le _,Sr.nil,nil_bytes,Nat.zero_le _,Nat.zero_le _⟩
theorem built_g9 (a b c:Int):Tryz.prog.built 27 [(0,.int .i64 a),(1,.int .i64 b),(2,.int .i64 c)]=some #[.int .i64 a,.int .i64 b,.int .i64 c,.slice none 0 0,.slice none 0 0]:=by kernel_rfl
theorem built_gz:Tryz.prog.built 27 []=some (gv zGv).toArray:=by kernel_rfl
section
variable {B : Nat} {w0 W W' : World} {g g5 : Nat} {zs zs' : List Nat} {bad bad' : Bool} {x x' : Gv}
end
end
def putE (e:Ge):List Nat:=putG e.f e.rd e.wr e.ks e.st
end
theorem bEqual_t (xs ys:List Nat) (A B:Option Addr) (n m c d:Nat) (w:World) (hn:xs.length=n) (hm:ys.length=m) (ha:Sr w A xs) (hb:Sr w B ys) (hx:Bytes xs) (hy:Bytes ys):
  Calls Tryz.prog 28 #[.slice A n c,.slice B m d] w λe w'=>e= .returned (.bool (decide (xs=ys)))∧w=w':=by
 have e1:=ha.conv hn c;have e2:=hb.conv hm d;have e3:=str_beqT xs ys hx hy;obtain⟨b,hbb⟩:∃ b,decide (xs=ys)=b:=⟨_,rfl⟩;rw[hbb] at e3 ⊢;obtain⟨s,hs⟩:∃ s,str xs=s:=⟨_,rfl⟩;obtain⟨t,ht⟩:∃ t,str ys=t:=⟨_,rfl⟩;rw[hs] at e1 e3;rw[ht] at e2 e3;clear ha hb hx hy hbb hs ht hn hm
 go_enter Tryz.func28,Tryz.ntmps28
 go_wp2
 go_ret;exact⟨rfl,rfl⟩
end
theorem built_hz:Tryz.prog.built 23 []=some (u8s zH).toArray:=by kernel_rfl
structure HG9 (w0 W:World) (x:Gv) (h:List Nat):Prop where
 gb:GB9 w0 W x
 res:Blk W (w0.heap.size+1) 23 (u8s h)
theorem HG9.below {w0 W W':World} {x:Gv} {l:List Nat} (h:HG9 w0 W x l) (hb:Below W.heap.size W W'):HG9 w0 W' x l:=⟨h.gb.below hb,h.res.below hb h.res.lt⟩
theorem HG9.new {w:World} {x:Gv} (h:GvW w x):HG9 w ((w.alloc (.cells (gv x).toArray 27)).alloc (.cells (u8s zH).toArray 23)) x zH:=
 ⟨(GB9.new h).below ((Below.refl _ _).alloc (Nat.le_refl _) _),Blk.new2 w (.cells (gv x).toArray 27) 23 (u8s zH)⟩
end
def fakeX (i:Nat):List Nat:=(((List.replicate 56 0).set 3 5).set 7 (1+i % 4)).set 20 i
theorem fakeX_len (i:Nat):(fakeX i).length=56:=by simp[fakeX]
theorem fakeX_form (i:Nat) (h:i<10):formN (fakeX i)=true:=by
 have hc:i=0∨i=1∨i=2∨i=3∨i=4∨i=5∨i=6∨i=7∨i=8∨i=9:=by omega
 rcases hc with rfl |rfl |rfl |rfl |rfl |rfl |rfl |rfl |rfl |rfl<;>rfl
theorem fakeX_bytes (i:Nat) (h:i<10):Bytes (fakeX i):=by
 have hc:i=0∨i=1∨i=2∨i=3∨i=4∨i=5∨i=6∨i=7∨i=8∨i=9:=by omega
 rcases hc with rfl |rfl |rfl |rfl |rfl |rfl |rfl |rfl |rfl |rfl<;>exact sl_bytes (by decide)
theorem make_b56 (w:World):(Instr.makeSlice 25 (.int .i64 56) (.int .i64 56)).run Tryz.prog w= .ok (.slice (some ⟨w.heap.size,0,none⟩) 56 56) (w.alloc (.cells (u8s (List.replicate 56 0)).toArray 5)):=by
 have hinfo:(Tryz.prog.info? 5).map (λi=>(i.zero,i.size,i.bytes))=some (some (.int .u8 0),1,1):=by kernel_rfl
 obtain⟨i,hi,hzz⟩:=Option.map_eq_some_iff.1 hinfo;simp only[Prod.mk.injEq] at hzz;obtain⟨hz,hs,hb⟩:=hzz;have hr:=run_make (P:=Tryz.prog) w 25 5 i (.int .u8 0) Tryz.underlying25 hi hz .i64 .i64 56 56 (by omega) (Int.le_refl _) (by rw[hb];decide) (by decide);rw[show(56:Int).toNat=56 from rfl,hs,show madeCells (Value.int .u8 0).cells (56 * 1)=(u8s (List.replicate 56 0)).toArray from by kernel_rfl] at hr;exact hr
theorem and3G (i:Nat) (h:i<10):bits .and .i64 (i:Int) 3=((i % 4:Nat):Int):=by
 have hc:i=0∨i=1∨i=2∨i=3∨i=4∨i=5∨i=6∨i=7∨i=8∨i=9:=by omega
 rcases hc with rfl |rfl |rfl |rfl |rfl |rfl |rfl |rfl |rfl |rfl<;>rfl
def NK (W:World) (B:Nat) (y:Ky):Prop:=∃ b,y.A=some ⟨b,0,none⟩∧B≤b∧Blk W b 5 (u8s y.X)
structure FK9 (w0 W:World) (x:Gv):Prop where
 res:Blk W w0.heap.size 27 (gv zGv)
 bx:Blk W (w0.heap.size+1) 27 (gv x)
 ow:W.ownsRow w0.heap.size 25 1 (.slice x.kp x.ks.length x.kc) x.ks.length (x.ks.flatMap kyv)
 nk:∀ y∈x.ks,NK W w0.heap.size y
 bel:Below w0.heap.size w0 W
theorem NK.below {W W':World} {B:Nat} {y:Ky} (h:NK W B y) (hb:Below W.heap.size W W'):NK W' B y:=by
 obtain⟨b,h1,h2,h3⟩:=h;exact⟨b,h1,h2,h3.below hb h3.lt⟩
theorem NK.sr {W:World} {B:Nat} {y:Ky} (h:NK W B y):Sr W y.A y.X:=by
 obtain⟨b,h1,h2,h3⟩:=h;rw[h1];exact λ_=>⟨b,0,rfl,h3.lt,λj hj=>by rw[Nat.zero_add,h3.cell];exact u8s_get _ _ hj⟩
theorem FK9.below {w0 W W':World} {x:Gv} (h:FK9 w0 W x) (hb:Below W.heap.size W W'):FK9 w0 W' x:=
 ⟨h.res.below hb h.res.lt,h.bx.below hb h.bx.lt,own_below h.ow hb,λy hy=>(h.nk y hy).below hb,h.bel.trans (hb.mono h.bel.size)⟩
theorem FK9.write {w0 W W':World} {x:Gv} {kb:Nat} {cs:List Value} (h:FK9 w0 W x) (hk:Kept (λk=>k=kb) W W') (hb:w0.heap.size+1<kb) (hu:Blk W kb 5 cs) (hn:∀ y∈x.ks,∀ a:Addr,y.A=some a→a.block≠kb):FK9 w0 W' x:=by
 refine⟨h.res.kept hk (by omega),h.bx.kept hk (by omega),own_kept h.ow hk (λk hk' e=>own_apart h.ow hu (by decide) (by rw[hk',e])),λy hy=>?_,kept_below h.bel hk (by omega)⟩;obtain⟨b,h1,h2,h3⟩:=h.nk y hy;exact⟨b,h1,h2,h3.kept hk (hn y hy _ h1)⟩
theorem infoKs:(Tryz.prog.info? 25).map (λi=>(i.zero,i.size,i.bytes))=some (some (.slice none 0 0),1,24):=by kernel_rfl
theorem FK9.grow {w0 W W':World} {x:Gv} {y:Ky} {kp':Option Addr} {kc':Nat} (h:FK9 w0 W x) (hy:NK W w0.heap.size y) (ho:W'.ownsRow w0.heap.size 25 1 (.slice kp' (x.ks.length+1) kc') (x.ks.length+1) (x.ks.flatMap kyv++[y].flatMap kyv)) (hr:W.grownBy W' (Value.slice x.kp x.ks.length x.kc).ownBlock):
  Blk W' (w0.heap.size+1) 27 (gv x)∧FK9 w0 (W'.setCell ⟨w0.heap.size+1,3,none⟩ (.slice kp' (x.ks.length+1) kc')) { x with ks:=x.ks++[y],kp:=kp',kc:=kc' } :=by
 have k:Kept (λk=>(Value.slice x.kp x.ks.length x.kc).ownBlock=some k) W W':=(Kept.refl _ W).grown hr (λk e=> .inl e);have hge:∀ i,(Value.slice x.kp x.ks.length x.kc).ownBlock=some i→w0.heap.size≤i:=λi hi=>(h.ow.lt i hi).1
 have b1:=h.res.kept k (λe=>own_apart h.ow h.res (by decide) e);have b2:=h.bx.kept k (λe=>own_apart h.ow h.bx (by decide) e);have nk:∀ z,NK W w0.heap.size z→NK W' w0.heap.size z:=λz hz=>by
  obtain⟨b,h1,h2,h3⟩:=hz;exact⟨b,h1,h2,h3.kept k (λe=>own_apart h.ow h3 (by decide) e)⟩
 have bel':Below w0.heap.size w0 W':=h.bel.trans ((k.mono hge).to_below h.bel.size);refine⟨b2,?_⟩;have hk:Kept (λk=>k=w0.heap.size+1) W' (W'.setCell ⟨w0.heap.size+1,3,none⟩ (.slice kp' (x.ks.length+1) kc')):=Kept.setCell (F:=λk=>k=w0.heap.size+1) (Kept.refl _ _) (p:=⟨w0.heap.size+1,3,none⟩) (.inl rfl) _;refine⟨b1.kept hk (by omega),?_,?_,λz hz=>?_,kept_below bel' hk (by omega)⟩
 ·have:=b2.store 3 (.slice kp' (x.ks.length+1) kc');rw[show gv { x with ks:=x.ks++[y],kp:=kp',kc:=kc' } =(gv x).set 3 (.slice kp' (x.ks.length+1) kc') by simp[gv]];exact this
 ·refine own_kept ?_ hk (λk hk' e=>own_apart ho b2 (by decide) (by rw[show(x.ks++[y]).length=x.ks.length+1 by simp] at hk';rw[hk',e]));rw[show(x.ks++[y]).length=x.ks.length+1 by simp,List.flatMap_append];exact ho
 ·have hz':NK W w0.heap.size z:=by
   rcases List.mem_append.1 hz with h1 |h1
   ·exact h.nk z h1
   ·rw[List.mem_singleton.1 h1];exact hy
  obtain⟨b,h1,h2,h3⟩:=nk z hz';exact⟨b,h1,h2,h3.kept hk (h3.apart b2 (by decide))⟩
set_option maxHeartbeats 2000000 in
theorem fakeO_t (f:Nat) (rd wr:Int) (hf:f≤3) (w:World):
  Calls Tryz.prog 24 #[.int .i64 (f:Int),.int .i64 rd,.int .i64 wr] w λe w'=>∃ y:Gv,y.ge=⟨(f:Int),rd,wr,(List.range (3 * f+1)).map fakeX,[]⟩∧e= .returned (.agg (gv y).toArray)∧GvW w' y∧w'.ownsRow w.heap.size 25 1 (.slice y.kp y.ks.length y.kc) y.ks.length (y.ks.flatMap kyv)∧(∀ z∈y.ks,NK w' w.heap.size z)∧Below w.heap.size w w':=by
 have BG:=built_g9 (f:Int) rd wr;have F0:=hid (show FK9 w ((w.alloc (.cells (gv zGv).toArray 27)).alloc (.cells (gv ⟨(f:Int),rd,wr,none,0,[],none,0,[]⟩).toArray 27)) ⟨(f:Int),rd,wr,none,0,[],none,0,[]⟩ from
  ⟨(Blk.new w 27 (gv zGv)).alloc _,Blk.new2 w _ 27 _,World.ownsRow_nil _ _ _ _,(λy hy=>by cases hy),((Below.refl _ _).alloc (Nat.le_refl _) _).alloc (by simp) _⟩)
 obtain⟨n,hn⟩:∃ n,3 * f+1=n:=⟨_,rfl⟩;have n10:n≤10:=by omega
 have hn3:(3 * (f:Int)+1)=(n:Int):=by omega
 rw[hn]
 go_enter Tryz.func24,Tryz.ntmps24
 go_upto_region 2 with(fail)
 refine world_at (λY=>FK9 w Y ⟨(f:Int),rd,wr,none,0,[],none,0,[]⟩) F0.out ?_
 rintro V f1
 have F1:=hid f1;clear f1 F0 BG;go_wp2_with fail
 go_loopw [8] (λt wq=>∃ (j:Nat) (x:Gv),j≤n∧t= .int .i64 (j:Int)∧FK9 w wq x∧x.ge=⟨(f:Int),rd,wr,(List.range j).map fakeX,[]⟩∧x.sp=none∧x.sc=0) (λt _=>n- (intOf t).toNat)
 case atStart=>exact⟨0,_,by omega,rfl,F1.out,rfl,rfl,rfl⟩
 case round=>
  clear F1;obtain⟨j,x,hj,rfl,fk,hge,hsp,hsc⟩:=hrel;have FK:=hid fk;have HGE:=hid hge;have HSP:=hid (And.intro hsp hsc);have HLN:=hid (show x.ks.length=j from by
   have h:=congrArg (λe=>e.ks.length) hge
   simpa [Gv.ge] using h)
  clear fk hge hsp hsc
  by_cases hlt:j<n
  ·have j1:(j:Int)< (n:Int):=by omega
   have j1b:(j:Int)<3 * (f:Int)+1:=by omega
   have j2:(j:Int)<10:=by omega
   have j10:j<10:=by omega
   have ea:=and3G j j10;have mb:=make_b56 wr;have FKa:=hid (FK.out.below (show Below wr.heap.size wr (wr.alloc (.cells (u8s (List.replicate 56 0)).toArray 5)) from(Below.refl _ _).alloc (Nat.le_refl _) _));have KB0:=hid (Blk.new wr 5 (u8s (List.replicate 56 0)));have HLB:=hid FK.out.bel.size
   go_upto_region 6 with(fail)
   clear mb;refine world_at (λZ=>FK9 w Z x∧Blk Z wr.heap.size 5 (u8s (List.replicate 56 0))) ⟨FKa.out,KB0.out⟩ ?_
   rintro Z ⟨z1,z2⟩
   have HNE:=hid (show ∀ y∈x.ks,∀ a:Addr,y.A=some a→a.block≠wr.heap.size from λy hy a ha e=>by
    obtain⟨b,h1,h2,h3⟩:=FK.out.nk y hy;rw[h1] at ha
    injection ha with ha
    subst ha;have:=h3.lt;have e':b=wr.heap.size:=e;omega)
   have HKB:=hid (show w.heap.size+1<wr.heap.size from FK.out.bx.lt);obtain⟨kb,hkb⟩:∃ b,wr.heap.size=b:=⟨_,rfl⟩;rw[hkb] at z2 HNE HKB ⊢;have f3:=z2.frozen 3;have f7:=z2.frozen 7;have f20:=z2.frozen 20;have c3:Z.cell? ⟨kb,3,none⟩=some (.int .u8 0):=z2.cell 3;have c7:Z.cell? ⟨kb,7,none⟩=some (.int .u8 0):=z2.cell 7;have c20:Z.cell? ⟨kb,20,none⟩=some (.int .u8 0):=z2.cell 20;have Z1:=hid z1;have Z2:=hid z2;have w1:IntKind.u8.wrap (1+((j % 4:Nat):Int))=((1+j % 4:Nat):Int):=by
    have hc:j % 4=0∨j % 4=1∨j % 4=2∨j % 4=3:=by omega
    rcases hc with h |h |h |h<;>rw[h]<;>rfl
   have w2:IntKind.u8.wrap (j:Int)=(j:Int):=by
    have hc:j=0∨j=1∨j=2∨j=3∨j=4∨j=5∨j=6∨j=7∨j=8∨j=9:=by omega
    rcases hc with rfl |rfl |rfl |rfl |rfl |rfl |rfl |rfl |rfl |rfl<;>rfl
   clear z1 z2 FKa KB0 FK HLB hkb;have kz:Kept (λk=>k=kb) Z (((Z.setCell ⟨kb,3,none⟩ (.int .u8 5)).setCell ⟨kb,7,none⟩ (.int .u8 (1+(j:Int) % 4))).setCell ⟨kb,20,none⟩ (.int .u8 (j:Int))):=Kept.setCell (F:=λk=>k=kb) (Kept.setCell (F:=λk=>k=kb) (Kept.setCell (F:=λk=>k=kb) (Kept.refl _ _) (p:=⟨kb,3,none⟩) (.inl rfl) _) (p:=⟨kb,7,none⟩) (.inl rfl) _) (p:=⟨kb,20,none⟩) (.inl rfl) _;have BK:=hid (show Blk (((Z.setCell ⟨kb,3,none⟩ (.int .u8 5)).setCell ⟨kb,7,none⟩ (.int .u8 (1+(j:Int) % 4))).setCell ⟨kb,20,none⟩ (.int .u8 (j:Int))) kb 5 (u8s (fakeX j)) from by
    have h:=((Z2.out.store 3 (.int .u8 ((5:Nat):Int))).store 7 (.int .u8 ((1+j % 4:Nat):Int))).store 20 (.int .u8 ((j:Nat):Int));rw[u8s_set,u8s_set,u8s_set,show((1+j % 4:Nat):Int)=1+(j:Int) % 4 by omega] at h;exact h)
   have FK5:=hid (Z1.out.write kz HKB.out Z2.out HNE.out);clear kz
   go_upto_region 7 with(fail)
   clear f3 f7 f20 c3 c7 c20 w1 w2 ea Z1 Z2 HNE;obtain⟨Z5,hZ5⟩:∃ V,(((Z.setCell ⟨kb,3,none⟩ (.int .u8 5)).setCell ⟨kb,7,none⟩ (.int .u8 (1+(j:Int) % 4))).setCell ⟨kb,20,none⟩ (.int .u8 (j:Int)))=V:=⟨_,rfl⟩;rw[hZ5] at BK FK5 ⊢;clear hZ5;obtain⟨y,hy⟩:∃ y:Ky,(⟨some ⟨kb,0,none⟩,56,fakeX j⟩:Ky)=y:=⟨_,rfl⟩;have HY:=hid hy;have KV:=hid (show kyv y=[.slice (some ⟨kb,0,none⟩) 56 56] from by rw[←hy];unfold kyv;rw[fakeX_len]);have NY:=hid (show NK Z5 w.heap.size y from by rw[←hy];exact⟨kb,rfl,by have:=HKB.out;omega,BK.out⟩);clear hy BK;have cg:Z5.cell? ⟨w.heap.size+1,3,none⟩=some (.slice x.kp x.ks.length x.kc):=(gv_cells FK5.out.bx).2.2.2.1;have BA:=hid ((Below.refl Z5.heap.size Z5).alloc (Nat.le_refl _) (.cells #[.slice (some ⟨kb,0,none⟩) 56 56] 25));have R3:=hid (FK5.out.below BA.out);have NY3:=hid (NY.out.below BA.out);have Q1:=hid (show RowL (Z5.alloc (.cells #[.slice (some ⟨kb,0,none⟩) 56 56] 25)) (some ⟨Z5.heap.size,0,none⟩) 1 kyv [y] from by
    have h:=row_one kyv 1 y Z5 25;rw[KV.out] at h;exact h)
   have O1:=hid R3.out.ow;have HBS:=hid (show w.heap.size≤(Z5.alloc (.cells #[.slice (some ⟨kb,0,none⟩) 56 56] 25)).heap.size from R3.out.bel.size);have LL:=hid (show x.ks.length+1≤1000000 from by have:=HLN.out;omega)
   go_wp2_with ((with_reducible refine at_op (.call { callee:= .builtin .append,args:= #[.tmp 39,.tmp 41],argTypes:= #[24,24] }) rfl ?_);go_must (refine append_rows (.tmp 39) (.tmp 41) 24 rfl rfl 25 Tryz.underlying24 infoKs rfl (by decide) (by decide) kyv_len kyv_one w.heap.size (.slice x.kp x.ks.length x.kc) x.ks.length (x.ks.flatMap kyv) rfl O1.out (some ⟨Z5.heap.size,0,none⟩) 1 1 rfl [y] rfl Q1.out LL.out HBS.out ?_);intro v1 w9 h2 h3 h5 h6;obtain⟨ip9,ic9,hv9,_⟩:=own_form h2.out;subst hv9;have r9:=R3.out.grow NY3.out h2.out h3.out;have fz:=r9.1.frozen 3;have ct:w9.cell? ⟨w.heap.size+1,3,none⟩=some (.slice x.kp x.ks.length x.kc):=(gv_cells r9.1).2.2.2.1;have R9:=hid r9.2;clear r9 h2 h3 h5 h6)
   go_roundw
   case rel=>
    refine⟨j+1, { x with ks:=x.ks++[y],kp:=ip9,kc:=ic9 },by omega,by go_num,R9.out,?_,HSP.out.1,HSP.out.2⟩;have h:=HGE.out;unfold Gv.ge at h ⊢;simp only[Ge.mk.injEq] at h ⊢;obtain⟨h1,h2,h3,h4,h5⟩:=h;refine⟨h1,h2,h3,?_,h5⟩;rw[List.map_append,h4,List.range_succ,List.map_append,←HY.out];rfl
   case measure=>simp[intOf];omega
  ·obtain rfl:j=n:=by omega
   have j1:decide ((j:Int)<3 * (f:Int)+1)=false:=decide_eq_false (by omega);have RES:=hid FK.out.res;have GBX:=hid FK.out.bx;have FY:=hid (gv_size x);have FYO:=hid (gv_one x);have RZ:=hid (FK.out.res.setRow (gv x));have BF:=hid (below_setRow FK.out.bel (Nat.le_refl _) (gv x).toArray);have hks:x.ks.map (·.X)=(List.range j).map fakeX:=by have h:=congrArg (λe=>e.ks) HGE.out;exact h
   have hst:x.st=[]:=by have h:=congrArg (λe=>e.st) HGE.out;exact h
   have KW:=hid (show GvW (wr.setRow w.heap.size (gv x).toArray) x from by
    have hk:Kept (λk=>k=w.heap.size) wr (wr.setRow w.heap.size (gv x).toArray):=Kept.setRowK (F:=λk=>k=w.heap.size) (Kept.refl _ _) (.inl rfl) _;have hX:∀ y∈x.ks,∃ i,i<10∧y.X=fakeX i:=λy hy=>by
     have h:y.X∈x.ks.map (·.X):=List.mem_map_of_mem hy;rw[hks] at h;obtain⟨i,hi,e⟩:=List.mem_map.1 h;exact⟨i,by have:=List.mem_range.1 hi;omega,e.symm⟩
    refine⟨RowL.of_own kyv_len rfl (own_kept FK.out.ow hk (λk hk' e=>own_apart FK.out.ow FK.out.res (by decide) (by rw[hk',e]))),λy hy=>?_,λy hy=>?_,λy hy=>?_,by rw[HLN.out];omega,by rw[hst];exact Sr.nil,by rw[hst];exact nil_bytes,by rw[hst];exact Nat.zero_le _,by rw[hst];exact Nat.zero_le _⟩
    ·obtain⟨b,h1,h2,h3⟩:=FK.out.nk y hy;exact NK.sr (B:=w.heap.size) ⟨b,h1,h2,h3.kept hk (h3.apart FK.out.res (by decide))⟩
    ·obtain⟨i,hi,e⟩:=hX y hy;rw[e];exact fakeX_bytes i hi
    ·obtain⟨i,hi,e⟩:=hX y hy;rw[e,fakeX_len];decide)
   have OW:=hid (show(wr.setRow w.heap.size (gv x).toArray).ownsRow w.heap.size 25 1 (.slice x.kp x.ks.length x.kc) x.ks.length (x.ks.flatMap kyv) from
    own_kept FK.out.ow (Kept.setRowK (F:=λk=>k=w.heap.size) (Kept.refl _ _) (.inl rfl) _) (λk hk' e=>own_apart FK.out.ow FK.out.res (by decide) (by rw[hk',e])))
   have NKS:=hid (show ∀ z∈x.ks,NK (wr.setRow w.heap.size (gv x).toArray) w.heap.size z from λz hz=>by
    obtain⟨b,h1,h2,h3⟩:=FK.out.nk z hz;exact⟨b,h1,h2,h3.kept (Kept.setRowK (F:=λk=>k=w.heap.size) (Kept.refl _ _) (.inl rfl) _) (h3.apart FK.out.res (by decide))⟩)
   clear hlt hks hst FK
   go_wp2_with (first
    |((with_reducible refine load_blk 27 (.tmp 7) (w.heap.size+1) 27 (gv x) _ rfl rfl ?_ Tryz.underlying27 ?_ ?_ ?_ ?_);exact GBX.out;exact rfl;exact FY.out;exact rfl)
    |((with_reducible refine at_op (.store 27 (.tmp 6) (.tmp 44)) rfl ?_);go_must (refine store_blk 27 (.tmp 6) (.tmp 44) w.heap.size 27 _ (gv x) rfl rfl RES.out rfl FY.out FYO.out rfl rfl ?_)))
   exact ret_blk (p:=6) (ty:=27) rfl rfl w.heap.size 27 _ _ rfl RZ.out Tryz.underlying27 rfl FY.out ⟨x,HGE.out,rfl,KW.out,OW.out,NKS.out,BF.out⟩
theorem fake_t (f:Nat) (rd wr:Int) (hf:f≤3) (w:World):
  Calls Tryz.prog 24 #[.int .i64 (f:Int),.int .i64 rd,.int .i64 wr] w λe w'=>∃ y:Gv,y.ge=⟨(f:Int),rd,wr,(List.range (3 * f+1)).map fakeX,[]⟩∧e= .returned (.agg (gv y).toArray)∧GvW w' y∧Below w.heap.size w w':=
 (fakeO_t f rd wr hf w).mono λ_ _ ⟨y,h1,h2,h3,_,_,h5⟩=>⟨y,h1,h2,h3,h5⟩
end Go.Proofs.YtjlophplcmidlaaGreatDoor
