/-
  PACKAGE vote
  PACKAGE vote
  THE REFERENCE OF CHAPTER 9
  THE REFERENCE OF CHAPTER 9
  THE REFERENCE
  THE REFERENCE
  FEW
  StateAsks walked
  THE REFERENCE OF CHAPTER 10
  THE REFERENCE OF CHAPTER 10
-/
import Derived.Test.YtjlophplcmidlaaGreatDoorAd38
import Derived.Test.YtjlophplcmidlaaGreatDoorAd21
import Derived.Test.YtjlophplcmidlaaGreatDoorAd24
import Derived.Test.YtjlophplcmidlaaGreatDoorAd18
import Derived.Test.YtjlophplcmidlaaGreatDoorAd25
import Derived.Test.YtjlophplcmidlaaGreatDoorAd31
import Derived.Test.YtjlophplcmidlaaGreatDoorAd16
import Derived.Test.YtjlophplcmidlaaGreatDoorAd15
import Derived.Test.YtjlophplcmidlaaGreatDoorAd27
import Derived.Test.YtjlophplcmidlaaGreatDoorAd28
open Go.Lib (hid)
set_option maxRecDepth 100000
namespace Go.Proofs.YtjlophplcmidlaaGreatDoor
open Go Go.RowKit Sh
def textV (a:List Nat) (q:Nat) (l:List Nat):List Nat:=(([86,79,84,69]++a)++beN q 4)++l
structure QT (w0 w2 W:World) (a:List Nat) (q:Nat) (l:List Nat) (ls:List Nat):Prop where
 wr:Wr W (λk=>w2.heap.size≤k) w2.heap.size ls
 ba:Blk W w0.heap.size 23 (u8s a)
 bp:Blk W (w0.heap.size+1) 3 [.int .i64 (q:Int)]
 bl:Blk W (w0.heap.size+2) 23 (u8s l)
 lo:w0.heap.size+2<w2.heap.size
 b2:Below w2.heap.size w2 W
theorem QT.step {w0 w2 W W':World} {a l ls ls':List Nat} {q:Nat} (h:QT w0 w2 W a q l ls) (hw:Wr W' (λk=>w2.heap.size≤k) w2.heap.size ls') (hb:Below w2.heap.size W W'):QT w0 w2 W' a q l ls':=by
 have:=h.lo;exact⟨hw,h.ba.below hb (by omega),h.bp.below hb (by omega),h.bl.below hb (by omega),h.lo,h.b2.trans hb⟩
theorem sr_blkV {w:World} {g:Nat} {t:TypeId} {xs:List Nat} (h:Blk w g t (u8s xs)):Sr w (some ⟨g,0,none⟩) xs:=λ_=>⟨g,0,rfl,h.lt,λj hj=>by rw[Nat.zero_add,h.cell];exact u8s_get _ _ hj⟩
set_option maxHeartbeats 1000000 in
theorem vText1_t (a l:List Nat) (q:Nat) (w0 w2 W:World) (h:QT w0 w2 W a q l []) (ha:a.length=32) (hl:l.length=32) (hq:q≤1048576):
  Calls Tryz.prog 40 #[.pointer (some ⟨w2.heap.size,0,none⟩),.pointer (some ⟨w0.heap.size,0,none⟩),.pointer (some ⟨w0.heap.size+1,0,none⟩),.pointer (some ⟨w0.heap.size+2,0,none⟩)] W λe W'=>e= .returned (.tuple #[])∧Wr W' (λk=>w2.heap.size≤k) w2.heap.size (textV a q l)∧Below w2.heap.size w2 W':=by
 have i1:IntKind.u64.wrap (q:Int)=(q:Int):=IntWalk.u64_in _ (by omega);have P0:=hid h;have SM:=hid (Sr.made [86,79,84,69] W 5 (4,5));have BA:=hid ((Below.refl W.heap.size W).alloc (Nat.le_refl _) (.cells (u8s [86,79,84,69]).toArray 5 (4,5)));clear h
 go_enter Tryz.func40,Tryz.ntmps40
 have kc:=λ(w:World) (C:Array Value) (n c:Nat)=>Lib.run_convert_bytes_const (P:=Tryz.prog) w 25 5 C n c Tryz.underlying25 Tryz.underlying5
 have RW_:=hid (raw_s [86,79,84,69] (some ⟨W.heap.size,0,none⟩) 4 4 P0.out.wr BA.out P0.out.b2.size rfl SM.out (by simp));go_wp2_with fail
 clear kc;refine RW_.out.mono ?_
 rintro e w3 ⟨rfl,x3,b3⟩
 rw[List.nil_append] at x3;have P3:=hid (P0.out.step x3 ((BA.out.mono P0.out.b2.size).trans b3));clear x3 b3 RW_ SM BA P0;have SA:=hid (sr_blkV P3.out.ba);have RW_:=hid (raw_s a (some ⟨w0.heap.size,0,none⟩) 32 32 P3.out.wr (Below.refl _ _) P3.out.b2.size ha SA.out (by simp));go_wp2_with fail
 refine RW_.out.mono ?_
 rintro e w4 ⟨rfl,x4,b4⟩
 have P4:=hid (P3.out.step x4 b4);clear x4 b4 RW_ SA P3;have c1:w4.cell? ⟨w0.heap.size+1,0,none⟩=some (.int .i64 (q:Int)):=P4.out.bp.cell 0;go_wp2_with fail
 refine(num_s q 4 P4.out.wr (Below.refl _ _) P4.out.b2.size (by omega) (by decide) (by decide) (by simp only[List.length_append,ha,List.length_cons,List.length_nil];omega)).mono ?_
 rintro e w5 ⟨rfl,x5,b5⟩
 have P5:=hid (P4.out.step x5 b5);clear x5 b5 P4 c1 i1;have SL:=hid (sr_blkV P5.out.bl);have RW_:=hid (raw_s l (some ⟨w0.heap.size+2,0,none⟩) 32 32 P5.out.wr (Below.refl _ _) P5.out.b2.size hl SL.out (by simp only[List.length_append,ha,beN_length,List.length_cons,List.length_nil];omega));go_wp2_with fail
 refine RW_.out.mono ?_
 rintro e w6 ⟨rfl,x6,b6⟩
 have P6:=hid (P5.out.step x6 b6);clear x6 b6 RW_ SL P5;go_wp2_with fail
 go_end0
 exact⟨rfl,P6.out.wr,P6.out.b2⟩
theorem textV_len {a l:List Nat} {q:Nat} (ha:a.length=32) (hl:l.length=32):(textV a q l).length=72:=by
 unfold textV;simp only[List.length_append,beN_length,ha,hl,List.length_cons,List.length_nil]
theorem new3V (w:World) (o1 o2:Obj) (t:TypeId) (cs:List Value):Blk (((w.alloc o1).alloc o2).alloc (.cells cs.toArray t)) (w.heap.size+2) t cs:=by
 have h:=Blk.new2 (w.alloc o1) o2 t cs
 simpa using h
set_option maxHeartbeats 1000000 in
theorem vText_t (a l:List Nat) (q:Nat) (w:World) (ha:a.length=32) (hl:l.length=32) (hq:q≤1048576):
  Calls Tryz.prog 19 #[.agg (u8s a).toArray,.int .i64 (q:Int),.agg (u8s l).toArray] w λe w'=>∃ u,e= .returned u∧Fresh 5 w w' u (textV a q l):=by
 obtain⟨V,hV⟩:∃ V,((w.alloc (.cells (u8s a).toArray 23)).alloc (.cells #[.int .i64 (q:Int)] 3)).alloc (.cells (u8s l).toArray 23)=V:=⟨_,rfl⟩;have B0:=hid (show Below w.heap.size w V from by rw[←hV];exact(((Below.refl _ _).alloc (Nat.le_refl _) _).alloc (by simp) _).alloc (by simp;omega) _);have VS:=hid (show w.heap.size+2<V.heap.size from by rw[←hV];simp);have BL:=hid (show Blk V w.heap.size 23 (u8s a)∧Blk V (w.heap.size+1) 3 [.int .i64 (q:Int)]∧Blk V (w.heap.size+2) 23 (u8s l) from by
  rw[←hV];exact⟨((Blk.new w 23 (u8s a)).alloc _).alloc _,(Blk.new2 w _ 3 [.int .i64 (q:Int)]).alloc _,new3V w _ _ _ _⟩)
 have CALL:=hid (vText1_t a l q w V _ ⟨Wr.new,BL.out.1.alloc _,BL.out.2.1.alloc _,BL.out.2.2.alloc _,VS.out,(Below.refl _ _).alloc (Nat.le_refl _) _⟩ ha hl hq);have WT:=hid (vWritten_t 40 #[.pointer (some ⟨w.heap.size,0,none⟩),.pointer (some ⟨w.heap.size+1,0,none⟩),.pointer (some ⟨w.heap.size+2,0,none⟩)] (textV a q l) V (enters_of Tryz.func40 (by kernel_rfl) rfl) (by rw[textV_len ha hl];omega) CALL.out);have hmf:∀ (fn:Fn) (first cap:Array Value) (w:World),(Instr.makeFunc fn first cap).run Tryz.prog w= .ok (.func fn first cap) w:=λ_ _ _ _=>rfl
 clear CALL BL VS
 go_enter Tryz.func19,Tryz.ntmps19
 go_wp2_with fail
 clear hV;refine WT.out.mono ?_
 rintro e w2 ⟨u,rfl,fr⟩
 have FR:=hid (show Fresh 5 w w2 u (textV a q l) from⟨own_base fr.1 (λk hk=>Nat.le_trans B0.out.size (fr.1.lt k hk).1),B0.out.trans (fr.2.mono B0.out.size)⟩);clear fr WT;go_wp2_with fail
 go_ret;exact⟨u,rfl,FR.out⟩
theorem load_mid_gdV {P:Program} {ops:Array Oper} {rest:List Oper} {o:Oper} {a:Act} {w:World} {Q:Exit→Act→World→Prop} (D:Nat) (ty:TypeId) (x:Operand) (b off:Nat) (cs:List Value) (d:TypeDesc)
  (_hD:o.dst=some D) (hw:Region.wanted o (yielded ops a.tmps)=true) (ho:o.op= .load ty x) (hc:w.rangeAt b off cs) (hu:P.underlying ty=some d) (hd:d.isRow=true) (hi:(P.info? ty).map (·.size)=some cs.length)
  (hx:a.eval x= .pointer (some ⟨b,off,none⟩)) (h:wpList P ops Q rest (a.put o.dst (.agg cs.toArray)) w):wpList P ops Q (o::rest) a w:=
 BigFrame.wpList_want hw λ_ hK=>wp_load_mid ty x ho b off hx cs d hc hu hd hi (hK _ _ h)
def sameV (x y:Vt):Bool:=(x.p == y.p) && ((x.f == y.f) && (decide (x.l=y.l) && decide (x.s=y.s)))
theorem sameV_iff {x y:Vt} :sameV x y=true↔x=y:=by
 obtain⟨a1,a2,a3,a4⟩:=x;obtain⟨b1,b2,b3,b4⟩:=y;simp only[sameV,Bool.and_eq_true,beq_iff_eq,decide_eq_true_eq,Vt.mk.injEq]
structure VS (w0 W:World) (x y:Vv):Prop where
 a:Blk W w0.heap.size 33 (vv x)
 b:Blk W (w0.heap.size+1) 33 (vv y)
 rx:VvW W x
 ry:VvW W y
 bel:Below w0.heap.size w0 W
theorem VS.new {w:World} {x y:Vv} (hx:VvW w x) (hy:VvW w y):VS w ((w.alloc (.cells (vv x).toArray 33)).alloc (.cells (vv y).toArray 33)) x y:=by
 have b0:Below w.heap.size w ((w.alloc (.cells (vv x).toArray 33)).alloc (.cells (vv y).toArray 33)):=((Below.refl _ _).alloc (Nat.le_refl _) _).alloc (by simp) _;exact⟨(Blk.new w 33 (vv x)).alloc _,Blk.new2 w _ 33 (vv y),hx.below b0,hy.below b0,b0⟩
theorem vv_range {W:World} {g:Nat} {t:TypeId} {x:Vv} (h:Blk W g t (vv x)):W.rangeAt g 2 (u8s x.l):=λj v hv=>by
 have h34:=h.cell (2+j);rw[h34,show 2+j=j+1+1 by omega]
 show(u8s x.l++[Value.slice x.A x.s.length x.c])[j]? =_
 rw[List.getElem?_append_left (List.getElem?_eq_some_iff.1 hv).1];exact hv
set_option maxHeartbeats 1000000 in
theorem vSame_t (x y:Vv) (w:World) (hx:VvW w x) (hy:VvW w y):
  Calls Tryz.prog 11 #[.agg (vv x).toArray,.agg (vv y).toArray] w λe w'=>e= .returned (.bool (sameV x.vt y.vt))∧Below w.heap.size w w':=by
 have S0:=hid (VS.new hx hy);have HM:=hid (show sameV x.vt y.vt=((x.p == y.p) && ((x.f == y.f) && (decide (x.l=y.l) && decide (x.s=y.s)))) from rfl);obtain⟨r,hr⟩:∃ r,sameV x.vt y.vt=r:=⟨_,rfl⟩;rw[hr] at HM ⊢;clear hx hy hr
 go_enter Tryz.func11,Tryz.ntmps11
 go_upto_region 1 with(fail)
 refine world_at (λY=>VS w Y x y) S0.out ?_
 rintro V s1
 have S1:=hid s1;clear s1 S0;obtain⟨c0,c1,c34⟩:=vv_cells S1.out.a S1.out.rx.ll;obtain⟨d0,d1,d34⟩:=vv_cells S1.out.b S1.out.ry.ll
 by_cases p0:x.p=y.p
 ·have ep:(x.p == y.p)=true:=by rw[p0];exact beq_self_eq_true _
  by_cases f0:x.f=y.f
  ·have ef:(x.f == y.f)=true:=by rw[f0];exact beq_self_eq_true _
   have RX:=hid (vv_range S1.out.a);have RY:=hid (vv_range S1.out.b);have ZX:=hid (hash_size x.l S1.out.rx.ll);have ZY:=hid (hash_size y.l S1.out.ry.ll);have el:=eqIn_u8sS 9998 23 32 Tryz.underlying23 x.l y.l S1.out.rx.ll S1.out.ry.ll
   by_cases l0:x.l=y.l
   ·rw[decide_eq_true l0] at el;have BE:=hid (bEqual_t x.s y.s x.A y.A x.s.length y.s.length x.c y.c V rfl rfl S1.out.rx.s S1.out.ry.s S1.out.rx.sb S1.out.ry.sb);obtain⟨sb,hsb⟩:∃ b,decide (x.s=y.s)=b:=⟨_,rfl⟩;rw[hsb] at BE HM;have hr:r=sb:=by rw[HM.out,ep,ef,decide_eq_true l0];rfl
    clear hsb HM l0
    go_wp2_with (first
     |((with_reducible refine load_mid_gdV 19 23 (.tmp 18) w.heap.size 2 (u8s x.l) _ ?_ ?_ rfl ?_ Tryz.underlying23 ?_ ?_ ?_ ?_);exact rfl;kernel_rfl;exact RX.out;exact rfl;exact ZX.out;exact rfl)
     |((with_reducible refine load_mid_gdV 21 23 (.tmp 20) (w.heap.size+1) 2 (u8s y.l) _ ?_ ?_ rfl ?_ Tryz.underlying23 ?_ ?_ ?_ ?_);exact rfl;kernel_rfl;exact RY.out;exact rfl;exact ZY.out;exact rfl))
    refine BE.out.mono ?_
    rintro e w2 ⟨rfl,rfl⟩
    go_wp2_with fail
    go_ret;subst hr;exact⟨rfl,S1.out.bel⟩
   ·rw[decide_eq_false l0] at el;have hr:r=false:=by rw[HM.out,decide_eq_false l0,Bool.false_and,Bool.and_false,Bool.and_false]
    clear HM l0
    go_wp2_with (first
     |((with_reducible refine load_mid_gdV 19 23 (.tmp 18) w.heap.size 2 (u8s x.l) _ ?_ ?_ rfl ?_ Tryz.underlying23 ?_ ?_ ?_ ?_);exact rfl;kernel_rfl;exact RX.out;exact rfl;exact ZX.out;exact rfl)
     |((with_reducible refine load_mid_gdV 21 23 (.tmp 20) (w.heap.size+1) 2 (u8s y.l) _ ?_ ?_ rfl ?_ Tryz.underlying23 ?_ ?_ ?_ ?_);exact rfl;kernel_rfl;exact RY.out;exact rfl;exact ZY.out;exact rfl))
    go_ret;subst hr;exact⟨rfl,S1.out.bel⟩
  ·have ef:(x.f == y.f)=false:=by rw[beq_eq_false_iff_ne];exact f0
   have hr:r=false:=by rw[HM.out,ef,Bool.false_and,Bool.and_false]
   go_wp2_with fail
   go_ret;subst hr;exact⟨rfl,S1.out.bel⟩
 ·have ep:(x.p == y.p)=false:=by rw[beq_eq_false_iff_ne];exact p0
  have hr:r=false:=by rw[HM.out,ep,Bool.false_and]
  go_wp2_with fail
  go_ret;subst hr;exact⟨rfl,S1.out.bel⟩
structure PR9 (w0 W:World) (x:Gv) (v:Value) (l:List Nat):Prop where
 a:Blk W w0.heap.size 27 (gv x)
 ow:W.ownsRow w0.heap.size 5 1 v l.length (u8s l)
 bel:Below w0.heap.size w0 W
theorem PR9.below {w0 W W':World} {x:Gv} {v:Value} {l:List Nat} (h:PR9 w0 W x v l) (hb:Below W.heap.size W W'):PR9 w0 W' x v l:=⟨h.a.below hb h.a.lt,own_below h.ow hb,h.bel.trans (hb.mono h.bel.size)⟩
theorem PR9.grow {w0 W W':World} {x:Gv} {v v':Value} {l ys:List Nat} {m:Nat} (h:PR9 w0 W x v l) (hm:ys.length=m) (a1:W'.ownsRow w0.heap.size 5 1 v' (l.length+m) (u8s (l++ys))) (a2:W.grownBy W' v.ownBlock):PR9 w0 W' x v' (l++ys):=
 ⟨(a2.block _ h.a.lt (λq=>own_apart h.ow h.a (by decide) q.symm)).trans h.a,by rw[List.length_append,hm];exact a1,h.bel.grown a2 h.bel.size λk e=>(h.ow.lt k e).1⟩
theorem beN_one (n:Nat) (h:n<256):beN n 1=[n]:=by
 unfold beN;simp;omega
set_option maxHeartbeats 1000000 in
theorem gPutR_t (x:Gv) (w:World) (h:GvW w x) (hm:begB x=true):
  Calls Tryz.prog 37 #[.agg (gv x).toArray] w λe w'=>∃ u,e= .returned u∧Fresh 5 w w' u (pg x):=by
 have m:=begB_h hm;obtain⟨a,ha⟩:∃ a:Nat,x.f=(a:Int):=⟨x.f.toNat,by have:=m.f0;omega⟩;obtain⟨b,hb⟩:∃ a:Nat,x.rd=(a:Int):=⟨x.rd.toNat,by have:=m.r0;omega⟩;obtain⟨k,hk⟩:∃ a:Nat,x.wr=(a:Int):=⟨x.wr.toNat,by have:=m.w0;omega⟩;obtain⟨n,hn⟩:∃ n,x.ks.length=n:=⟨_,rfl⟩;obtain⟨kp,hkp⟩:∃ n,x.kp=n:=⟨_,rfl⟩;have a9:a≤2:=by have:=m.f2;omega
 have b9:b≤15:=by have:=m.r1;omega
 have k9:k≤15:=by have:=m.w1;omega
 have n9:n≤7:=by have:=m.n;omega
 have KL:=hid (λ(y:Ky) (hy:y∈x.ks)=>formN_len (m.k y hy));have E:=hid (show pg x=[a,b,k]++(x.ks.map (·.X)).flatten++txtN x.st from by
  unfold pg putG;rw[ha,hb,hk];simp only[Int.toNat_natCast,beN_one a (by omega),beN_one b (by omega),beN_one k (by omega)];simp only[List.cons_append,List.nil_append])
 obtain⟨xs,hxs⟩:∃ l,pg x=l:=⟨_,rfl⟩;rw[hxs] at E ⊢;have RC:=hid (λ(W:World) (hb:Blk W w.heap.size 27 (gv x))=>gv_cells hb);rw[ha,hb,hk,hn,hkp] at RC;have i1:IntKind.u8.wrap (a:Int)=(a:Int):=IntWalk.u8_in _ (by omega);have i2:IntKind.u8.wrap (b:Int)=(b:Int):=IntWalk.u8_in _ (by omega);have i3:IntKind.u8.wrap (k:Int)=(k:Int):=IntWalk.u8_in _ (by omega);have HN:=hid hn;have HKP:=hid hkp;have HX:=hid h;have P0:=hid (show PR9 w ((w.alloc (.cells (gv x).toArray 27)).alloc (.cells #[.int .u8 (a:Int),.int .u8 (b:Int),.int .u8 (k:Int)] 5)) x (.slice (some ⟨(w.alloc (.cells (gv x).toArray 27)).heap.size,0,none⟩) 3 3) [a,b,k] from by
  have g0:=GB9.new h;have bz:Below (w.alloc (.cells (gv x).toArray 27)).heap.size (w.alloc (.cells (gv x).toArray 27)) ((w.alloc (.cells (gv x).toArray 27)).alloc (.cells #[.int .u8 (a:Int),.int .u8 (b:Int),.int .u8 (k:Int)] 5)):=(Below.refl _ _).alloc (Nat.le_refl _) _;exact⟨g0.a.below bz g0.a.lt,World.ownsRow_lit (w.alloc (.cells (gv x).toArray 27)) (e:=5) (size:=1) (base:=w.heap.size) #[.int .u8 (a:Int),.int .u8 (b:Int),.int .u8 (k:Int)] 3 g0.bel.size (by decide) rfl,g0.bel.trans (bz.mono g0.bel.size)⟩)
 have c:=RC.out _ (GB9.new h).a;obtain⟨c0,c1,c2,_,_⟩:=c;clear h hm m ha hb hk hn hkp hxs
 go_enter Tryz.func37,Tryz.ntmps37
 go_upto_region 2 with(fail)
 clear c0 c1 c2 i1 i2 i3;refine world_at (λY=>PR9 w Y x (.slice (some ⟨w.heap.size+1,0,none⟩) 3 3) [a,b,k]) (by have h:=P0.out;simpa using h) ?_
 rintro Y p1
 have P1:=hid p1;clear p1 P0 a9 b9 k9;obtain⟨pre,hpre⟩:∃ l,[a,b,k]=l:=⟨_,rfl⟩;have LP:=hid (show pre.length=3 from by rw[←hpre];rfl);rw[hpre] at P1 E;clear hpre;go_wp2_with fail
 go_loopw [3,4] (λv t wr=>∃ j:Nat,j≤n∧t= .int .i64 (j:Int)∧PR9 w wr x v (pre++((x.ks.take j).map (·.X)).flatten)) (λ_ t _=>n- (intOf t).toNat)
 case atStart=>exact⟨0,by omega,rfl,by rw[List.take_zero,List.map_nil,List.flatten_nil,List.append_nil];exact P1.out⟩
 case round=>
  clear P1;obtain⟨j,hj,rfl,pj⟩:=hrel;have PJ:=hid pj;clear pj;have LJ:=hid (show(pre++((x.ks.take j).map (·.X)).flatten).length≤3+56 * 7 from by
   have h1:=flatten_le (C:=56) (l:=x.ks.take j) (λy hy=>Nat.le_of_eq (KL.out y (List.mem_of_mem_take hy)));have h2:(x.ks.take j).length≤7:=by rw[List.length_take];omega
   rw[List.length_append,LP.out];omega)
  obtain⟨_,_,_,c3,c4⟩:=RC.out _ PJ.out.a
  by_cases hlt:j<n
  ·obtain⟨y,hy⟩:∃ y,x.ks[j]? =some y:=⟨_,List.getElem?_eq_getElem (by rw[HN.out];exact hlt)⟩;obtain⟨bq,o,hpe,hbl,rg⟩:=(HX.out.below PJ.out.bel).ks j y hy;obtain rfl:kp=some ⟨bq,o,none⟩:=HKP.out.symm.trans hpe;have c1:wr.cell? ⟨bq,o+j,none⟩=some (.slice y.A y.X.length y.c):=by have:=rg 0 _ rfl;rw[Nat.mul_one,Nat.add_zero] at this;exact this
   have j1:(j:Int)< (n:Int):=by omega
   have HY:=hid hy;have HM:=List.mem_of_getElem? hy;have SK:=hid ((HX.out.k y HM).below PJ.out.bel);have L63:=hid (show(pre++((x.ks.take j).map (·.X)).flatten).length+y.X.length≤70368744177664 from by have h1:=LJ.out;have h2:=KL.out y HM;omega);clear rg hpe hbl hy HM c4
   go_wp2_with ((with_reducible refine at_op (.call { callee:= .builtin .append,args:= #[.tmp 22,.tmp 27],argTypes:= #[25,25] }) rfl ?_);go_must (refine append_bytes (.tmp 22) (.tmp 27) 25 rfl rfl 5 Tryz.underlying25 byte_info w.heap.size _ _ _ y.X rfl PJ.out.ow y.A y.X.length y.c rfl rfl SK.out L63.out PJ.out.bel.size ?_);intro v3 w11 a1 a2 a3)
   have P7:=hid (PJ.out.grow rfl a1.out a2.out);clear a1 a2 a3 PJ SK c1 c3;go_wp2_with fail
   go_roundw
   case rel=>exact⟨j+1,by omega,by go_num,by rw[flatten_snoc HY.out,←List.append_assoc];exact P7.out⟩
   case measure=>simp[intOf];omega
  ·obtain rfl:j=n:=by omega
   clear hlt;rw[List.take_of_length_le (by rw[HN.out];exact Nat.le_refl _)] at PJ LJ;have TX:=hid (reftext_t x.st x.sp x.st.length x.sc wr rfl (HX.out.st.below PJ.out.bel) (by have:=HX.out.sl;omega));go_wp2_with fail
   refine TX.out.mono ?_
   rintro e w8 ⟨u,rfl,fr⟩
   obtain⟨A8,c8,rfl,hc8,s8,b8⟩:=fresh_opO fr;have P8:=hid (PJ.out.below b8);have S8:=hid s8;have L63:=hid (show(pre++(x.ks.map (·.X)).flatten).length+(txtN x.st).length≤70368744177664 from by have h1:=LJ.out;have h2:=HX.out.sl;rw[show(txtN x.st).length=4+x.st.length by unfold txtN;rw[List.length_append,beN_length]];omega);clear fr hc8 s8 b8 PJ TX c3 c4
   go_wp2_with ((with_reducible refine at_op (.call { callee:= .builtin .append,args:= #[.tmp 29,.tmp 32],argTypes:= #[25,25] }) rfl ?_);go_must (refine append_bytes (.tmp 29) (.tmp 32) 25 rfl rfl 5 Tryz.underlying25 byte_info w.heap.size _ _ _ (txtN x.st) rfl P8.out.ow A8 (txtN x.st).length c8 rfl rfl S8.out L63.out P8.out.bel.size ?_);intro v3 w11 a1 a2 a3)
   have P9:=hid (P8.out.grow rfl a1.out a2.out);rw[←E.out] at P9;clear a1 a2 a3 P8 S8;go_wp2_with fail
   go_ret;exact⟨_,rfl,P9.out.ow,P9.out.bel⟩
def anL:List Nat:=[71,69,78,69]
theorem anL_eq:bs anM=anL:=by decide+kernel
theorem anL_bytes:Bytes anL:=sl_bytes (by decide)
theorem pg_leN {x:Gv} {N:Nat} (hm:begB x=true) (hs:x.st.length≤N):(pg x).length≤N+400:=by
 have m:=begB_h hm;have h1:=flatten_le (C:=56) (l:=x.ks) λy hy=>Nat.le_of_eq (formN_len (m.k y hy))
 have h2:=m.n;have h3:=m.f2;unfold pg putG;simp only[List.length_append,beN_length,txtN];omega
set_option maxHeartbeats 1000000 in
theorem gAnchorR_yes (x:Gv) (w:World) (h:GvW w x) (hc:GvC x) (hm:begB x=true) (hs:x.st.length≤900000):
  Calls Tryz.prog 17 #[.agg (gv x).toArray] w λe w'=>e= .returned (.agg (u8s (anE x)).toArray)∧Below w.heap.size w w':=by
 have S0:=hid (HG9.new h);have HC:=hid hc;have FG:=hid (gv_size x);have HM:=hid hm;have PL:=hid (pg_leN hm hs);have PB:=hid (pg_bytes h.kb h.sb);clear h hc hm hs;obtain⟨S,hS⟩:∃ S,anE x=S:=⟨_,rfl⟩;have HSL:=hid (show S.length=32 from by rw[←hS];rfl);have HSS:=hid (show sum (anL++pg x)=S from by rw[←hS,←anL_eq];rfl);rw[hS];clear hS
 go_enter Tryz.func17,Tryz.ntmps17
 go_upto_region 1 with(fail)
 refine world_at (λY=>HG9 w Y x zH) S0.out ?_
 rintro V s1
 have S1:=hid s1;clear s1 S0;have MT:=hid (gMayR_t x V S1.out.gb.rx HC.out);rw[HM.out] at MT;have GA:=hid S1.out.gb.a
 go_wp2_with ((with_reducible refine load_blk 27 (.tmp 1) w.heap.size 27 (gv x) _ rfl rfl ?_ Tryz.underlying27 ?_ ?_ ?_ ?_);exact GA.out;exact rfl;exact FG.out;exact rfl)
 refine MT.out.mono ?_
 rintro e w1 ⟨rfl,b1⟩
 have S2:=hid (S1.out.below b1);clear S1 MT b1 GA;have S4:=hid (sr_frz anL w1 [] 5 (4,5));have BA:=hid (show Below w1.heap.size w1 (w1.alloc (.cells (u8s anL).toArray 5 (4,5))) from(Below.refl _ _).alloc (Nat.le_refl _) _);rw[List.append_nil] at S4;have S3:=hid (S2.out.below BA.out);have PT:=hid (gPutR_t x _ S3.out.gb.rx HM.out);have GA:=hid S3.out.gb.a;have kc:=λ(w:World) (C:Array Value) (n c:Nat)=>Lib.run_convert_bytes_const (P:=Tryz.prog) w 25 5 C n c Tryz.underlying25 Tryz.underlying5
 clear S2 BA
 go_wp2_with ((with_reducible refine load_blk 27 (.tmp 1) w.heap.size 27 (gv x) _ rfl rfl ?_ Tryz.underlying27 ?_ ?_ ?_ ?_);exact GA.out;exact rfl;exact FG.out;exact rfl)
 clear kc;refine PT.out.mono ?_
 rintro e w2 ⟨u,rfl,fr⟩
 obtain⟨A,c,rfl,_,s2,b2⟩:=fresh_opO fr;have S5:=hid (S3.out.below b2);have SP:=hid s2;have SA:=hid (S4.out.below b2);obtain⟨xs,hxs⟩:∃ l,pg x=l:=⟨_,rfl⟩;rw[hxs] at PL PB HSS SP ⊢;obtain⟨ga,hga⟩:∃ g,w1.heap.size=g:=⟨_,rfl⟩;rw[hga] at SA ⊢;clear fr s2 b2 S3 S4 PT GA hxs hga;have E:=hid (show catO [⟨some ⟨ga,0,none⟩,4,anL⟩,⟨A,c,xs⟩]=anL++xs by simp[catO]);have BP:=hid (Blk.new w2 25 (partsO [⟨some ⟨ga,0,none⟩,4,anL⟩,⟨A,c,xs⟩]));have BW:=hid (show Below w2.heap.size w2 (w2.alloc (.cells (partsO [⟨some ⟨ga,0,none⟩,4,anL⟩,⟨A,c,xs⟩]).toArray 25)) from(Below.refl _ _).alloc (Nat.le_refl _) _);have CT:=hid (catO_t [⟨some ⟨ga,0,none⟩,4,anL⟩,⟨A,c,xs⟩] w2.heap.size 2 2 25 _ rfl BP.out (λx hx=>by
  simp only[List.mem_cons,List.not_mem_nil,or_false] at hx;rcases hx with rfl |rfl
  ·exact SA.out.below BW.out
  ·exact SP.out.below BW.out) (by rw[E.out,List.length_append];have:=PL.out;show 4+xs.length≤_;omega) (by decide))
 have S6:=hid (S5.out.below BW.out);go_wp2_with fail
 refine CT.out.mono ?_
 rintro e w4 ⟨u,rfl,fr⟩
 rw[E.out] at fr;have YB:=hid (app_bytes anL_bytes PB.out);have YL:=hid (show(anL++xs).length≤100000000 by rw[List.length_append];have:=PL.out;show 4+xs.length≤_;omega);obtain⟨ys,hys⟩:∃ l,anL++xs=l:=⟨_,rfl⟩;rw[hys] at fr YB YL HSS;clear hys;obtain⟨A4,c4,rfl,_,s4,b4⟩:=fresh_opO fr;have S7:=hid (S6.out.below b4);have R4:=hid s4;clear fr s4 b4 S5 S6 CT BW BP E SA SP PL PB;have US:=hid (refsum_t ys A4 ys.length c4 w4 rfl R4.out YB.out YL.out);rw[HSS.out] at US;go_wp2_with fail
 refine US.out.mono ?_
 rintro e w5 ⟨rfl,b5⟩
 have S8:=hid (S7.out.below b5);clear S7 US b5 R4;have RES:=hid S8.out.res;have RZ:=hid (S8.out.res.setRow (u8s S));have BF:=hid (below_setRow S8.out.gb.bel (g:=w.heap.size+1) (by omega) (u8s S).toArray);have FZ:=hid (hash_size S HSL.out);have HZL:=hid (show(u8s zH).length=(u8s S).length by rw[u8s_length,u8s_length,HSL.out];rfl)
 go_wp2_with ((with_reducible refine at_op (.store 23 (.tmp 2) (.tmp 13)) rfl ?_);go_must (refine store_blk 23 (.tmp 2) (.tmp 13) (w.heap.size+1) 23 (u8s zH) (u8s S) rfl rfl RES.out HZL.out FZ.out (u8s_oneD _) rfl rfl ?_))
 exact ret_blk (p:=2) (ty:=23) rfl rfl (w.heap.size+1) 23 _ _ rfl RZ.out Tryz.underlying23 rfl FZ.out ⟨rfl,BF.out⟩
end Go.Proofs.YtjlophplcmidlaaGreatDoor
