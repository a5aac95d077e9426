/-
  THE REFERENCE OF CHAPTER 9
-/
import Derived.Test.YtjlophplcmidlaaGreatDoorAd26
import Derived.Test.YtjlophplcmidlaaGreatDoorAd18
open Go.Lib (hid)
set_option maxRecDepth 100000
namespace Go.Proofs.YtjlophplcmidlaaGreatDoor
open Go Go.RowKit Sh
structure GQ9 (w0 W:World) (g:Nat) (zs:List Nat) (bad:Bool):Prop where
 rd:Rr w0 W g zs bad
 res:Blk W w0.heap.size 80 (sv (gsp 0 0 0))
 ng:w0.heap.size<g
theorem GQ9.read {w0 W W':World} {g:Nat} {zs zs':List Nat} {bad bad':Bool} (h:GQ9 w0 W g zs bad) (hk:Kept (λk=>k=g) W W') (hr:Rr w0 W' g zs' bad'):GQ9 w0 W' g zs' bad':=
 ⟨hr,h.res.kept hk (by have:=h.ng;omega),h.ng⟩
theorem GQ9.below {w0 W W':World} {g:Nat} {zs:List Nat} {bad:Bool} (h:GQ9 w0 W g zs bad) (hb:Below W.heap.size W W'):GQ9 w0 W' g zs bad:=
 ⟨h.rd.below hb,h.res.below hb h.res.lt,h.ng⟩
theorem ys_gsp (B:Nat) (W:World) (a b c:Int):YS B W (gsp a b c):=by
 refine⟨World.ownsRow_nil _ _ _ _,(λy hy=>by cases hy),World.ownsRow_nil _ _ _ _,(λy hy=>by cases hy),rfl,λy hy=>?_,Nat.zero_le _,Nat.zero_le _⟩;simp only[gsp,List.mem_cons,List.not_mem_nil,or_false] at hy;rcases hy with rfl |rfl |rfl |rfl<;>exact⟨⟨λj hj=>absurd hj (Nat.not_lt_zero j),Nat.zero_le _⟩,NF.no _ _⟩
theorem built_gn (a:Int):Tryz.prog.built 80 [(0,.int .i64 a)]=some (sv (gsp a 0 0)).toArray:=by kernel_rfl
theorem built_i9 (a:Int):Tryz.prog.built 133 [(0,.int .i64 a)]=some #[.int .i64 a,.int .i64 0,.slice none 0 0]:=by kernel_rfl
theorem built_w9 (a:Int):Tryz.prog.built 136 [(0,.int .i64 a)]=some #[.int .i64 a,.int .i64 0,.bool false,.slice none 0 0]:=by kernel_rfl
theorem built_l9 (a b:Int):Tryz.prog.built 77 [(0,.int .i64 a),(1,.int .i64 b)]=some #[.int .i64 a,.int .i64 b,.int .i64 0,.slice none 0 0,.bool false]:=by kernel_rfl
structure StH9 (xs:List Nat) (nw:Int) (v2 v3 v4 v6:Nat) (l5:List It) (l7:List Wt) (l8:List Rp) (s1 s2 s3 s4 s5 s6 s7 s8:Src):Prop where
 e1:hNm (sSrc xs)=(nw,s1)
 e2:gNum s1 1=(v2,s2)
 e3:gNum s2 1=(v3,s3)
 e4:gNum s3 1=(v4,s4)
 e5:hRow hIt s4 v4=(l5,s5)
 e6:gNum s5 1=(v6,s6)
 e7:hRow hWt s6 v6=(l7,s7)
 e8:hLas s7 4=(l8,s8)
 b1:Bytes s1.xs
 b2:Bytes s2.xs
 b3:Bytes s3.xs
 b4:Bytes s4.xs
 b5:Bytes s5.xs
 b6:Bytes s6.xs
 b7:Bytes s7.xs
 n4:s4.xs.length≤xs.length
 n6:s6.xs.length≤xs.length
 n7:s7.xs.length≤xs.length
 k2:v2<256
 k3:v3<256
 k4:v4<256
 k6:v6<256
 c5:l5.length<256
 c7:l7.length<256
 got:gotH xs=⟨nw,l5,l7,v2,v3,l8⟩
 ok:okH xs=(decide (endN s8.xs s8.bad=0) && spMay (gotH xs))
theorem stH9 (xs:List Nat) (hb:Bytes xs):∃ nw v2 v3 v4 v6 l5 l7 l8 s1 s2 s3 s4 s5 s6 s7 s8,StH9 xs nw v2 v3 v4 v6 l5 l7 l8 s1 s2 s3 s4 s5 s6 s7 s8:=by
 obtain⟨⟨nw,u1⟩,E1⟩:∃ r,hNm (sSrc xs)=r:=⟨_,rfl⟩;obtain⟨⟨v2,u2⟩,E2⟩:∃ r,gNum u1 1=r:=⟨_,rfl⟩;obtain⟨⟨v3,u3⟩,E3⟩:∃ r,gNum u2 1=r:=⟨_,rfl⟩;obtain⟨⟨v4,u4⟩,E4⟩:∃ r,gNum u3 1=r:=⟨_,rfl⟩;obtain⟨⟨l5,u5⟩,E5⟩:∃ r,hRow hIt u4 v4=r:=⟨_,rfl⟩;obtain⟨⟨v6,u6⟩,E6⟩:∃ r,gNum u5 1=r:=⟨_,rfl⟩;obtain⟨⟨l7,u7⟩,E7⟩:∃ r,hRow hWt u6 v6=r:=⟨_,rfl⟩;obtain⟨⟨l8,u8⟩,E8⟩:∃ r,hLas u7 4=r:=⟨_,rfl⟩;have F1:hS1 xs=(nw,u1):=E1;have F2:hS2 xs=(v2,u2):=by unfold hS2;rw[F1];exact E2
 have F3:hS3 xs=(v3,u3):=by unfold hS3;rw[F2];exact E3
 have F4:hS4 xs=(v4,u4):=by unfold hS4;rw[F3];exact E4
 have F5:hS5 xs=(l5,u5):=by unfold hS5;rw[F4];exact E5
 have F6:hS6 xs=(v6,u6):=by unfold hS6;rw[F5];exact E6
 have F7:hS7 xs=(l7,u7):=by unfold hS7;rw[F6];exact E7
 have F8:hS8 xs=(l8,u8):=by unfold hS8;rw[F7];exact E8
 have b1:Bytes u1.xs∧u1.xs.length≤xs.length:=by have:=hNm_bytes (s:=sSrc xs) hb;rw[E1] at this;exact this
 have b2:Bytes u2.xs:=by have:=gNum_bytes 1 b1.1;rwa [E2] at this
 have b3:Bytes u3.xs:=by have:=gNum_bytes 1 b2;rwa [E3] at this
 have b4:Bytes u4.xs:=by have:=gNum_bytes 1 b3;rwa [E4] at this
 have b5:Bytes u5.xs∧u5.xs.length≤u4.xs.length:=by have:=hRow_bytes (g:=hIt) (λh=>hIt_bytes h) b4 v4;rwa [E5] at this
 have b6:Bytes u6.xs:=by have:=gNum_bytes 1 b5.1;rwa [E6] at this
 have b7:Bytes u7.xs∧u7.xs.length≤u6.xs.length:=by have:=hRow_bytes (g:=hWt) (λh=>hWt_bytes h) b6 v6;rwa [E7] at this
 have n2:u2.xs.length≤u1.xs.length:=by have:=gNum_len u1 1;rwa [E2] at this
 have n3:u3.xs.length≤u2.xs.length:=by have:=gNum_len u2 1;rwa [E3] at this
 have n4:u4.xs.length≤u3.xs.length:=by have:=gNum_len u3 1;rwa [E4] at this
 have n6:u6.xs.length≤u5.xs.length:=by have:=gNum_len u5 1;rwa [E6] at this
 have k2:v2<256:=by have:=gNum_lt (n:=1) b1.1;rwa [E2] at this
 have k3:v3<256:=by have:=gNum_lt (n:=1) b2;rwa [E3] at this
 have k4:v4<256:=by have:=gNum_lt (n:=1) b3;rwa [E4] at this
 have k6:v6<256:=by have:=gNum_lt (n:=1) b5.1;rwa [E6] at this
 have c5:l5.length≤v4:=by have:=hRow_len hIt u4 v4;rwa [E5] at this
 have c7:l7.length≤v6:=by have:=hRow_len hWt u6 v6;rwa [E7] at this
 have q1:=b1.2;have q5:=b5.2;have q7:=b7.2;exact⟨nw,v2,v3,v4,v6,l5,l7,l8,u1,u2,u3,u4,u5,u6,u7,u8,E1,E2,E3,E4,E5,E6,E7,E8,b1.1,b2,b3,b4,b5.1,b6,b7.1,by omega,by omega,by omega,k2,k3,k4,k6,by omega,by omega,by unfold gotH;rw[F1,F2,F3,F5,F7,F8],by unfold okH;rw[F8]⟩
set_option maxHeartbeats 4000000 in
theorem refGetS_t (xs:List Nat) (p:Option Addr) (m c:Nat) (w:World) (hx:xs.length=m) (hc:m≤c) (hp:Sr w p xs) (hb:Bytes xs) (hl:m≤1000000):
  Calls Tryz.prog 55 #[.slice p m c] w λe W'=>Below w.heap.size w W'∧((okS xs=false∧e= .returned (.tuple #[.agg (sv (gsp 0 0 0)).toArray,.int .i64 2]))∨(okS xs=true∧∃ y:Spv,y.sp=gotS xs∧e= .returned (.tuple #[.agg (sv y).toArray,.int .i64 0])∧YS w.heap.size W' y)):=by
 subst hx;obtain⟨nw,v2,v3,v4,v6,l5,l7,l8,s1,s2,s3,s4,s5,s6,s7,s8,st⟩:=stH9 xs hb;obtain⟨oke,gote⟩:=okH_eq xs hb;have ST:=hid st;have i2:IntKind.i64.wrap (v2:Int)=(v2:Int):=IntWalk.i64_in _ (by have:=st.k2;omega);have i3:IntKind.i64.wrap (v3:Int)=(v3:Int):=IntWalk.i64_in _ (by have:=st.k3;omega);have i4:IntKind.i64.wrap (v4:Int)=(v4:Int):=IntWalk.i64_in _ (by have:=st.k4;omega);have i6:IntKind.i64.wrap (v6:Int)=(v6:Int):=IntWalk.i64_in _ (by have:=st.k6;omega);obtain⟨ok,hok⟩:∃ z,okS xs=z:=⟨_,rfl⟩;obtain⟨sp0,hsp⟩:∃ z,gotH xs=z:=⟨_,rfl⟩;obtain⟨sp1,hsp1⟩:∃ z,gotS xs=z:=⟨_,rfl⟩;have OKD:=hid (show ok=(decide (endN s8.xs s8.bad=0) && spMay sp0) from by rw[←hok,←oke,←hsp];exact st.ok);have GOT:=hid (show sp0=⟨nw,l5,l7,v2,v3,l8⟩ from by rw[←hsp];exact st.got);have GE:=hid (show ok=true→sp0=sp1 from by rw[←hok,←hsp,←hsp1];exact gote);rw[hok,hsp1];have HP:=hid hp;have HC:=hid hc;have HB:=hid hb;have HXL:=hid hl;have BR:=built_R p xs.length c;have BS:=built_gn nw;clear hp hc hb hl st oke gote hok hsp hsp1
 go_enter Tryz.func55,Tryz.ntmps55
 go_upto_region 2 with(fail)
 obtain⟨g,hg⟩:∃ g,w.heap.size+1=g:=⟨_,rfl⟩;refine world_at (λY=>GQ9 w Y g (sSrc xs).xs (sSrc xs).bad) (by
  have b0:=(Below.refl w.heap.size w).alloc (Nat.le_refl _) (.cells (sv (gsp 0 0 0)).toArray 80);have b1:=b0.alloc b0.size (.cells #[.slice p xs.length c,.bool false] 130);rw[←hg];exact⟨⟨⟨p,c,Blk.new2 w (.cells (sv (gsp 0 0 0)).toArray 80) _ [.slice p xs.length c,.bool false],HC.out,HP.out⟩,(λe=>by cases e),b1,by omega⟩,(Blk.new w 80 (sv (gsp 0 0 0))).alloc _,by omega⟩) ?_
 rintro Y qy
 first |rw[hg] |skip
 have Q0:=hid qy;clear qy HP HC BR;go_wp2_with fail
 refine(hnm_t g (sSrc xs) w Y Q0.out.rd HB.out).mono ?_;rw[ST.out.e1]
 rintro e w1 ⟨rfl,x1,k1⟩
 have Q1:=hid (Q0.out.read k1 x1);clear x1 k1 Q0;have W0:=(ys_gsp w.heap.size w1 nw 0 0).w;obtain⟨x0,hx0⟩:∃ x:Spv,gsp nw 0 0=x:=⟨_,rfl⟩;rw[hx0] at W0;have Y0:=hid (λ(W:World)=>show YS w.heap.size W x0 from by rw[←hx0];exact ys_gsp _ _ _ _ _);have FX_x0:=hid (sv_size x0 W0.l4);have FO_x0:=hid (sv_one x0);have SL_x0:=hid (sv_len x0 W0.l4);have Z_x0:=hid (Blk.new w1 80 [.int .i64 0,.slice none 0 0,.slice none 0 0,.int .i64 0,.int .i64 0,.int .i64 0,.int .i64 0,.int .i64 0,.slice none 0 0,.bool false,.int .i64 0,.int .i64 0,.int .i64 0,.slice none 0 0,.bool false,.int .i64 0,.int .i64 0,.int .i64 0,.slice none 0 0,.bool false,.int .i64 0,.int .i64 0,.int .i64 0,.slice none 0 0,.bool false]);have KN_x0:=hid (KSp.new (w1:=w1) (x:=x0) W0)
 go_upto_region 3 with((with_reducible refine at_op (.store 80 (.tmp 5) (.tmp 18)) rfl ?_);go_must (refine store_blk 80 (.tmp 5) (.tmp 18) w1.heap.size 80 _ (sv x0) rfl rfl Z_x0.out SL_x0.out.symm FX_x0.out FO_x0.out rfl (by rw[←hx0];rfl) ?_))
 obtain⟨V1,hV1⟩:∃ V,((w1).alloc (.cells #[.int .i64 0,.slice none 0 0,.slice none 0 0,.int .i64 0,.int .i64 0,.int .i64 0,.int .i64 0,.int .i64 0,.slice none 0 0,.bool false,.int .i64 0,.int .i64 0,.int .i64 0,.slice none 0 0,.bool false,.int .i64 0,.int .i64 0,.int .i64 0,.slice none 0 0,.bool false,.int .i64 0,.int .i64 0,.int .i64 0,.slice none 0 0,.bool false] 80)).setRow (w1).heap.size (sv x0).toArray=V:=⟨_,rfl⟩;rw[hV1] at KN_x0 ⊢;have K_x0:=hid KN_x0.out.1;have B_x0:=hid KN_x0.out.2;clear hV1 KN_x0 Z_x0 FO_x0 SL_x0;obtain⟨gx,hgx⟩:∃ g,w1.heap.size=g:=⟨_,rfl⟩;rw[hgx] at K_x0 ⊢;have P0:=hid (show GP9 w V1 g gx s1.xs s1.bad x0 from by
  have q:=Q1.out.below B_x0.out;exact⟨q.rd,q.res,K_x0.out.box,by rw[←hgx];exact Q1.out.res.lt,q.ng,Y0.out _⟩)
 have P0:=hid (show GP9 w V1 g gx s1.xs s1.bad (gsp nw 0 0) from by rw[hx0];exact P0.out);clear hx0 hgx K_x0 B_x0 FX_x0 Q1 Y0 W0 BS;go_wp2_with fail
 refine(hgnum_t g s1 1 w V1 P0.out.rd ST.out.b1 (by decide) (by decide)).mono ?_;rw[ST.out.e2]
 rintro e w2 ⟨rfl,x_,k_⟩
 have P1:=hid (P0.out.read k_ x_);clear x_ k_;have fz:=P1.out.bx.frozen 3;have ct:w2.cell? ⟨gx,3,none⟩=some (.int .i64 0):=(sv_cells P1.out.bx).2.2.2.1;have P2:=hid (P1.out.put (x':=gsp nw v2 0) (Kept.setCell (F:=λk=>k=gx) (Kept.refl _ _) (p:=⟨gx,3,none⟩) (.inl rfl) _) (P1.out.bx.store 3 (.int .i64 (v2:Int))) (ys_gsp _ _ _ _ _));clear P0
 go_upto_region 4 with(fail)
 clear fz ct P1;obtain⟨V2,hV2⟩:∃ V,w2.setCell ⟨gx,3,none⟩ (.int .i64 (v2:Int))=V:=⟨_,rfl⟩;rw[hV2] at P2 ⊢;clear hV2;go_wp2_with fail
 refine(hgnum_t g s2 1 w V2 P2.out.rd ST.out.b2 (by decide) (by decide)).mono ?_;rw[ST.out.e3]
 rintro e w3 ⟨rfl,x_,k_⟩
 have P3:=hid (P2.out.read k_ x_);clear x_ k_;have fz:=P3.out.bx.frozen 4;have ct:w3.cell? ⟨gx,4,none⟩=some (.int .i64 0):=(sv_cells P3.out.bx).2.2.2.2;have P4:=hid (P3.out.put (x':=gsp nw v2 v3) (Kept.setCell (F:=λk=>k=gx) (Kept.refl _ _) (p:=⟨gx,4,none⟩) (.inl rfl) _) (P3.out.bx.store 4 (.int .i64 (v3:Int))) (ys_gsp _ _ _ _ _));clear P2
 go_upto_region 5 with(fail)
 clear fz ct P3;obtain⟨V3,hV3⟩:∃ V,w3.setCell ⟨gx,4,none⟩ (.int .i64 (v3:Int))=V:=⟨_,rfl⟩;rw[hV3] at P4 ⊢;clear hV3;go_wp2_with fail
 refine(hgnum_t g s3 1 w V3 P4.out.rd ST.out.b3 (by decide) (by decide)).mono ?_;rw[ST.out.e4]
 rintro e w4 ⟨rfl,x_,k_⟩
 have P5:=hid (P4.out.read k_ x_);clear x_ k_;clear P4;go_wp2_with fail
 have HX4:=hid (λj=>hRow_bytes (g:=hIt) (λh=>hIt_bytes h) ST.out.b4 j)
 go_loopw [7] (λt wr=>∃ (j:Nat) (x:Spv),j≤v4∧t= .int .i64 (j:Int)∧GP9 w wr g gx (hRow hIt s4 j).2.xs (hRow hIt s4 j).2.bad x∧x.sp=⟨nw,(hRow hIt s4 j).1,[],v2,v3,[zrp.r,zrp.r,zrp.r,zrp.r]⟩) (λt _=>v4- (intOf t).toNat)
 case atStart=>exact⟨0,gsp nw v2 v3,Nat.zero_le _,rfl,P5.out,rfl⟩
 case round=>
  clear P5;obtain⟨j,x,hj,rfl,gp,hsp⟩:=hrel;have G0:=hid gp;have HSP:=hid hsp;have HJ:=hid hj;have HNX:=hid (show hRow hIt s4 (j+1)=if (hRow hIt s4 j).2.bad then hRow hIt s4 j else((hRow hIt s4 j).1 ++[(hIt (hRow hIt s4 j).2).1],(hIt (hRow hIt s4 j).2).2) from rfl);have HST:=hid (λ(hb:(hRow hIt s4 j).2.bad=true) (i:Nat)=>hRow_stop hb i);have HLN:=hid (show x.its.length≤j from by
   have h:=congrArg (λs=>s.its.length) hsp;have h2:=hRow_len hIt s4 j;simp only[Spv.sp,List.length_map] at h;omega)
  have HUB:=hid (HX4.out j);clear gp hsp hj;obtain⟨⟨l,u⟩,hu⟩:∃ r,hRow hIt s4 j=r:=⟨_,rfl⟩;rw[hu] at G0 HSP HNX HST HUB
  dsimp only at G0 HSP HNX HST HUB
  have HU:=hid hu;clear hu;obtain⟨cb,hcb⟩:∃ b,(decide (j<v4) && !u.bad)=b:=⟨_,rfl⟩;have HCB:=hid hcb;obtain⟨ub,hub⟩:∃ b,u.bad=b:=⟨_,rfl⟩;obtain⟨A0,c0',q1,q2,q3⟩:=G0.out.rd.is;have cbd:wr.cell? ⟨g,1,none⟩=some (.bool ub):=by rw[←hub];exact q1.cell 1
  rw[hub] at hcb;clear q1 q2 q3 hub
  go_upto_region 7 with(fail)
  go_cut [39] (λs39 wx=>s39= .bool cb∧wx=wr)
  case first=>
   by_cases hlt:j<v4
   ·have j1:(j:Int)< (v4:Int):=by omega
    rw[decide_eq_true hlt,Bool.true_and] at hcb;subst hcb;go_wp2_with fail
    go_meet
    exact⟨rfl,rfl⟩
   ·have j1:decide ((j:Int)< (v4:Int))=false:=decide_eq_false (by omega);rw[decide_eq_false hlt,Bool.false_and] at hcb;subst hcb;go_wp2_with fail
    go_meet
    exact⟨rfl,rfl⟩
  case rest=>
   obtain⟨rfl,rfl⟩:=hcut;clear cbd hcb
   cases cb with
   |true=>
    have HLT:=hid (show j<v4 from by have h:=HCB.out;simp at h;exact h.1);have HBF:=hid (show u.bad=false from by have h:=HCB.out;simp at h;exact h.2);obtain⟨u1,u2,u3,v,un,t,si⟩:=stI9 u HUB.out.1;have SI:=hid si;have kw:IntKind.i64.wrap (v:Int)=(v:Int):=IntWalk.i64_in _ (by have:=si.v8;omega);have BF:=built_i9 (v:Int);have HU2:=hid (show u2.xs.length≤1000000 from by have h1:=si.l2;have h2:=HUB.out.2;have h3:=ST.out.n4;have h4:=HXL.out;omega);clear si HCB HST HJ HU;go_wp2_with fail
    refine(hgnum_t g u 1 w wc G0.out.rd SI.out.b0 (by decide) (by decide)).mono ?_;rw[SI.out.e1]
    rintro e w5 ⟨rfl,x_,k_⟩
    have G1:=hid (G0.out.read k_ x_);clear x_ k_;have E0:=hid (GE9.new G1.out 133 [.int .i64 (v:Int),.int .i64 0,.slice none 0 0]);clear G0
    go_upto_region 10 with(fail)
    refine world_at (λZ=>GE9 w Z 133 g gx w5.heap.size u1.xs u1.bad x [.int .i64 (v:Int),.int .i64 0,.slice none 0 0] none []) E0.out ?_
    rintro Z1 gz
    obtain⟨g3,hg3⟩:∃ x,w5.heap.size=x:=⟨_,rfl⟩;rw[hg3] at gz ⊢;have E1:=hid gz;clear gz E0 hg3 G1 BF kw;go_wp2_with fail
    refine(hnm_t g u1 w Z1 E1.out.gp.rd SI.out.b1).mono ?_;rw[SI.out.e2]
    rintro e w6 ⟨rfl,x_,k_⟩
    have E2:=hid (E1.out.read k_ x_);have fz:=E2.out.el.frozen 1;have ct:w6.cell? ⟨g3,1,none⟩=some (.int .i64 0):=E2.out.el.cell 1;have E3:=hid (E2.out.store (cs':=[.int .i64 (v:Int),.int .i64 un,.slice none 0 0]) (Kept.setCell (F:=λk=>k=g3) (Kept.refl _ _) (p:=⟨g3,1,none⟩) (.inl rfl) _) (E2.out.el.store 1 (.int .i64 un)) (by decide));clear x_ k_ E1
    go_upto_region 11 with(fail)
    clear fz ct E2;obtain⟨Z2,hZ2⟩:∃ V,w6.setCell ⟨g3,1,none⟩ (.int .i64 un)=V:=⟨_,rfl⟩;rw[hZ2] at E3 ⊢;clear hZ2;go_wp2_with fail
    refine(hsm_t g u2 w Z2 E3.out.gp.rd SI.out.b2 HU2.out).mono ?_;rw[SI.out.e3]
    rintro e w7 ⟨⟨A,c9,rfl,t7,n7⟩,x_,k_⟩
    have hsz:=E3.out.gp.rd.bel.size;have E4:=hid ((E3.out.read k_ x_).row (yp':=A) (yt':=t) t7 (n7.low hsz));have fz:=E4.out.el.frozen 2;have ct:w7.cell? ⟨g3,2,none⟩=some (.slice none 0 0):=E4.out.el.cell 2;have E5:=hid (E4.out.store (cs':=[.int .i64 (v:Int),.int .i64 un,.slice A t.length c9]) (Kept.setCell (F:=λk=>k=g3) (Kept.refl _ _) (p:=⟨g3,2,none⟩) (.inl rfl) _) (E4.out.el.store 2 (.slice A t.length c9)) (by decide));clear x_ k_ E3 t7 n7 hsz
    go_upto_region 12 with(fail)
    clear fz ct E4;obtain⟨Z3,hZ3⟩:∃ V,w7.setCell ⟨g3,2,none⟩ (.slice A t.length c9)=V:=⟨_,rfl⟩;rw[hZ3] at E5 ⊢;clear hZ3;obtain⟨y,hy⟩:∃ y:Itv,(⟨⟨(v:Int),un,t⟩,A,c9⟩:Itv)=y:=⟨_,rfl⟩;have E6:=hid (show GE9 w Z3 133 g gx g3 u3.xs u3.bad x (iv y) y.p y.i.t from by rw[←hy];exact E5.out);have HY:=hid hy;have FS:=hid (iv_size y);clear E5 hy;have c1:Z3.cell? ⟨gx,1,none⟩=some (.slice x.ip x.its.length x.ic):=(sv_cells E6.out.gp.bx).2.1;have GEL:=hid E6.out.el;have BA:=hid ((Below.refl Z3.heap.size Z3).alloc (Nat.le_refl _) (.cells (iv y).toArray 133));have R3:=hid (E6.out.below BA.out);have Q1:=hid (row_one iv 3 y Z3 133);have O1:=hid R3.out.gp.ys.its;have HBS:=hid (show w.heap.size≤(Z3.alloc (.cells (iv y).toArray 133)).heap.size from R3.out.gp.rd.bel.size);have LL:=hid (show x.its.length+1≤1000000 from by have:=HLN.out;have:=HLT.out;have:=ST.out.k4;omega);have jv:(j:Int)<256:=by have:=HLT.out;have:=ST.out.k4;omega
    go_wp2_with (first
     |((with_reducible refine load_blk 133 (.tmp 8) g3 133 (iv y) _ rfl rfl ?_ Tryz.underlying133 ?_ ?_ ?_ ?_);exact GEL.out;exact rfl;exact FS.out;exact rfl)
     |((with_reducible refine at_op (.buildSlice 73 1 #[(0,.tmp 54)]) rfl ?_);go_must (refine build1 73 133 (.tmp 54) rfl rfl (iv y) rfl (build_iv y _) ?_))
     |((with_reducible refine at_op (.call { callee:= .builtin .append,args:= #[.tmp 53,.tmp 55],argTypes:= #[73,73] }) rfl ?_);go_must (refine append_rows (.tmp 53) (.tmp 55) 73 rfl rfl 133 Tryz.underlying73 infoI rfl (by decide) (by decide) iv_len iv_one w.heap.size (.slice x.ip x.its.length x.ic) x.its.length (x.its.flatMap iv) rfl O1.out (some ⟨Z3.heap.size,0,none⟩) 1 1 rfl [y] rfl Q1.out LL.out HBS.out ?_);intro v1 w9 h2 h3 h5 h6;obtain⟨ip9,ic9,hv9,_⟩:=own_form h2.out;subst hv9;have r9:=R3.out.growI h2.out h3.out LL.out;have fz:=r9.1.frozen 1;have ct:w9.cell? ⟨gx,1,none⟩=some (.slice x.ip x.its.length x.ic):=(sv_cells r9.1).2.1;have R9:=hid r9.2;clear r9 h2 h3 h5 h6))
    go_roundw
    case rel=>
     refine⟨j+1, { x with its:=x.its++[y],ip:=ip9,ic:=ic9 },HLT.out,by go_num,?_,?_⟩
     ·rw[HNX.out,if_neg (by rw[HBF.out];decide),SI.out.it];exact R9.out
     ·rw[HNX.out,if_neg (by rw[HBF.out];decide),SI.out.it];have h:=HSP.out;simp only[Spv.sp,Sp.mk.injEq] at h ⊢;obtain⟨h1,h2,h3,h4,h5,h6⟩:=h;refine⟨h1,?_,h3,h4,h5,h6⟩;rw[List.map_append,h2,←HY.out];rfl
    case measure=>have:=HLT.out;simp[intOf];omega
   |false=>
    have hfin:(l,u)=(l5,s5):=by
     rw[←ST.out.e5,←HU.out];rcases Nat.lt_or_ge j v4 with h |h
     ·have hb:u.bad=true:=by have h2:=HCB.out;rw[decide_eq_true h,Bool.true_and] at h2;simpa using h2
      have h3:=HST.out hb (v4-j);rw[show j+(v4-j)=v4 by omega] at h3;rw[h3,HU.out]
     ·rw[show j=v4 by have:=HJ.out;omega]
    simp only[Prod.mk.injEq] at hfin;have q1:=hfin.1.symm;have q2:=hfin.2.symm;clear hfin;subst q1;subst q2;clear HNX HST HU HUB HLN HCB HX4 HJ;go_wp2_with fail
    refine(hgnum_t g s5 1 w wc G0.out.rd ST.out.b5 (by decide) (by decide)).mono ?_;rw[ST.out.e6]
    rintro e w4b ⟨rfl,x_,k_⟩
    have G6:=hid (G0.out.read k_ x_);clear x_ k_;clear G0;go_wp2_with fail
    have HX6:=hid (λj=>hRow_bytes (g:=hWt) (λh=>hWt_bytes h) ST.out.b6 j)
    go_loopw [9] (λt wr=>∃ (j:Nat) (x:Spv),j≤v6∧t= .int .i64 (j:Int)∧GP9 w wr g gx (hRow hWt s6 j).2.xs (hRow hWt s6 j).2.bad x∧x.sp=⟨nw,l5,(hRow hWt s6 j).1,v2,v3,[zrp.r,zrp.r,zrp.r,zrp.r]⟩) (λt _=>v6- (intOf t).toNat)
    case atStart=>exact⟨0,x,Nat.zero_le _,rfl,G6.out,HSP.out⟩
    case round=>
     clear G6 HSP;clear x;obtain⟨j,x,hj,rfl,gp,hsp⟩:=hrel;have G0:=hid gp;have HSP:=hid hsp;have HJ:=hid hj;have HNX:=hid (show hRow hWt s6 (j+1)=if (hRow hWt s6 j).2.bad then hRow hWt s6 j else((hRow hWt s6 j).1 ++[(hWt (hRow hWt s6 j).2).1],(hWt (hRow hWt s6 j).2).2) from rfl);have HST:=hid (λ(hb:(hRow hWt s6 j).2.bad=true) (i:Nat)=>hRow_stop hb i);have HLN:=hid (show x.wts.length≤j from by
      have h:=congrArg (λs=>s.wts.length) hsp;have h2:=hRow_len hWt s6 j;simp only[Spv.sp,List.length_map] at h;omega)
     have HUB:=hid (HX6.out j);clear gp hsp hj;obtain⟨⟨l,u⟩,hu⟩:∃ r,hRow hWt s6 j=r:=⟨_,rfl⟩;rw[hu] at G0 HSP HNX HST HUB
     dsimp only at G0 HSP HNX HST HUB
     have HU:=hid hu;clear hu;obtain⟨cb,hcb⟩:∃ b,(decide (j<v6) && !u.bad)=b:=⟨_,rfl⟩;have HCB:=hid hcb;obtain⟨ub,hub⟩:∃ b,u.bad=b:=⟨_,rfl⟩;obtain⟨A0,c0',q1,q2,q3⟩:=G0.out.rd.is;have cbd:wr.cell? ⟨g,1,none⟩=some (.bool ub):=by rw[←hub];exact q1.cell 1
     rw[hub] at hcb;clear q1 q2 q3 hub
     go_upto_region 15 with(fail)
     go_cut [70] (λs39 wx=>s39= .bool cb∧wx=wr)
     case first=>
      by_cases hlt:j<v6
      ·have j1:(j:Int)< (v6:Int):=by omega
       rw[decide_eq_true hlt,Bool.true_and] at hcb;subst hcb;go_wp2_with fail
       go_meet
       exact⟨rfl,rfl⟩
      ·have j1:decide ((j:Int)< (v6:Int))=false:=decide_eq_false (by omega);rw[decide_eq_false hlt,Bool.false_and] at hcb;subst hcb;go_wp2_with fail
       go_meet
       exact⟨rfl,rfl⟩
     case rest=>
      obtain⟨rfl,rfl⟩:=hcut;clear cbd hcb
      cases cb with
      |true=>
       have HLT:=hid (show j<v6 from by have h:=HCB.out;simp at h;exact h.1);have HBF:=hid (show u.bad=false from by have h:=HCB.out;simp at h;exact h.2);obtain⟨u1,u2,u3,u4,v,q,f,t,si⟩:=stW9 u HUB.out.1;have SI:=hid si;have kw:IntKind.i64.wrap (v:Int)=(v:Int):=IntWalk.i64_in _ (by have:=si.v8;omega);have kq:IntKind.i64.wrap (q:Int)=(q:Int):=IntWalk.i64_in _ (by have:=si.q32;omega);have BF:=built_w9 (v:Int);have HU2:=hid (show u3.xs.length≤1000000 from by have h1:=si.l3;have h2:=HUB.out.2;have h3:=ST.out.n6;have h4:=HXL.out;omega);clear si HCB HST HJ HU;go_wp2_with fail
       refine(hgnum_t g u 1 w wc G0.out.rd SI.out.b0 (by decide) (by decide)).mono ?_;rw[SI.out.e1]
       rintro e w5 ⟨rfl,x_,k_⟩
       have G1:=hid (G0.out.read k_ x_);clear x_ k_;have E0:=hid (GE9.new G1.out 136 [.int .i64 (v:Int),.int .i64 0,.bool false,.slice none 0 0]);clear G0
       go_upto_region 18 with(fail)
       refine world_at (λZ=>GE9 w Z 136 g gx w5.heap.size u1.xs u1.bad x [.int .i64 (v:Int),.int .i64 0,.bool false,.slice none 0 0] none []) E0.out ?_
       rintro Z1 gz
       obtain⟨g3,hg3⟩:∃ x,w5.heap.size=x:=⟨_,rfl⟩;rw[hg3] at gz ⊢;have E1:=hid gz;clear gz E0 hg3 G1 BF kw;go_wp2_with fail
       refine(hgnum_t g u1 4 w Z1 E1.out.gp.rd SI.out.b1 (by decide) (by decide)).mono ?_;rw[SI.out.e2]
       rintro e w6 ⟨rfl,x_,k_⟩
       have E2:=hid (E1.out.read k_ x_);have fz:=E2.out.el.frozen 1;have ct:w6.cell? ⟨g3,1,none⟩=some (.int .i64 0):=E2.out.el.cell 1;have E3:=hid (E2.out.store (cs':=[.int .i64 (v:Int),.int .i64 (q:Int),.bool false,.slice none 0 0]) (Kept.setCell (F:=λk=>k=g3) (Kept.refl _ _) (p:=⟨g3,1,none⟩) (.inl rfl) _) (E2.out.el.store 1 (.int .i64 (q:Int))) (by decide));clear x_ k_ E1
       go_upto_region 19 with(fail)
       clear fz ct E2;obtain⟨Z2,hZ2⟩:∃ V,w6.setCell ⟨g3,1,none⟩ (.int .i64 (q:Int))=V:=⟨_,rfl⟩;rw[hZ2] at E3 ⊢;clear hZ2;go_wp2_with fail
       refine(hyes_t g u2 w Z2 E3.out.gp.rd SI.out.b2).mono ?_;rw[SI.out.e3]
       rintro e w6 ⟨rfl,x_,k_⟩
       have E2:=hid (E3.out.read k_ x_);have fz:=E2.out.el.frozen 2;have ct:w6.cell? ⟨g3,2,none⟩=some (.bool false):=E2.out.el.cell 2;have E5:=hid (E2.out.store (cs':=[.int .i64 (v:Int),.int .i64 (q:Int),.bool f,.slice none 0 0]) (Kept.setCell (F:=λk=>k=g3) (Kept.refl _ _) (p:=⟨g3,2,none⟩) (.inl rfl) _) (E2.out.el.store 2 (.bool f)) (by decide));clear x_ k_ E3
       go_upto_region 20 with(fail)
       clear fz ct E2;obtain⟨Z3,hZ2⟩:∃ V,w6.setCell ⟨g3,2,none⟩ (.bool f)=V:=⟨_,rfl⟩;rw[hZ2] at E5 ⊢;clear hZ2;go_wp2_with fail
       refine(hsm_t g u3 w Z3 E5.out.gp.rd SI.out.b3 HU2.out).mono ?_;rw[SI.out.e4]
       rintro e w7 ⟨⟨A,c9,rfl,t7,n7⟩,x_,k_⟩
       have hsz:=E5.out.gp.rd.bel.size;have E4:=hid ((E5.out.read k_ x_).row (yp':=A) (yt':=t) t7 (n7.low hsz));have fz:=E4.out.el.frozen 3;have ct:w7.cell? ⟨g3,3,none⟩=some (.slice none 0 0):=E4.out.el.cell 3;have E6b:=hid (E4.out.store (cs':=[.int .i64 (v:Int),.int .i64 (q:Int),.bool f,.slice A t.length c9]) (Kept.setCell (F:=λk=>k=g3) (Kept.refl _ _) (p:=⟨g3,3,none⟩) (.inl rfl) _) (E4.out.el.store 3 (.slice A t.length c9)) (by decide));clear x_ k_ E5 t7 n7 hsz
       go_upto_region 21 with(fail)
       clear fz ct E4;obtain⟨Z4,hZ3⟩:∃ V,w7.setCell ⟨g3,3,none⟩ (.slice A t.length c9)=V:=⟨_,rfl⟩;rw[hZ3] at E6b ⊢;clear hZ3;obtain⟨y,hy⟩:∃ y:Wtv,(⟨⟨(v:Int),(q:Int),f,t⟩,A,c9⟩:Wtv)=y:=⟨_,rfl⟩;have E6:=hid (show GE9 w Z4 136 g gx g3 u4.xs u4.bad x (wv y) y.p y.x.p from by rw[←hy];exact E6b.out);have HY:=hid hy;have FS:=hid (wv_size y);clear E6b hy kq;have c1:Z4.cell? ⟨gx,2,none⟩=some (.slice x.wp x.wts.length x.wc):=(sv_cells E6.out.gp.bx).2.2.1;have GEL:=hid E6.out.el;have BA:=hid ((Below.refl Z4.heap.size Z4).alloc (Nat.le_refl _) (.cells (wv y).toArray 136));have R3:=hid (E6.out.below BA.out);have Q1:=hid (row_one wv 4 y Z4 136);have O1:=hid R3.out.gp.ys.wts;have HBS:=hid (show w.heap.size≤(Z4.alloc (.cells (wv y).toArray 136)).heap.size from R3.out.gp.rd.bel.size);have LL:=hid (show x.wts.length+1≤1000000 from by have:=HLN.out;have:=HLT.out;have:=ST.out.k6;omega);have jv:(j:Int)<256:=by have:=HLT.out;have:=ST.out.k6;omega
       go_wp2_with (first
        |((with_reducible refine load_blk 136 (.tmp 10) g3 136 (wv y) _ rfl rfl ?_ Tryz.underlying136 ?_ ?_ ?_ ?_);exact GEL.out;exact rfl;exact FS.out;exact rfl)
        |((with_reducible refine at_op (.buildSlice 74 1 #[(0,.tmp 89)]) rfl ?_);go_must (refine build1 74 136 (.tmp 89) rfl rfl (wv y) rfl (build_wv y _) ?_))
        |((with_reducible refine at_op (.call { callee:= .builtin .append,args:= #[.tmp 88,.tmp 90],argTypes:= #[74,74] }) rfl ?_);go_must (refine append_rows (.tmp 88) (.tmp 90) 74 rfl rfl 136 Tryz.underlying74 infoW rfl (by decide) (by decide) wv_len wv_one w.heap.size (.slice x.wp x.wts.length x.wc) x.wts.length (x.wts.flatMap wv) rfl O1.out (some ⟨Z4.heap.size,0,none⟩) 1 1 rfl [y] rfl Q1.out LL.out HBS.out ?_);intro v1 w9 h2 h3 h5 h6;obtain⟨ip9,ic9,hv9,_⟩:=own_form h2.out;subst hv9;have r9:=R3.out.growW h2.out h3.out LL.out;have fz:=r9.1.frozen 2;have ct:w9.cell? ⟨gx,2,none⟩=some (.slice x.wp x.wts.length x.wc):=(sv_cells r9.1).2.2.1;have R9:=hid r9.2;clear r9 h2 h3 h5 h6))
       go_roundw
       case rel=>
        refine⟨j+1, { x with wts:=x.wts++[y],wp:=ip9,wc:=ic9 },HLT.out,by go_num,?_,?_⟩
        ·rw[HNX.out,if_neg (by rw[HBF.out];decide),SI.out.it];exact R9.out
        ·rw[HNX.out,if_neg (by rw[HBF.out];decide),SI.out.it];have h:=HSP.out;simp only[Spv.sp,Sp.mk.injEq] at h ⊢;obtain⟨h1,h2,h3,h4,h5,h6⟩:=h;refine⟨h1,h2,?_,h4,h5,h6⟩;rw[List.map_append,h3,←HY.out];rfl
       case measure=>have:=HLT.out;simp[intOf];omega
      |false=>
       have hfin:(l,u)=(l7,s7):=by
        rw[←ST.out.e7,←HU.out];rcases Nat.lt_or_ge j v6 with h |h
        ·have hb:u.bad=true:=by have h2:=HCB.out;rw[decide_eq_true h,Bool.true_and] at h2;simpa using h2
         have h3:=HST.out hb (v6-j);rw[show j+(v6-j)=v6 by omega] at h3;rw[h3,HU.out]
        ·rw[show j=v6 by have:=HJ.out;omega]
       simp only[Prod.mk.injEq] at hfin;have q1:=hfin.1.symm;have q2:=hfin.2.symm;clear hfin;subst q1;subst q2;clear HNX HST HU HUB HLN HCB HX6 HJ;go_wp2_with fail
       have HX7:=hid (λj=>hLas_bytes ST.out.b7 j)
       go_loopw [11] (λt wr=>∃ (j:Nat) (x:Spv),j≤4∧t= .int .i64 (j:Int)∧GP9 w wr g gx (hLas s7 j).2.xs (hLas s7 j).2.bad x∧(x.last.take j).map (·.r)=(hLas s7 j).1 ∧({ x.sp with last:=[] } :Sp)=⟨nw,l5,l7,v2,v3,[]⟩) (λt _=>4- (intOf t).toNat)
       case atStart=>exact⟨0,x,Nat.zero_le _,rfl,G0.out,rfl,by rw[HSP.out]⟩
       case round=>
        clear G0 HSP;clear x;obtain⟨j,x,hj,rfl,gp,hlr,hsp⟩:=hrel;have G0:=hid gp;have HSP:=hid hsp;have LR:=hid hlr;have HNX:=hid (show hLas s7 (j+1)=((hLas s7 j).1 ++[(hLa (j:Int) (hLas s7 j).2).1],(hLa (j:Int) (hLas s7 j).2).2) from rfl);have HUB:=hid (HX7.out j);clear gp hsp hlr
        by_cases hlt:j<4
        ·obtain⟨⟨l,u⟩,hu⟩:∃ r,hLas s7 j=r:=⟨_,rfl⟩;rw[hu] at G0 HNX HUB LR
         dsimp only at G0 HNX HUB LR
         clear hu;have j1:(j:Int)<4:=by omega
         have j0:(0:Int)≤(j:Int):=by omega
         obtain⟨u1,u2,u3,u4,q,k,f,t,si⟩:=stL9 (j:Int) u HUB.out.1;have SI:=hid si;have kq:IntKind.i64.wrap (q:Int)=(q:Int):=IntWalk.i64_in _ (by have:=si.q32;omega);have kk:IntKind.i64.wrap (k:Int)=(k:Int):=IntWalk.i64_in _ (by have:=si.k8;omega);have BF:=built_l9 (j:Int) (q:Int);have HU2:=hid (show u3.xs.length≤1000000 from by have h1:=si.l3;have h2:=HUB.out.2;have h3:=ST.out.n7;have h4:=HXL.out;omega);have HLT:=hid hlt;clear si hlt hj;go_wp2_with fail
         refine(hgnum_t g u 4 w wr G0.out.rd SI.out.b0 (by decide) (by decide)).mono ?_;rw[SI.out.e1]
         rintro e w5 ⟨rfl,x_,k_⟩
         have G1:=hid (G0.out.read k_ x_);clear x_ k_;have E0:=hid (GE9.new G1.out 77 [.int .i64 (j:Int),.int .i64 (q:Int),.int .i64 0,.slice none 0 0,.bool false]);clear G0
         go_upto_region 26 with(fail)
         refine world_at (λZ=>GE9 w Z 77 g gx w5.heap.size u1.xs u1.bad x [.int .i64 (j:Int),.int .i64 (q:Int),.int .i64 0,.slice none 0 0,.bool false] none []) E0.out ?_
         rintro Z1 gz
         obtain⟨g3,hg3⟩:∃ x,w5.heap.size=x:=⟨_,rfl⟩;rw[hg3] at gz ⊢;have E1:=hid gz;clear gz E0 hg3 G1 BF kq;go_wp2_with fail
         refine(hgnum_t g u1 1 w Z1 E1.out.gp.rd SI.out.b1 (by decide) (by decide)).mono ?_;rw[SI.out.e2]
         rintro e w6 ⟨rfl,x_,k_⟩
         have E2:=hid (E1.out.read k_ x_);have fz:=E2.out.el.frozen 2;have ct:w6.cell? ⟨g3,2,none⟩=some (.int .i64 0):=E2.out.el.cell 2;have E3:=hid (E2.out.store (cs':=[.int .i64 (j:Int),.int .i64 (q:Int),.int .i64 (k:Int),.slice none 0 0,.bool false]) (Kept.setCell (F:=λk=>k=g3) (Kept.refl _ _) (p:=⟨g3,2,none⟩) (.inl rfl) _) (E2.out.el.store 2 (.int .i64 (k:Int))) (by decide));clear x_ k_ E1
         go_upto_region 27 with(fail)
         clear fz ct E2;obtain⟨Z2,hZ2⟩:∃ V,w6.setCell ⟨g3,2,none⟩ (.int .i64 (k:Int))=V:=⟨_,rfl⟩;rw[hZ2] at E3 ⊢;clear hZ2;go_wp2_with fail
         refine(hyes_t g u2 w Z2 E3.out.gp.rd SI.out.b2).mono ?_;rw[SI.out.e3]
         rintro e w6 ⟨rfl,x_,k_⟩
         have E2:=hid (E3.out.read k_ x_);have fz:=E2.out.el.frozen 4;have ct:w6.cell? ⟨g3,4,none⟩=some (.bool false):=E2.out.el.cell 4;have E5:=hid (E2.out.store (cs':=[.int .i64 (j:Int),.int .i64 (q:Int),.int .i64 (k:Int),.slice none 0 0,.bool f]) (Kept.setCell (F:=λk=>k=g3) (Kept.refl _ _) (p:=⟨g3,4,none⟩) (.inl rfl) _) (E2.out.el.store 4 (.bool f)) (by decide));clear x_ k_ E3
         go_upto_region 28 with(fail)
         clear fz ct E2;obtain⟨Z3,hZ2⟩:∃ V,w6.setCell ⟨g3,4,none⟩ (.bool f)=V:=⟨_,rfl⟩;rw[hZ2] at E5 ⊢;clear hZ2;go_wp2_with fail
         refine(hsm_t g u3 w Z3 E5.out.gp.rd SI.out.b3 HU2.out).mono ?_;rw[SI.out.e4]
         rintro e w7 ⟨⟨A,c9,rfl,t7,n7⟩,x_,k_⟩
         have hsz:=E5.out.gp.rd.bel.size;have E4:=hid ((E5.out.read k_ x_).row (yp':=A) (yt':=t) t7 (n7.low hsz));have fz:=E4.out.el.frozen 3;have ct:w7.cell? ⟨g3,3,none⟩=some (.slice none 0 0):=E4.out.el.cell 3;have E6b:=hid (E4.out.store (cs':=[.int .i64 (j:Int),.int .i64 (q:Int),.int .i64 (k:Int),.slice A t.length c9,.bool f]) (Kept.setCell (F:=λk=>k=g3) (Kept.refl _ _) (p:=⟨g3,3,none⟩) (.inl rfl) _) (E4.out.el.store 3 (.slice A t.length c9)) (by decide));clear x_ k_ E5 t7 n7 hsz
         go_upto_region 29 with(fail)
         clear fz ct E4;obtain⟨Z4,hZ3⟩:∃ V,w7.setCell ⟨g3,3,none⟩ (.slice A t.length c9)=V:=⟨_,rfl⟩;rw[hZ3] at E6b ⊢;clear hZ3;obtain⟨y,hy⟩:∃ y:Rpv,(⟨⟨(j:Int),(q:Int),(k:Int),t,f⟩,A,c9⟩:Rpv)=y:=⟨_,rfl⟩;have E6:=hid (show GE9 w Z4 77 g gx g3 u4.xs u4.bad x (pv y) y.p y.r.t from by rw[←hy];exact E6b.out);have HY:=hid hy;have FY:=hid (pv_size y);have FO:=hid (pv_oneA y);clear E6b hy kk;have GEL:=hid E6.out.el;have L4:=hid E6.out.gp.ys.l4;obtain⟨z,hz⟩:∃ z,x.last[j]? =some z:=⟨_,List.getElem?_eq_getElem (by rw[L4.out];exact HLT.out)⟩;have HXZ:=hid hz;have BB:=hid (show Blk Z4 gx 80 (svL x j++(pv z++svR x j)) from by rw[←sv_at x j z hz];exact E6.out.gp.bx);have LL:=hid (svL_len x j (by have h1:=L4.out;have h2:=HLT.out;omega));clear hz
         go_wp2_with (first
          |((with_reducible refine load_blk 77 (.tmp 12) g3 77 (pv y) _ rfl rfl ?_ Tryz.underlying77 ?_ ?_ ?_ ?_);exact GEL.out;exact rfl;exact FY.out;exact rfl)
          |((with_reducible refine store_part 77 (.tmp 115) (.tmp 113) gx (5+j * 5) 80 (svL x j) (pv z) (svR x j) (pv y) rfl rfl ?_ ?_ ?_ ?_ ?_ ?_ ?_ ?_);exact BB.out;exact LL.out.symm;exact rfl;exact FY.out;exact FO.out;(first |exact rfl |go_simp);exact rfl;intro wz a1 a2 a3;have R9:=hid (And.intro a1.out (a2.out.keptOneS rfl));clear a1 a2 a3))
         have RZ:=hid (show Blk wz gx 80 (sv { x with last:=x.last.set j y }) by rw[sv_put x j z y HXZ.out];exact R9.out.1);have y9:=E6.out.gp.ys;have GZ:=hid (E6.out.gp.put (x':= { x with last:=x.last.set j y }) R9.out.2 RZ.out ⟨y9.its,y9.it,y9.wts,y9.wt,by show(x.last.set j y).length=4;rw[List.length_set];exact L4.out,(λy' hy'=>by
          rcases List.mem_or_eq_of_mem_set hy' with h |rfl
          ·exact y9.la y' h
          ·exact⟨E6.out.tr,E6.out.nf⟩),y9.n,y9.m⟩)
         clear y9 R9 RZ BB E6
         go_roundw
         case rel=>exact⟨j+1, { x with last:=x.last.set j y },HLT.out,by go_num,by rw[HNX.out,SI.out.it];exact GZ.out,by rw[take_set_snoc (by rw[L4.out];exact HLT.out),List.map_append,LR.out,HNX.out,SI.out.it,←HY.out];rfl,HSP.out⟩
         case measure=>have:=HLT.out;simp[intOf];omega
        ·obtain rfl:j=4:=by omega
         clear hlt HX7 HNX HUB;rw[ST.out.e8] at G0 LR
         dsimp only at G0 LR
         have HSQ:=hid (show x.sp=sp0 from by
          rw[GOT.out];have h:=HSP.out;simp only[Sp.mk.injEq] at h;obtain⟨h1,h2,h3,h4,h5,_⟩:=h;have h6:x.sp.last=l8:=by
           rw[←LR.out,List.take_of_length_le (by rw[G0.out.ys.l4];exact Nat.le_refl _)];rfl
          have e:x.sp=⟨x.sp.now,x.sp.its,x.sp.wts,x.sp.rd,x.sp.wr,x.sp.last⟩:=rfl;rw[e,h1,h2,h3,h4,h5,h6])
         clear HSP LR GOT;have ET:=hid (rrend_t g s8.xs s8.bad w wr G0.out.rd);obtain⟨en,hen⟩:∃ z,endN s8.xs s8.bad=z:=⟨_,rfl⟩;rw[hen] at ET OKD;have FZ:=hid (sv_size (gsp 0 0 0) rfl);have FZO:=hid (sv_one (gsp 0 0 0));clear hen
         by_cases h0:en=0
         ·subst h0;have MR:=hid (refMaySpace_t x wr G0.out.ys.w);rw[HSQ.out] at MR;obtain⟨mb,hmb⟩:∃ b,spMay sp0=b:=⟨_,rfl⟩;rw[hmb] at MR OKD;have FX:=hid (sv_size x G0.out.ys.l4);have FXO:=hid (sv_one x);clear hmb;go_wp2_with fail
          refine ET.out.mono ?_
          rintro e w8 ⟨rfl,rfl⟩
          have GBX:=hid G0.out.bx
          go_wp2_with ((with_reducible refine load_blk_gdO 120 80 (.tmp 5) gx 80 (sv x) _ ?_ ?_ rfl ?_ Tryz.underlying80 ?_ ?_ ?_ ?_);exact rfl;kernel_rfl;exact GBX.out;exact rfl;exact FX.out;exact rfl)
          refine MR.out.mono ?_
          rintro e w9 ⟨rfl,b9⟩
          have G9:=hid (G0.out.below b9);clear b9 MR ET GBX G0
          cases mb with
          |false=>
           have OK:=hid (show ok=false from OKD.out);have RES:=hid G9.out.res;have RZ:=hid (G9.out.res.setRow (sv (gsp 0 0 0)));have BF:=hid (below_setRow G9.out.rd.bel (Nat.le_refl _) (sv (gsp 0 0 0)).toArray);have BZ:=built_zsp
           go_wp2_with ((with_reducible refine at_op (.store 80 (.tmp 2) (.tmp 124)) rfl ?_);go_must (refine store_blk 80 (.tmp 2) (.tmp 124) w.heap.size 80 _ (sv (gsp 0 0 0)) rfl rfl RES.out rfl FZ.out FZO.out rfl rfl ?_))
           exact ret_blkS (p:=2) (u:=3) (ty:=80) rfl rfl w.heap.size 80 _ _ rfl RZ.out Tryz.underlying80 rfl FZ.out _ rfl ⟨BF.out,.inl ⟨OK.out,rfl⟩⟩
          |true=>
           have OK:=hid (show ok=true from OKD.out);have RES:=hid G9.out.res;have GBX:=hid G9.out.bx;have RZ:=hid (G9.out.res.setRow (sv x));have BF:=hid (below_setRow G9.out.rd.bel (Nat.le_refl _) (sv x).toArray);have KW:=hid (G9.out.ys.kept ((Kept.refl (λk=>k=w.heap.size) w9).setRowK (.inl rfl) (sv x).toArray) G9.out.res);have SLX:=hid (show(sv (gsp 0 0 0)).length=(sv x).length from(sv_len _ rfl).trans (sv_len x G9.out.ys.l4).symm)
           go_wp2_with (first
            |((with_reducible refine load_blk 80 (.tmp 5) gx 80 (sv x) _ rfl rfl ?_ Tryz.underlying80 ?_ ?_ ?_ ?_);exact GBX.out;exact rfl;exact FX.out;exact rfl)
            |((with_reducible refine at_op (.store 80 (.tmp 2) (.tmp 125)) rfl ?_);go_must (refine store_blk 80 (.tmp 2) (.tmp 125) w.heap.size 80 _ (sv x) rfl rfl RES.out SLX.out FX.out FXO.out rfl rfl ?_)))
           exact ret_blkS (p:=2) (u:=3) (ty:=80) rfl rfl w.heap.size 80 _ _ rfl RZ.out Tryz.underlying80 rfl FX.out _ rfl ⟨BF.out,.inr ⟨OK.out,x,HSQ.out.trans (GE.out OK.out),rfl,KW.out⟩⟩
         ·have e1:((en:Int) != 0)=true:=by rw[bne_iff_ne];omega
          have OK:=hid (show ok=false from by have:=OKD.out;rw[decide_eq_false h0] at this;exact this);go_wp2_with fail
          refine ET.out.mono ?_
          rintro e w8 ⟨rfl,rfl⟩
          clear ET;have RES:=hid G0.out.res;have RZ:=hid (G0.out.res.setRow (sv (gsp 0 0 0)));have BF:=hid (below_setRow G0.out.rd.bel (Nat.le_refl _) (sv (gsp 0 0 0)).toArray);have BZ:=built_zsp
          go_wp2_with ((with_reducible refine at_op (.store 80 (.tmp 2) (.tmp 124)) rfl ?_);go_must (refine store_blk 80 (.tmp 2) (.tmp 124) w.heap.size 80 _ (sv (gsp 0 0 0)) rfl rfl RES.out rfl FZ.out FZO.out rfl rfl ?_))
          exact ret_blkS (p:=2) (u:=3) (ty:=80) rfl rfl w.heap.size 80 _ _ rfl RZ.out Tryz.underlying80 rfl FZ.out _ rfl ⟨BF.out,.inl ⟨OK.out,rfl⟩⟩
end Go.Proofs.YtjlophplcmidlaaGreatDoor
