/-
  THE LAW GenesisBack
-/
import Derived.Test.YtlipjglehongeaaGreatDoorGb41
import Derived.Test.YtlipjglehongeaaGreatDoorGb22
import Derived.Test.YtlipjglehongeaaGreatDoorGb42
import Derived.Test.YtlipjglehongeaaGreatDoorGb47
import Derived.Test.YtlipjglehongeaaGreatDoorGb36
import Derived.Test.YtlipjglehongeaaGreatDoorTk
open Go.Lib (hid)
set_option maxRecDepth 100000
namespace Go.Proofs.YtlipjglehongeaaGreatDoor
open Go Go.RowKit Sh
structure PG9 (w0 W:World) (gF g:Nat) (y:Gv) (x:Spv):Prop where
 bf:Blk W gF 25 (gv y)
 ow:W.ownsRow w0.heap.size 23 1 (.slice y.kp y.ks.length y.kc) y.ks.length (y.ks.flatMap kyv)
 nk:∀ z∈y.ks,NK W w0.heap.size z
 box:Blk W g 46 (sv x)
 sp:SpW W x
 off:OffS (λk=>k=g∨k=gF) x
 mx:MayS x.sp
 inn:InS x.sp
 gf:w0.heap.size≤gF
 gg:gF<g
 bel:Below w0.heap.size w0 W
theorem PG9.below {w0 W W':World} {gF g:Nat} {y:Gv} {x:Spv} (h:PG9 w0 W gF g y x) (hb:Below W.heap.size W W'):PG9 w0 W' gF g y x:=
 ⟨h.bf.below hb h.bf.lt,own_below h.ow hb,λz hz=>(h.nk z hz).below hb,h.box.below hb h.box.lt,h.sp.below hb,h.off,h.mx,h.inn,h.gf,h.gg,h.bel.trans (hb.mono h.bel.size)⟩
theorem PG9.put {w0 W W' V:World} {gF g:Nat} {y:Gv} {x x':Spv} (h:PG9 w0 W gF g y x) (hb:Below W.heap.size W W') (hs:SpW W' x') (ho:OffS (λk=>k=g∨k=gF) x') (hm:MayS x'.sp) (hi:InS x'.sp) (hk:Kept (λk=>k=g) W' V) (hx:Blk V g 46 (sv x')):PG9 w0 V gF g y x':=by
 have p:=h.below hb;have hg:=h.gg;have hf:=h.gf;refine⟨p.bf.kept hk (by omega),own_kept p.ow hk (λk e q=>own_apart p.ow p.box (by decide) (by rw[e,q])),λz hz=>?_,hx,hs.keptF hk (ho.mono λk e=> .inl e),ho,hm,hi,hf,hg,kept_below p.bel hk (by omega)⟩;obtain⟨b,h1,h2,h3⟩:=p.nk z hz;exact⟨b,h1,h2,h3.kept hk (h3.apart p.box (by decide))⟩
def KY9 (y:Gv):Prop:=(∀ z∈y.ks,Bytes z.X∧z.X.length≤1000)∧y.ks.length≤1000∧GvC y
theorem gw9 {W:World} {B:Nat} {y:Gv} (ow:W.ownsRow B 23 1 (.slice y.kp y.ks.length y.kc) y.ks.length (y.ks.flatMap kyv)) (nk:∀ z∈y.ks,NK W B z) (k:KY9 y) (hs:Sr W y.sp y.st) (hb:Bytes y.st) (hl:y.st.length≤1000000) (hc:y.st.length≤y.sc):GvW W y:=
 ⟨RowL.of_own kyv_len rfl ow,λz hz=>(nk z hz).sr,λz hz=>(k.1 z hz).1,λz hz=>by have:=(k.1 z hz).2;omega,by have:=k.2.1;omega,hs,hb,hl,hc⟩
structure PH9 (w0 W:World) (gF g:Nat) (y:Gv) (x:Spv):Prop where
 bf:Blk W gF 25 (gv y)
 gw:GvW W y
 box:Blk W g 46 (sv x)
 sp:SpW W x
 bel:Below w0.heap.size w0 W
theorem PH9.below {w0 W W':World} {gF g:Nat} {y:Gv} {x:Spv} (h:PH9 w0 W gF g y x) (hb:Below W.heap.size W W'):PH9 w0 W' gF g y x:=
 ⟨h.bf.below hb h.bf.lt,h.gw.below hb,h.box.below hb h.box.lt,h.sp.below hb,h.bel.trans (hb.mono h.bel.size)⟩
theorem off_nsp (F:Nat→Prop) (rd wr:Int):OffS F (nsp rd wr 0 1 2 3):=by
 refine⟨λh=>absurd rfl h,λy hy=>absurd hy List.not_mem_nil,λh=>absurd rfl h,λy hy=>absurd hy List.not_mem_nil,λy hy=>?_⟩;simp only[nsp,List.mem_cons,List.not_mem_nil,or_false] at hy;rcases hy with rfl |rfl |rfl |rfl<;>exact λh=>absurd rfl h
theorem in_newG (a b:Int):InS (newS a b):=in_new a b
theorem st_len {s:Sp} (h:spMay s=true) (h4:s.last.length=4):(putS s).length≤30000:=putS_le h h4
theorem begQ_st {f:Nat} {rd wr:Int} {s:Sp} (hf:f≤2) (h1:alB rd=true) (h2:alB wr=true) (hs:spMay s=true) (h4:s.last.length=4) (hi:InS s) (e1:s.rd=rd) (e2:s.wr=wr):begQ ⟨(f:Int),rd,wr,(List.range (3 * f+1)).map fakeX,putS s⟩=true:=by
 have h:=fakeE_ok f rd wr hf h1 h2;unfold begQ fakeE at h;unfold begQ
 dsimp only at h ⊢
 simp only[Bool.and_eq_true] at h ⊢;obtain⟨a1,a2,a3,a4,_⟩:=h;refine⟨a1,a2,a3,a4,?_⟩;have fo:=frontS_ok hs h4 hi;unfold stQ;rw[fo.1,fo.2,e1,e2];simp
theorem begS_st {x:Gv} (hm:begB x=true) (h0:x.st.length≠0):begS x=gotS x.st:=by
 unfold begS;rw[if_pos hm,if_neg h0]
theorem begS_new {x:Gv} (hm:begB x=true) (h0:x.st=[]):begS x=newS x.rd x.wr:=by
 unfold begS;rw[if_pos hm,if_pos (by rw[h0];rfl)]
theorem xor1_al {a:Int} (h:alB a=true):alB (bits .xor .i64 a 1)=true∧bits .xor .i64 a 1≠a:=by
 unfold alB at h;simp only[Bool.and_eq_true,decide_eq_true_eq] at h;obtain⟨h1,h2⟩:=h;have hc:a=0∨a=1∨a=2∨a=3∨a=4∨a=5∨a=6∨a=7∨a=8∨a=9∨a=10∨a=11∨a=12∨a=13∨a=14∨a=15:=by omega
 rcases hc with rfl |rfl |rfl |rfl |rfl |rfl |rfl |rfl |rfl |rfl |rfl |rfl |rfl |rfl |rfl |rfl<;>exact⟨by decide+kernel,by decide+kernel⟩
theorem and15_al {a:Int} (h:alB a=true):bits .and .i64 a 15=a:=by
 unfold alB at h;simp only[Bool.and_eq_true,decide_eq_true_eq] at h;obtain⟨h1,h2⟩:=h;have hc:a=0∨a=1∨a=2∨a=3∨a=4∨a=5∨a=6∨a=7∨a=8∨a=9∨a=10∨a=11∨a=12∨a=13∨a=14∨a=15:=by omega
 rcases hc with rfl |rfl |rfl |rfl |rfl |rfl |rfl |rfl |rfl |rfl |rfl |rfl |rfl |rfl |rfl |rfl<;>decide+kernel
theorem newS_al (a b:Int):newS (bits .and .i64 a 15) (bits .and .i64 b 15)=newS a b:=by
 unfold newS;rw[and15_al (al15X a),and15_al (al15X b)]
theorem begS_ge {x y:Gv} (h:x.ge=y.ge):begS x=begS y:=by
 show(λe:Ge=>if begQ e then(if e.st.length=0 then newS e.rd e.wr else gotS e.st) else(gsp 0 0 0).sp) x.ge=(λe:Ge=>if begQ e then(if e.st.length=0 then newS e.rd e.wr else gotS e.st) else(gsp 0 0 0).sp) y.ge
 rw[h]
theorem anE_ge {x y:Gv} (h:x.ge=y.ge):anE x=anE y:=by
 unfold anE;rw[pg_E,pg_E,h]
theorem anA_ge {x y:Gv} (h:x.ge=y.ge):anA x=anA y:=by
 unfold anA;rw[begB_Q,begB_Q,h,anE_ge h]
theorem liA_ge {x y:Gv} (h:x.ge=y.ge):liA x=liA y:=by
 unfold liA liE;rw[begB_Q,begB_Q,h,anE_ge h,begS_ge h]
set_option maxHeartbeats 8000000 in
theorem gback_t (n0 n1 n2 n4:Int) (A:Option Addr) (n c:Nat) (F:Nat→Av) (w:World) (hn:n≤9223372036854775807) (hA:AW w A n F) (hq:∀ j,j<n→InRq (F j).r.r) (hi:KI w) (hk:KAt w):
  Calls Tryz.prog 4 #[.int .i64 n0,.int .i64 n1,.int .i64 n2,.slice A n c,.int .i64 n4] w λe w'=>e= .returned (.bool true)∧Below w.heap.size w w':=by
 have HA:=hid hA;have HQ:=hid hq;have HI:=hid hi;have HK:=hid hk;have HG:=hid hk.lt;clear hA hq hi hk;obtain⟨kf,hkf,hke⟩:=mod_sX 3 (by decide) (by decide) n0;have hke:wrap64 ((IntKind.u64.wrap n0).tmod 3)=(kf:Int):=hke;have h1:=al15X n1;have h2:=al15X n2;obtain⟨a,ha⟩:∃ a,bits .and .i64 n1 15=a:=⟨_,rfl⟩;obtain⟨b,hb⟩:∃ a,bits .and .i64 n2 15=a:=⟨_,rfl⟩;have NS:=hid (show(newS n1 n2).rd=a∧(newS n1 n2).wr=b∧newS a b=newS n1 n2∧MayS (newS n1 n2) from⟨ha,hb,by rw[←ha,←hb];exact newS_al n1 n2,newS_may n1 n2 (al15X n1) (al15X n2)⟩);rw[ha] at h1;rw[hb] at h2
 go_enter Tryz.func4,Tryz.ntmps4
 go_wp2_with fail
 refine(fakeC_t kf a b (by omega) w).mono ?_
 rintro e w1 ⟨y,hx,rfl,gx,ow,nk,gc,b1⟩
 have hx:y.ge=fakeE kf a b:=hx;clear hke ha hb;have FX_y:=hid (gv_size y);have FO_y:=hid (gv_one y);have Z_y:=hid (Blk.new w1 25 (gv zGv));have K_y:=hid (Z_y.out.setRow (gv y));have B_y:=hid (below_setRow ((Below.refl (w1).heap.size w1).alloc (Nat.le_refl _) (.cells (gv zGv).toArray 25)) (Nat.le_refl _) (gv y).toArray)
 go_upto_region 2 with((with_reducible refine at_op (.store 25 (.tmp 11) (.tmp 30)) rfl ?_);go_must (refine store_blk 25 (.tmp 11) (.tmp 30) (w1).heap.size 25 (gv zGv) (gv y) rfl rfl Z_y.out rfl FX_y.out FO_y.out rfl rfl ?_))
 obtain⟨V1,hV1⟩:∃ V,((w1).alloc (.cells (gv zGv).toArray 25)).setRow (w1).heap.size (gv y).toArray=V:=⟨_,rfl⟩;change Code.wp _ _ _ _ (((w1).alloc (.cells (gv zGv).toArray 25)).setRow (w1).heap.size (gv y).toArray);rw[hV1] at K_y B_y ⊢;clear hV1 Z_y FO_y;have HX:=hid hx;have H12:=hid (And.intro h1 h2);obtain⟨gF,hgF⟩:∃ g,w1.heap.size=g:=⟨_,rfl⟩;have KY:=hid (show KY9 y from by
  have hks:y.ks.map (·.X)=(List.range (3 * kf+1)).map fakeX:=congrArg Ge.ks hx;have hX:∀ z∈y.ks,∃ i,i<10∧z.X=fakeX i:=λz hz=>by
   have h:z.X∈y.ks.map (·.X):=List.mem_map_of_mem hz;rw[hks] at h;obtain⟨i,hi,e⟩:=List.mem_map.1 h;exact⟨i,by have:=List.mem_range.1 hi;omega,e.symm⟩
  refine⟨λz hz=>?_,?_,gc⟩
  ·obtain⟨i,hi,e⟩:=hX z hz;rw[e,fakeX_len];exact⟨fakeX_bytes i hi,by decide⟩
  ·have h:=congrArg List.length hks;simp at h;omega)
 have HS0:=hid (show y.st=[] from congrArg Ge.st hx);rw[hgF] at K_y ⊢;have RN:=hid (refNew_t n1 n2 V1);have P1:=hid (show Blk V1 gF 25 (gv y)∧V1.ownsRow w.heap.size 23 1 (.slice y.kp y.ks.length y.kc) y.ks.length (y.ks.flatMap kyv)∧(∀ z∈y.ks,NK V1 w.heap.size z)∧Below w.heap.size w V1∧w.heap.size≤gF from
  ⟨K_y.out,own_below ow B_y.out,λz hz=>(nk z hz).below B_y.out,b1.trans (B_y.out.mono b1.size),by rw[←hgF];exact b1.size⟩)
 clear hgF K_y B_y gx ow nk gc b1 hx h1 h2;go_wp2_with fail
 refine RN.out.mono ?_
 rintro e w2 ⟨rfl,b2⟩
 obtain⟨x0,hx0⟩:∃ x,nsp n1 n2 0 1 2 3=x:=⟨_,rfl⟩;have wx0:=nsp_w n1 n2 0 1 2 3 w2;have HX0:=hid (show x0.sp=newS n1 n2∧(∀ F,OffS F x0)∧∀ W,SpW W x0 from by rw[←hx0];exact⟨nsp_sp n1 n2,λF=>off_nsp F n1 n2,λW=>nsp_w n1 n2 0 1 2 3 W⟩);rw[hx0] at wx0 ⊢;have B2:=hid b2;clear hx0 RN b2;have FX_x0:=hid (sv_size x0 wx0.l4);have FO_x0:=hid (sv_one x0);have SL_x0:=hid (sv_len x0 wx0.l4);have Z_x0:=hid (Blk.new w2 46 [.int .i64 0,.slice none 0 0,.slice none 0 0,.int .i64 0,.int .i64 0,.int .i64 0,.int .i64 0,.int .i64 0,.slice none 0 0,.bool false,.int .i64 0,.int .i64 0,.int .i64 0,.slice none 0 0,.bool false,.int .i64 0,.int .i64 0,.int .i64 0,.slice none 0 0,.bool false,.int .i64 0,.int .i64 0,.int .i64 0,.slice none 0 0,.bool false]);have KN_x0:=hid (KSp.new (w1:=w2) (x:=x0) wx0)
 go_upto_region 3 with((with_reducible refine at_op (.store 46 (.tmp 12) (.tmp 33)) rfl ?_);go_must (refine store_blk 46 (.tmp 12) (.tmp 33) (w2).heap.size 46 _ (sv x0) rfl rfl Z_x0.out SL_x0.out.symm FX_x0.out FO_x0.out rfl rfl ?_))
 obtain⟨V2,hV2⟩:∃ V,((w2).alloc (.cells #[.int .i64 0,.slice none 0 0,.slice none 0 0,.int .i64 0,.int .i64 0,.int .i64 0,.int .i64 0,.int .i64 0,.slice none 0 0,.bool false,.int .i64 0,.int .i64 0,.int .i64 0,.slice none 0 0,.bool false,.int .i64 0,.int .i64 0,.int .i64 0,.slice none 0 0,.bool false,.int .i64 0,.int .i64 0,.int .i64 0,.slice none 0 0,.bool false] 46)).setRow (w2).heap.size (sv x0).toArray=V:=⟨_,rfl⟩;rw[hV2] at KN_x0 ⊢;have K_x0:=hid KN_x0.out.1;have B_x0:=hid KN_x0.out.2;clear hV2 KN_x0 Z_x0 FO_x0 SL_x0;obtain⟨g,hg⟩:∃ g,w2.heap.size=g:=⟨_,rfl⟩;have PB0:=hid (show PG9 w V2 gF g y x0 from by
  have bb:=B2.out.trans (B_x0.out.mono B2.out.size);refine⟨P1.out.1.below bb P1.out.1.lt,own_below P1.out.2.1 bb,λz hz=>(P1.out.2.2.1 z hz).below bb,?_,HX0.out.2.2 _,HX0.out.2.1 _,by rw[HX0.out.1];exact NS.out.2.2.2,by rw[HX0.out.1];exact in_newG n1 n2,P1.out.2.2.2.2,?_,P1.out.2.2.2.1.trans (bb.mono P1.out.2.2.2.1.size)⟩
  ·rw[←hg];exact K_x0.out.box
  ·rw[←hg];exact Nat.lt_of_lt_of_le P1.out.1.lt B2.out.size)
 rw[hg];clear hg K_x0 B_x0 FX_x0 B2 P1 wx0
 go_upto_block 0 with(fail)
 go_cut [13] from 34 to 64 (λ_ wx=>∃ x,PG9 w wx gF g y x∧x.sp.rd=a∧x.sp.wr=b∧(n=0→x.sp=newS n1 n2))
 case first=>
  go_wp2_with fail
  go_loopw [13,14] (λs t wr=>∃ (i:Nat) (now:Int) (x:Spv),i≤n∧(i:Int)≤20∧s= .int .i64 now∧t= .int .i64 (i:Int)∧now≤20 * (i:Int)∧0≤now∧PG9 w wr gF g y x∧x.sp.rd=a∧x.sp.wr=b∧(i=0→x.sp=newS n1 n2)) (λ_ t _=>n- (intOf t).toNat)
  case atStart=>exact⟨0,0,x0,by omega,by omega,rfl,rfl,by omega,by omega,PB0.out,by rw[HX0.out.1];exact NS.out.1,by rw[HX0.out.1];exact NS.out.2.1,λ_=>HX0.out.1⟩
  case round=>
   clear PB0;obtain⟨j,now,x,hj,hj40,rfl,rfl,hn20,hn0,px,hrd,hwr,hst⟩:=hrel;have PX:=hid px;have HN20:=hid hn20;have HRW:=hid (And.intro hrd (And.intro hwr hst));clear px hrd hwr hst
   by_cases hlt:j<n
   ·by_cases hm:(j:Int)<20
    ·obtain⟨bq,o,rfl,hbl,rg0,cd0⟩:=HA.out.read hlt;have rg:=rows_below rg0 PX.out.bel hbl;have cd:=(PX.out.bel.cell (p:=⟨bq,o+j * 7+6,none⟩) hbl).trans cd0;clear rg0 cd0;have j1:(j:Int)< (n:Int):=by omega
     have n800:now≤800:=by omega
     obtain⟨q,hq⟩:∃ q,F j=q:=⟨_,rfl⟩;have HRY:=hid (show RvW w q.r by rw[←hq];exact HA.out.r j hlt);have HQY:=hid (show InRq q.r.r by rw[←hq];exact HQ.out j hlt);rw[hq] at rg cd;obtain⟨k,hk,hke⟩:=mod_s 20 (by decide) (by decide) q.d;rw[show((20:Nat):Int)=20 from rfl] at hke;have k1:(k:Int)<20:=by omega
     have RG:=hid rg;have HBL:=hid hbl;have HK20:=hid (show now+(k:Int)≤20 * ((j+1:Nat):Int)∧(j:Int)+1≤20∧0≤now+(k:Int) from⟨by have:=HN20.out;omega,by omega,by omega⟩);clear hq rg hbl hn20 hk
     go_upto_region 8 with(fail)
     obtain⟨now',hnw⟩:∃ z,now+(k:Int)=z:=⟨_,rfl⟩;rw[hnw] at HK20 ⊢;have FXU:=hid (sv_size x PX.out.sp.l4);have FR:=hid (rv_size q.r);obtain⟨U,hU⟩:∃ U,wr.drew=U:=⟨_,rfl⟩;have BU:=hid (show Below wr.heap.size wr U from by rw[←hU];exact(Below.refl _ _).drew);have PU:=hid (PX.out.below BU.out);have HBW:=hid (show bq<wr.heap.size from Nat.lt_of_lt_of_le HBL.out PX.out.bel.size);have G1:U.rangeAt bq (o+j * 7) (rv q.r):=rows_below RG.out BU.out HBW.out;have HBU:=hid (show bq<U.heap.size from Nat.lt_of_lt_of_le HBW.out BU.out.size);have BX:=hid PU.out.box;have HGL:=hid (show w.heap.size≤g from by have h1:=PX.out.gf;have h2:=PX.out.gg;omega);have HBG:=hid (show bq≠g by have:=HGL.out;have:=HBL.out;omega);have hF:∀ k,(k=g∨k=gF)→w.heap.size≤k:=λk e=>by
      have h1:=PX.out.gf;have h2:=HGL.out;rcases e with e |e<;>omega
     have DO_:=hid (refDoE_t (E:=λk=>k=g∨k=gF) x now' q.r U PU.out.sp (HRY.out.below PU.out.bel) PU.out.off ((tr_fl HRY.out.p HRY.out.n).offNew hF) ((tr_fl HRY.out.t HRY.out.m).offNew hF) (λk e=>by
      have h1:=PU.out.box.lt;have h2:=PU.out.bf.lt;rcases e with e |e<;>omega))
     clear hnw PX RG HBL hke k1 cd HGL hF;refine wp_region_E (λY=>Y.rangeAt bq (o+j * 7) (rv q.r)) (λ_=>false) (by kernel_rfl) ?_;change wpAnyE _ _ _ _ _ _ _ _ _ wr.drew;rw[hU];clear hU;refine tkea9 1 G1 ?_;refine tkea9 2 G1 ?_;refine tkea9 3 G1 ?_;refine tkea9 4 G1 ?_;refine tkea9 5 G1 ?_;refine wpAnyE_take (i:=6) (v:= .agg (rv q.r).toArray) rfl (by kernel_rfl) (by kernel_rfl) (by kernel_rfl) (by kernel_rfl) (λ_ _ _ h=>h) (yieldsIf_load_mid (by kernel_rfl) 54 (.tmp 60) rfl bq (o+j * 7) (by go_simp) (rv q.r) _ (λ_ h=>h) Tryz.underlying54 rfl (FR.out)) G1 ?_;refine wpAnyE_load (i:=0) (by kernel_rfl) rfl (by kernel_rfl) 46 (.tmp 12) g 46 (sv x) _ rfl BX.out Tryz.underlying46 rfl FXU.out rfl (.inr G1) ?_;refine wpAnyE_one (i:=7) (by kernel_rfl) rfl (by kernel_rfl) (λK hK=>?_);go_simp;refine DO_.out.mono ?_
     rintro e w2 ⟨x',R,q',c',rfl,p', -,s', -, -,o',b'⟩
     have HL4:=hid (show x'.last.length=4 from s'.l4);have FX2:=hid (sv_size x' HL4.out);have FO2:=hid (sv_one x');have SL2:=hid (sv_len x' HL4.out);have SL1:=hid (sv_len x PU.out.sp.l4);have S2:=hid s';have B2:=hid b';have O2:=hid o';have M2:=hid (show MayS x'.sp∧InS x'.sp∧x'.sp.rd=a∧x'.sp.wr=b from by
      rw[p'];refine⟨(do_ok PU.out.mx now' q.r.r).1,do_in PU.out.inn now' q.r.r (λf hf=>?_) (λf hf=>?_),(do_kept _ _ _).1.trans HRW.out.1,(do_kept _ _ _).2.1.trans HRW.out.2.1⟩
      ·obtain⟨i,hi,rfl⟩:=List.mem_map.1 hf;exact HQY.out.p i (List.mem_range.1 hi)
      ·obtain⟨i,hi,rfl⟩:=List.mem_map.1 hf;exact HQY.out.t i (List.mem_range.1 hi))
     have BX2:=hid (BX.out.below b' BX.out.lt);have G2:w2.rangeAt bq (o+j * 7) (rv q.r):=rows_below G1 b' HBU.out;refine hK.out _ _ (.inr G2) ?_;clear hK K s' b' p' o' DO_ G1 BX;refine tkea9 8 G2 ?_;refine tkea9 9 G2 ?_;refine tkea9 10 G2 ?_;refine wpAnyE_store (i:=11) (by kernel_rfl) rfl (by kernel_rfl) 46 (.tmp 12) (.tmp 63) g 46 (sv x) (sv x') rfl BX2.out (SL1.out.trans SL2.out.symm) FX2.out FO2.out rfl rfl λwz rz KZ=>?_
     have RZ:=hid rz;have P3:=hid (PU.out.put B2.out S2.out O2.out M2.out.1 M2.out.2.1 KZ RZ.out);have G3:wz.rangeAt bq (o+j * 7) (rv q.r):=λi v hv=>by
      exact(KZ.cell (p:=⟨bq,o+j * 7+i,none⟩) (Nat.lt_of_lt_of_le HBU.out B2.out.size) HBG.out).trans (G2 i v hv)
     refine⟨.inr G3,?_⟩;clear G2 G3 KZ rz;refine wpAnyE_done (by kernel_rfl) ?_ _;go_simp;go_wp2_with fail
     exact⟨⟨j+1,now',x',hlt,by have:=HK20.out.2.1;omega,rfl,by go_num,HK20.out.1,HK20.out.2.2,P3.out,M2.out.2.2.1,M2.out.2.2.2,λh=>by omega⟩,by simp[intOf];omega⟩
    ·have hmf:decide ((j:Int)<20)=false:=decide_eq_false hm;have j1:(j:Int)< (n:Int):=by omega
     clear hm;go_wp2_with fail
     go_meet
     exact⟨x,PX.out,HRW.out.1,HRW.out.2.1,λh=>by omega⟩
   ·obtain rfl:j=n:=by omega
    clear hlt;go_wp2_with fail
    go_meet
    exact⟨x,PX.out,HRW.out.1,HRW.out.2.1,HRW.out.2.2⟩
 case rest=>
 obtain⟨x,pb,hrd,hwr,hst⟩:=hcut;have P3:=hid pb;have HRW:=hid (And.intro hrd (And.intro hwr hst));obtain⟨w3,hw3⟩:∃ W,wc=W:=⟨_,rfl⟩;rw[hw3] at P3 ⊢;clear pb hw3 PB0 HA HQ hrd hwr hst HX0;have HN:=hid hn
 go_upto_if 67 with(fail)
 go_cut [10] from 65 to 70 (λs10 wx=>s10= .bool false∧∃ y':Gv,PH9 w wx gF g y' x∧KY9 y'∧y'.ge=⟨(kf:Int),a,b,(List.range (3 * kf+1)).map fakeX,y'.st⟩∧((n=0∧y'.st=[])∨(0<n∧y'.st=putS x.sp)))
 case first=>
  by_cases n0':n=0
  ·have i1:(n:Int)=0:=by omega
   have i2:¬ (0<n):=by omega
   have i3:decide ((0:Int)< (n:Int))=false:=decide_eq_false (by omega);go_wp2_with fail
   go_meet
   refine⟨rfl,y,⟨P3.out.bf,gw9 P3.out.ow P3.out.nk KY.out (by rw[HS0.out];exact Sr.nil) (by rw[HS0.out];exact nil_bytes) (by rw[HS0.out];exact Nat.zero_le _) (by rw[HS0.out];exact Nat.zero_le _),P3.out.box,P3.out.sp,P3.out.bel⟩,KY.out,?_,.inl ⟨n0',HS0.out⟩⟩;rw[HX.out,HS0.out];rfl
  ·have i2:0<n:=by omega
   have i3:(0:Int)< (n:Int):=by omega
   have I2:=hid i2;have FXS:=hid (sv_size x P3.out.sp.l4);have KB:=hid P3.out.box;have MX:=mayS_iff.2 P3.out.mx;have L4:x.sp.last.length=4:=by show(x.last.map (·.r)).length=4;rw[List.length_map];exact P3.out.sp.l4
   have LE:=hid (putS_le MX L4);have PBY:=hid (putS_bytes x.sp);have PT:=hid (refPutS_t x w3 P3.out.sp MX);obtain⟨ps,hps⟩:∃ l,putS x.sp=l:=⟨_,rfl⟩;have HPS:=hid hps;rw[hps] at PT LE PBY;clear MX L4 hps
   go_wp2_with ((with_reducible refine load_blk 46 (.tmp 12) g 46 (sv x) _ rfl rfl ?_ Tryz.underlying46 ?_ ?_ ?_ ?_);exact KB.out;exact rfl;exact FXS.out;exact rfl)
   refine PT.out.mono ?_
   rintro e w4 ⟨u,rfl,fr⟩
   obtain⟨A1,c1,hu,hc1⟩:=own_form fr.1;subst hu;have P4:=hid (P3.out.below fr.2);have O4:=hid (own_base (base':=w.heap.size) fr.1 (λk e=>Nat.le_trans P3.out.bel.size (fr.1.lt k e).1));have C1:=hid hc1;clear fr hc1 PT KB P3;have fz:=P4.out.bf.frozen 4;have ct:w4.cell? ⟨gF,4,none⟩=some (.slice y.sp y.st.length y.sc):=(gv_cells P4.out.bf).2.2.2.2;have kz:Kept (λk=>k=gF) w4 (w4.setCell ⟨gF,4,none⟩ (.slice A1 ps.length c1)):=Kept.setCell (F:=λk=>k=gF) (Kept.refl _ _) (p:=⟨gF,4,none⟩) (.inl rfl) _;have P5:=hid (show PH9 w (w4.setCell ⟨gF,4,none⟩ (.slice A1 ps.length c1)) gF g { y with sp:=A1,sc:=c1,st:=ps } x from by
    have p:=P4.out;have o:=own_kept O4.out kz (λk e q=>own_apart O4.out p.bf (by decide) (by rw[e,q]));have ow:=own_kept p.ow kz (λk e q=>own_apart p.ow p.bf (by decide) (by rw[e,q]));refine⟨p.bf.store 4 (.slice A1 ps.length c1),gw9 (y:= { y with sp:=A1,sc:=c1,st:=ps }) ow (λz hz=>?_) KY.out (Sr.of_own o) PBY.out (by have:=LE.out;show ps.length≤_;omega) C1.out,p.box.kept kz (by have:=p.gg;omega),?_,kept_below p.bel kz p.gf⟩
    ·obtain⟨bz,h1,h2,h3⟩:=p.nk z hz;exact⟨bz,h1,h2,h3.kept kz (h3.apart p.bf (by decide))⟩
    ·exact p.sp.keptF kz (p.off.mono λk e=> .inr e))
   clear kz P4 O4 C1;go_wp2_with fail
   go_meet
   refine⟨rfl,_,P5.out,KY.out,?_,.inr ⟨I2.out,HPS.out.symm⟩⟩;have h:=HX.out;unfold Gv.ge fakeE at h;unfold Gv.ge;simp only[Ge.mk.injEq] at h ⊢;exact⟨h.1,h.2.1,h.2.2.1,h.2.2.2.1,trivial⟩
 case rest=>
 obtain⟨rfl,y',ph,ky,hge,hst⟩:=hcut;have QE:=hid (show begQ y'.ge=true from by
  rw[hge];rcases hst with⟨_,e⟩ |⟨_,e⟩
  ·rw[e];exact fakeE_ok kf a b (by omega) H12.out.1 H12.out.2
  ·rw[e];exact begQ_st (by omega) H12.out.1 H12.out.2 (mayS_iff.2 P3.out.mx) (by show(x.last.map (·.r)).length=4;rw[List.length_map];exact P3.out.sp.l4) P3.out.inn HRW.out.1 HRW.out.2.1)
 have L4:=hid (show x.sp.last.length=4 from by show(x.last.map (·.r)).length=4;rw[List.length_map];exact P3.out.sp.l4);have SL:=hid (show y'.st.length≤30000 from by
  rcases hst with⟨_,e⟩ |⟨_,e⟩
  ·rw[e];exact Nat.zero_le _
  ·rw[e];exact st_len (mayS_iff.2 P3.out.mx) L4.out)
 have YB:=hid (show y'.rd=a∧y'.wr=b from⟨congrArg Ge.rd hge,congrArg Ge.wr hge⟩);have BS:=hid (show begS y'=x.sp from by
  rcases hst with⟨e0,e⟩ |⟨_,e⟩
  ·rw[begS_new QE.out e,YB.out.1,YB.out.2,NS.out.2.2.1,HRW.out.2.2 e0]
  ·rw[begS_st QE.out (by rw[e];have:=putS_pos x.sp;omega),e];exact(frontS_ok (mayS_iff.2 P3.out.mx) L4.out P3.out.inn).1)
 obtain⟨ax,hax⟩:∃ q,bits .xor .i64 a 1=q:=⟨_,rfl⟩;have XA:=xor1_al H12.out.1;rw[hax] at XA;obtain⟨rb,hrb⟩:∃ q,decide (n=0)=q:=⟨_,rfl⟩;have BQ2:=hid (show begQ { y'.ge with rd:=ax } =rb from by
  have q:=QE.out;unfold begQ at q;simp only[Bool.and_eq_true] at q;obtain⟨q1,q2,q3,q4,q5⟩:=q
  show(fltB y'.ge.f && (alB ax && (alB y'.ge.wr && (mayK y'.ge.f y'.ge.ks && stQ ax y'.ge.wr y'.ge.st))))=rb
  rw[q1,XA.1,q3,q4,Bool.true_and,Bool.true_and,Bool.true_and,Bool.true_and,←hrb];rcases hst with⟨e0,e⟩ |⟨e0,e⟩
  ·have e':y'.ge.st=[]:=e;rw[decide_eq_true e0,e'];rfl
  ·have e':y'.ge.st=putS x.sp:=e;have fo:=frontS_ok (mayS_iff.2 P3.out.mx) L4.out P3.out.inn;rw[decide_eq_false (by omega),e'];unfold stQ;rw[fo.1,fo.2,HRW.out.1,decide_eq_false (by have:=putS_pos x.sp;omega)];have:(a == ax)=false:=by rw[beq_eq_false_iff_ne];exact λe=>XA.2 e.symm
   rw[this];rfl)
 have HRB:=hid (show((n:Int) == 0)=rb from by rw[←hrb,Bool.eq_iff_iff,beq_iff_eq,decide_eq_true_iff];omega);have P4:=hid ph;have KC:=hid ky.2.2;have HAX:=hid hax;have KYB:=hid (show ∀ z∈y'.ge.ks,Bytes z from λz hz=>by
  obtain⟨v,hv,rfl⟩:=List.mem_map.1 hz;exact(ky.1 v hv).1)
 obtain⟨w4,hw4⟩:∃ W,wc=W:=⟨_,rfl⟩;rw[hw4] at P4 ⊢;clear ph ky hge hst hax hrb hw4 XA P3 HRW NS KY HX HS0 L4 H12 HN;have PT:=hid (gPut_t y' w4 P4.out.gw (HI.out.kept P4.out.bel));rw[erP_yes QE.out,byP_yes QE.out] at PT;have m:=begQ_h QE.out;have LE:=hid (show(putE y'.ge).length≤40000∧0< (putE y'.ge).length from by
  have hf:y'.ge.ks.flatten.length=56 * y'.ge.ks.length:=flat56 m.k;have h1:=m.n;have h2:=m.f2;have h3:=SL.out;unfold putE putG txtN;simp only[List.length_append,beN_length,hf];have h4:y'.ge.st.length≤30000:=h3;omega)
 have ST4:=hid (show y'.ge.st.length<4294967296 from by have:=SL.out;show y'.st.length<_;omega);have FO:=hid (frontE_ok QE.out ST4.out);have PBY:=hid (show Bytes (putE y'.ge) from putE_bytes KYB.out P4.out.gw.sb);have TK:=hid (λj (hj:j< (putE y'.ge).length)=>take_noE QE.out ST4.out PBY.out (by have:=LE.out.1;omega) hj);obtain⟨xs,hxs⟩:∃ l,putE y'.ge=l:=⟨_,rfl⟩;rw[hxs] at PT LE FO PBY;simp only[hxs] at TK;obtain⟨L,hL⟩:∃ L,xs.length=L:=⟨_,rfl⟩;rw[hL] at LE;simp only[hL] at TK;have HL:=hid hL;obtain⟨k,hkk,hke⟩:=mod_bigTX L LE.out.2 (by have:=LE.out.1;omega) n4;have HKL:=hid hkk;have HKE:=hid hke;clear m hxs hL hkk hke ST4 KYB;have FXF:=hid (gv_size y');have KB:=hid P4.out.bf
 go_wp2_with ((with_reducible refine load_blk 25 (.tmp 11) gF 25 (gv y') _ rfl rfl ?_ Tryz.underlying25 ?_ ?_ ?_ ?_);exact KB.out;exact rfl;exact FXF.out;exact rfl)
 refine PT.out.mono ?_
 rintro e w5 ⟨u,rfl,fr⟩
 have o5:=fr.1;rw[HL.out] at o5;obtain⟨ga,c5,rfl,hc5⟩:=own_formTX o5 LE.out.2;have P5:=hid (P4.out.below fr.2);have S5:=hid (Sr.of_own o5);have HC5:=hid hc5;clear o5 fr hc5 PT P4 KB;have i2:((L:Int) == 0)=false:=by rw[beq_eq_false_iff_ne];have:=LE.out.2;omega
 have GT:=hid (gGet_t xs (some ⟨ga,0,none⟩) L c5 w5 HL.out S5.out PBY.out (by have:=LE.out.1;omega) (HI.out.kept P5.out.bel));go_wp2_with fail
 clear i2;refine GT.out.mono ?_
 rintro e w6 ⟨b6,hh⟩
 obtain⟨z,hz,rfl,gz⟩:∃ z:Gv,z.ge=y'.ge∧e= .returned (.tuple #[.agg (gv z).toArray,.int .i64 0])∧GvW w6 z:=by
  rcases hh with⟨h1,_⟩ |⟨_,z,h1,h2,h3⟩
  ·rw[FO.out.2] at h1;cases h1
  ·exact⟨z,h1.trans FO.out.1,h2,h3⟩
 have P6:=hid (P5.out.below b6);have S6:=hid (S5.out.below b6);have HZ:=hid hz;clear hh GT P5 S5 b6 hz FO;have FX_z:=hid (gv_size z);have FO_z:=hid (gv_one z);have Z_z:=hid (Blk.new w6 25 (gv zGv));have K_z:=hid (Z_z.out.setRow (gv z));have B_z:=hid (below_setRow ((Below.refl (w6).heap.size w6).alloc (Nat.le_refl _) (.cells (gv zGv).toArray 25)) (Nat.le_refl _) (gv z).toArray)
 go_upto_region 15 with((with_reducible refine at_op (.store 25 (.tmp 17) (.tmp 86)) rfl ?_);go_must (refine store_blk 25 (.tmp 17) (.tmp 86) (w6).heap.size 25 (gv zGv) (gv z) rfl rfl Z_z.out rfl FX_z.out FO_z.out rfl rfl ?_))
 obtain⟨V6,hV6⟩:∃ V,((w6).alloc (.cells (gv zGv).toArray 25)).setRow (w6).heap.size (gv z).toArray=V:=⟨_,rfl⟩;change Code.wp _ _ _ _ (((w6).alloc (.cells (gv zGv).toArray 25)).setRow (w6).heap.size (gv z).toArray);rw[hV6] at K_z B_z ⊢;clear hV6 Z_z FO_z;have P7:=hid (P6.out.below B_z.out);have S7:=hid (S6.out.below B_z.out);have GZ:=hid (gz.below B_z.out);obtain⟨g17,hg17⟩:∃ g,w6.heap.size=g:=⟨_,rfl⟩;rw[hg17] at K_z ⊢;clear gz B_z hg17 P6 S6;have i3:(L:Int)≠0:=by have:=LE.out.2;omega
 have i4:IntKind.u64.wrap (L:Int)=(L:Int):=IntWalk.u64_in _ (by have:=LE.out.1;omega);have hke:=HKE.out;have hs1:=slice_high (P:=Tryz.prog) (t:=23) (e:=5) Tryz.underlying23 byte_size (some ⟨ga,0,none⟩) L c5 .i64 k (by have:=HKL.out;have:=HC5.out;omega);go_wp2_with fail
 clear i3 i4 hke hs1;have HTL:=hid (show(xs.take k).length=k by rw[List.length_take,HL.out];have:=HKL.out;omega);refine(gGet_t (xs.take k) _ k c5 V6 HTL.out (S7.out.take k) (bytes_take PBY.out k) (by have:=LE.out.1;have:=HKL.out;omega) (HI.out.kept P7.out.bel)).mono ?_
 rintro e w7 ⟨b7,hh⟩
 rcases hh with⟨_,rfl⟩ |⟨hbad,_⟩;rotate_left 1
 ·rw[TK.out k HKL.out] at hbad;cases hbad
 have P8:=hid (P7.out.below b7);have GZ8:=hid (GZ.out.below b7);have K8:=hid (K_z.out.below b7 K_z.out.lt);clear b7 HTL P7 S7 TK GZ K_z HL PBY HKL HKE HC5 LE;obtain⟨zA,hzA⟩:∃ y,zGv=y:=⟨_,rfl⟩;rw[hzA];clear hzA;have FX_zA:=hid (gv_size zA);have FO_zA:=hid (gv_one zA);have Z_zA:=hid (Blk.new w7 25 (gv zGv));have K_zA:=hid (Z_zA.out.setRow (gv zA));have B_zA:=hid (below_setRow ((Below.refl (w7).heap.size w7).alloc (Nat.le_refl _) (.cells (gv zGv).toArray 25)) (Nat.le_refl _) (gv zA).toArray)
 go_upto_region 16 with((with_reducible refine at_op (.store 25 (.tmp 19) (.tmp 99)) rfl ?_);go_must (refine store_blk 25 (.tmp 19) (.tmp 99) (w7).heap.size 25 (gv zGv) (gv zA) rfl rfl Z_zA.out rfl FX_zA.out FO_zA.out rfl rfl ?_))
 obtain⟨V7,hV7⟩:∃ V,((w7).alloc (.cells (gv zGv).toArray 25)).setRow (w7).heap.size (gv zA).toArray=V:=⟨_,rfl⟩;change Code.wp _ _ _ _ (((w7).alloc (.cells (gv zGv).toArray 25)).setRow (w7).heap.size (gv zA).toArray);rw[hV7] at K_zA B_zA ⊢;clear hV7 Z_zA FO_zA;have P9:=hid (P8.out.below B_zA.out);have GZ9:=hid (GZ8.out.below B_zA.out);have K9:=hid (K8.out.below B_zA.out K8.out.lt);clear P8 GZ8 K8 B_zA K_zA FX_zA;have KB:=hid P9.out.bf;have FOF:=hid (gv_one y');have Z1:=hid (Blk.new V7 25 (gv zGv));have K1:=hid (Z1.out.setRow (gv y'));have B1:=hid (below_setRow ((Below.refl V7.heap.size V7).alloc (Nat.le_refl _) (.cells (gv zGv).toArray 25)) (Nat.le_refl _) (gv y').toArray)
 go_upto_region 17 with(first
  |((with_reducible refine load_blk 25 (.tmp 11) gF 25 (gv y') _ rfl rfl ?_ Tryz.underlying25 ?_ ?_ ?_ ?_);exact KB.out;exact rfl;exact FXF.out;exact rfl)
  |((with_reducible refine at_op (.store 25 (.tmp 21) (.tmp 101)) rfl ?_);go_must (refine store_blk 25 (.tmp 21) (.tmp 101) V7.heap.size 25 (gv zGv) (gv y') rfl rfl Z1.out rfl FXF.out FOF.out rfl rfl ?_)))
 obtain⟨V8,hV8⟩:∃ V,(V7.alloc (.cells (gv zGv).toArray 25)).setRow V7.heap.size (gv y').toArray=V:=⟨_,rfl⟩;change Code.wp _ _ _ _ ((V7.alloc (.cells (gv zGv).toArray 25)).setRow V7.heap.size (gv y').toArray);rw[hV8] at K1 B1 ⊢;obtain⟨g21,hg21⟩:∃ g,V7.heap.size=g:=⟨_,rfl⟩;have B1g:=hid (show Below g21 V7 V8 from by rw[←hg21];exact B1.out);rw[hg21] at K1 ⊢;have P10:=hid (P9.out.below B1.out);have cF:V8.cell? ⟨gF,1,none⟩=some (.int .i64 a):=by rw[←YB.out.1];exact(gv_cells P10.out.bf).2.1
 have c1:V8.cell? ⟨g21,1,none⟩=some (.int .i64 a):=by rw[←YB.out.1];exact(gv_cells K1.out).2.1
 have f1:=K1.out.frozen 1;have hax:=HAX.out;clear hV8 Z1 KB FOF
 go_upto_region 18 with(fail)
 clear cF c1 f1 hax;have B2:=hid (show Below V7.heap.size V7 (V8.setCell ⟨g21,1,none⟩ (.int .i64 ax)) from by rw[hg21];exact B1g.out.setCell (p:=⟨g21,1,none⟩) (Nat.le_refl _) _);obtain⟨y2,hy2⟩:∃ q:Gv, { y' with rd:=ax } =q:=⟨_,rfl⟩;have K2:=hid (show Blk (V8.setCell ⟨g21,1,none⟩ (.int .i64 ax)) g21 25 (gv y2) from by rw[←hy2];exact K1.out.store 1 (.int .i64 ax));have BY2:=hid (show begB y2=rb from by rw[←hy2];exact BQ2.out);obtain⟨V9,hV9⟩:∃ V,V8.setCell ⟨g21,1,none⟩ (.int .i64 ax)=V:=⟨_,rfl⟩;rw[hV9] at B2 K2 ⊢;obtain⟨U,hU⟩:∃ U,V9.drew=U:=⟨_,rfl⟩;have BU:=hid (show Below V9.heap.size V9 U from by rw[←hU];exact(Below.refl _ _).drew);have BVU:=hid (B2.out.trans (BU.out.mono B2.out.size));have PU:=hid (P9.out.below BVU.out);have GZU:=hid (GZ9.out.below BVU.out);have KZU:=hid (K9.out.below BVU.out K9.out.lt);have K2U:=hid (K2.out.below BU.out K2.out.lt);have GY2:=hid (show GvW U y2 from by
  rw[←hy2];have q:=PU.out.gw;exact⟨q.ks,q.k,q.kb,q.kn,q.kl,q.st,q.sb,q.sl,q.sc⟩)
 have FX2:=hid (gv_size y2);have FXS:=hid (sv_size x PU.out.sp.l4);clear hg21 hy2 hV9 B1 B1g K1 P9 P10 GZ9 K9 B2 BU BVU K2 BQ2 HAX;have SU:=hid (λ(Y:World) (hb:Below U.heap.size U Y)=>show Blk Y gF 25 (gv y')∧Blk Y g17 25 (gv z)∧Blk Y g 46 (sv x)∧Blk Y g21 25 (gv y2) from
  ⟨PU.out.bf.below hb PU.out.bf.lt,KZU.out.below hb KZU.out.lt,PU.out.box.below hb PU.out.box.lt,K2U.out.below hb K2U.out.lt⟩)
 have KIF:=hid (λ(Y:World) (hb:Below U.heap.size U Y)=>HI.out.kept (PU.out.bel.trans (hb.mono PU.out.bel.size)));have KAF:=hid (λ(Y:World) (hb:Below U.heap.size U Y)=>HK.out.below (PU.out.bel.trans (hb.mono PU.out.bel.size)) HG.out);have TT:=hid (λ(Y:World) (hb:Below U.heap.size U Y)=>told10_t Y (KIF.out Y hb));have SM1:=hid (λ(Y:World) (hb:Below U.heap.size U Y)=>gSame_t z y' Y (GZU.out.below hb) (PU.out.gw.below hb));rw[HZ.out,sameE_self] at SM1;have FI1:=hid (λ(Y:World) (hb:Below U.heap.size U Y)=>gFirst_t z Y (GZU.out.below hb) (KIF.out Y hb));have BSZ:=hid (show begS z=x.sp from(begS_ge HZ.out).trans BS.out);have SPS:=hid (λ(v:Spv) (Y:World) (hb:Below U.heap.size U Y) (h1:SpW Y v) (e1:v.sp=begS z)=>show Calls Tryz.prog 24 #[.agg (sv v).toArray,.agg (sv x).toArray] Y λe w'=>e= .returned (.bool true)∧Below Y.heap.size Y w' from by
  have h:=refSameSpace_t v x Y h1 (PU.out.sp.below hb);rw[spS_iff.2 (e1.trans BSZ.out)] at h;exact h)
 have SL9:=hid (show y'.st.length≤900000 from by have:=SL.out;omega);have AN1:=hid (λ(Y:World) (hb:Below U.heap.size U Y)=>gAnchorA z Y (GZU.out.below hb) (KIF.out Y hb) (KAF.out Y hb));have AN2:=hid (λ(Y:World) (hb:Below U.heap.size U Y)=>gAnchorRA y' Y (PU.out.gw.below hb) KC.out SL9.out);have LI1:=hid (λ(Y:World) (hb:Below U.heap.size U Y)=>gLinkA z Y (GZU.out.below hb) (KIF.out Y hb) (KAF.out Y hb));have LI2:=hid (λ(Y:World) (hb:Below U.heap.size U Y)=>gLinkRA y' Y (PU.out.gw.below hb) KC.out SL9.out);rw[anA_ge HZ.out] at AN1;rw[liA_ge HZ.out] at LI1;have eqA:=eqIn_hash (anA y') (anA_len y');have eqL:=eqIn_hash (liA y') (liA_len y');obtain⟨AA,hAA⟩:∃ l,anA y'=l:=⟨_,rfl⟩;obtain⟨LA,hLA⟩:∃ l,liA y'=l:=⟨_,rfl⟩;rw[hAA] at AN1 AN2 eqA;rw[hLA] at LI1 LI2 eqL;have MT:=hid (λ(Y:World) (hb:Below U.heap.size U Y)=>gMay_t y2 Y (GY2.out.below hb) (KIF.out Y hb));rw[BY2.out] at MT;have hrb:=HRB.out;clear hAA hLA;have B0:=hid (Below.refl U.heap.size U);have s0:=SU.out U B0.out;refine wp_region_held (S:=λY=>Blk Y gF 25 (gv y')∧Blk Y g17 25 (gv z)∧Blk Y g 46 (sv x)∧Blk Y g21 25 (gv y2)) (by kernel_rfl) ?_;change wpAnyH _ _ _ _ _ _ _ _ V9.drew;rw[hU];clear hU
 try go_simp
 refine rdw9 0 λK hK=>?_
 go_simp;refine(TT.out U B0.out).mono ?_
 rintro e ua ⟨rfl,b_⟩
 have Ba:=hid (show Below U.heap.size U ua from B0.out.trans (b_.mono B0.out.size));have s0:=SU.out _ Ba.out;refine hK.out _ _ s0 (λ_=>?_);clear hK K b_;refine tka9 1 s0 ?_;refine tka9 2 s0 ?_;refine tka9 3 s0 ?_;refine tka9 4 s0 ?_;refine tka9 5 s0 ?_;refine tkg9 6 (v:= .agg (gv z).toArray) (yieldsIf_load_mid (by kernel_rfl) 25 (.tmp 17) rfl g17 0 (by go_simp) (gv z) _ (λ_ h=>rows_of_blk h.2.1) Tryz.underlying25 rfl (FX_z.out)) s0 ?_;refine tkg9 7 (v:= .agg (gv y').toArray) (yieldsIf_load_mid (by kernel_rfl) 25 (.tmp 11) rfl gF 0 (by go_simp) (gv y') _ (λ_ h=>rows_of_blk h.1) Tryz.underlying25 rfl (FXF.out)) s0 ?_
 try go_simp
 refine rdw9 8 λK hK=>?_
 go_simp;refine(SM1.out ua Ba.out).mono ?_
 rintro e ub ⟨rfl,b_⟩
 have Bb:=hid (show Below U.heap.size U ub from Ba.out.trans (b_.mono Ba.out.size));have s0:=SU.out _ Bb.out;refine hK.out _ _ s0 (λ_=>?_);clear hK K b_;refine tka9 9 s0 ?_;refine tka9 10 s0 ?_;refine tka9 11 s0 ?_;refine tka9 12 s0 ?_;refine tka9 13 s0 ?_;refine tka9 14 s0 ?_;refine tkg9 15 (v:= .agg (gv z).toArray) (yieldsIf_load_mid (by kernel_rfl) 25 (.tmp 17) rfl g17 0 (by go_simp) (gv z) _ (λ_ h=>rows_of_blk h.2.1) Tryz.underlying25 rfl (FX_z.out)) s0 ?_;refine tkg9 17 (v:= .agg (sv x).toArray) (yieldsIf_load_mid (by kernel_rfl) 46 (.tmp 12) rfl g 0 (by go_simp) (sv x) _ (λ_ h=>rows_of_blk h.2.2.1) Tryz.underlying46 rfl (FXS.out)) s0 ?_
 try go_simp
 refine rdw9 16 λK hK=>?_
 go_simp;refine(FI1.out ub Bb.out).mono ?_
 rintro e uc ⟨z1,rfl,h_,y_,b_⟩
 have Bc:=hid (show Below U.heap.size U uc from Bb.out.trans (b_.mono Bb.out.size));have H_z1:=hid h_;have Y_z1:=hid y_.w;have s0:=SU.out _ Bc.out;refine hK.out _ _ s0 (λ_=>?_);clear hK K b_ h_ y_
 try go_simp
 refine rdw9 18 λK hK=>?_
 go_simp;refine(SPS.out z1 uc Bc.out Y_z1.out H_z1.out).mono ?_
 rintro e ud ⟨rfl,b_⟩
 have Bd:=hid (show Below U.heap.size U ud from Bc.out.trans (b_.mono Bc.out.size));have s0:=SU.out _ Bd.out;refine hK.out _ _ s0 (λ_=>?_);clear hK K b_;refine tka9 19 s0 ?_;refine tka9 20 s0 ?_;refine tkg9 21 (v:= .agg (gv z).toArray) (yieldsIf_load_mid (by kernel_rfl) 25 (.tmp 17) rfl g17 0 (by go_simp) (gv z) _ (λ_ h=>rows_of_blk h.2.1) Tryz.underlying25 rfl (FX_z.out)) s0 ?_;refine tkg9 23 (v:= .agg (gv y').toArray) (yieldsIf_load_mid (by kernel_rfl) 25 (.tmp 11) rfl gF 0 (by go_simp) (gv y') _ (λ_ h=>rows_of_blk h.1) Tryz.underlying25 rfl (FXF.out)) s0 ?_
 try go_simp
 refine rdw9 22 λK hK=>?_
 go_simp;refine(AN1.out ud Bd.out).mono ?_
 rintro e ue ⟨rfl,b_⟩
 have Be:=hid (show Below U.heap.size U ue from Bd.out.trans (b_.mono Bd.out.size));have s0:=SU.out _ Be.out;refine hK.out _ _ s0 (λ_=>?_);clear hK K b_
 try go_simp
 refine rdw9 24 λK hK=>?_
 go_simp;refine(AN2.out ue Be.out).mono ?_
 rintro e uf ⟨rfl,b_⟩
 have Bf:=hid (show Below U.heap.size U uf from Be.out.trans (b_.mono Be.out.size));have s0:=SU.out _ Bf.out;refine hK.out _ _ s0 (λ_=>?_);clear hK K b_;refine tka9 25 s0 ?_;refine tka9 26 s0 ?_;refine tka9 27 s0 ?_;refine tkg9 28 (v:= .agg (gv z).toArray) (yieldsIf_load_mid (by kernel_rfl) 25 (.tmp 17) rfl g17 0 (by go_simp) (gv z) _ (λ_ h=>rows_of_blk h.2.1) Tryz.underlying25 rfl (FX_z.out)) s0 ?_;refine tkg9 30 (v:= .agg (gv y').toArray) (yieldsIf_load_mid (by kernel_rfl) 25 (.tmp 11) rfl gF 0 (by go_simp) (gv y') _ (λ_ h=>rows_of_blk h.1) Tryz.underlying25 rfl (FXF.out)) s0 ?_
 try go_simp
 refine rdw9 29 λK hK=>?_
 go_simp;refine(LI1.out uf Bf.out).mono ?_
 rintro e ug ⟨rfl,b_⟩
 have Bg:=hid (show Below U.heap.size U ug from Bf.out.trans (b_.mono Bf.out.size));have s0:=SU.out _ Bg.out;refine hK.out _ _ s0 (λ_=>?_);clear hK K b_
 try go_simp
 refine rdw9 31 λK hK=>?_
 go_simp;refine(LI2.out ug Bg.out).mono ?_
 rintro e uh ⟨rfl,b_⟩
 have Bh:=hid (show Below U.heap.size U uh from Bg.out.trans (b_.mono Bg.out.size));have s0:=SU.out _ Bh.out;refine hK.out _ _ s0 (λ_=>?_);clear hK K b_;refine tka9 32 s0 ?_;refine tka9 33 s0 ?_;refine tka9 34 s0 ?_;refine tkg9 35 (v:= .agg (gv y2).toArray) (yieldsIf_load_mid (by kernel_rfl) 25 (.tmp 21) rfl g21 0 (by go_simp) (gv y2) _ (λ_ h=>rows_of_blk h.2.2.2) Tryz.underlying25 rfl (FX2.out)) s0 ?_;refine tka9 37 s0 ?_;refine tka9 38 s0 ?_;refine tka9 39 s0 ?_
 try go_simp
 refine rdw9 36 λK hK=>?_
 go_simp;refine(MT.out uh Bh.out).mono ?_
 rintro e ui ⟨rfl,b_⟩
 have Bi:=hid (show Below U.heap.size U ui from Bh.out.trans (b_.mono Bh.out.size));have s0:=SU.out _ Bi.out;refine hK.out _ _ s0 (λ_=>?_);clear hK K b_;refine tka9 40 s0 ?_;refine tka9 41 s0 ?_;refine tka9 42 s0 ?_;refine wpAnyH_done (by kernel_rfl) ?_ _;go_simp;go_wp2_with fail
 go_ret;exact⟨by simp,PU.out.bel.trans (Bi.out.mono PU.out.bel.size)⟩
end Go.Proofs.YtlipjglehongeaaGreatDoor
