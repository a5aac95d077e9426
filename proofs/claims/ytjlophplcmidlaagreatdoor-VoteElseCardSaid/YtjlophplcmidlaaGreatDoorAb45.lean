/-
  LAYER 13's laws
  THE REFERENCE
  THE REFERENCE
  THE REFERENCE
  THE REFERENCE OF CHAPTER 10
  THE REFERENCE OF CHAPTER 10
  THE REFERENCE OF CHAPTER 10
-/
import Derived.Test.YtjlophplcmidlaaGreatDoorAb42
import Derived.Test.YtjlophplcmidlaaGreatDoorAb25
import Derived.Test.YtjlophplcmidlaaGreatDoorAb19
import Derived.Test.YtjlophplcmidlaaGreatDoorAb40
import Derived.Test.YtjlophplcmidlaaGreatDoorTk
open Go.Lib (hid)
set_option maxRecDepth 100000
namespace Go.Proofs.YtjlophplcmidlaaGreatDoor
open Go Go.RowKit Sh
section
section
section
section
section
structure TV (w0 W:World) (g1 g4:Nat) (x y:Vv):Prop where
 a:Blk W g1 33 (vv x)
 b:Blk W g4 33 (vv y)
 rx:VvW W x
 ry:VvW W y
 bel:Below w0.heap.size w0 W
theorem TV.below {w0 W W':World} {g1 g4:Nat} {x y:Vv} (h:TV w0 W g1 g4 x y) (hb:Below W.heap.size W W'):TV w0 W' g1 g4 x y:=⟨h.a.below hb h.a.lt,h.b.below hb h.b.lt,h.rx.below hb,h.ry.below hb,h.bel.trans (hb.mono h.bel.size)⟩
def z7v:Vv:=⟨0,7,List.replicate 32 0,none,0,[]⟩
theorem z7v_w (W:World):VvW W z7v:=⟨rfl,zerosV 32,Sr.nil,nil_bytes,Nat.zero_le _⟩
theorem z7v_lit:vv z7v=[.int .i64 0,.int .i64 7,.int .u8 0,.int .u8 0,.int .u8 0,.int .u8 0,.int .u8 0,.int .u8 0,.int .u8 0,.int .u8 0,.int .u8 0,.int .u8 0,.int .u8 0,.int .u8 0,.int .u8 0,.int .u8 0,.int .u8 0,.int .u8 0,.int .u8 0,.int .u8 0,.int .u8 0,.int .u8 0,.int .u8 0,.int .u8 0,.int .u8 0,.int .u8 0,.int .u8 0,.int .u8 0,.int .u8 0,.int .u8 0,.int .u8 0,.int .u8 0,.int .u8 0,.int .u8 0,.slice none 0 0]:=rfl
theorem one_bytesV (x:Nat) (hx:x<256):Bytes [x]:=sl_bytes (λy hy=>by obtain rfl:=List.mem_singleton.1 hy;exact hx)
set_option maxHeartbeats 4000000 in
theorem told13_t (w:World) (hi:KI w) (hk:KAt w):Calls Tryz.prog 8 #[] w λe w'=>e= .returned (.bool true)∧Below w.heap.size w w':=by
 have HI:=hid hi;have HK:=hid hk;have HG:=hid hk.lt;clear hi hk;obtain⟨w1,hw1⟩:∃ V,w.alloc (.cells (u8s [115]).toArray 5 (1,2))=V:=⟨_,rfl⟩;have B1:=hid (show Below w.heap.size w w1 from by rw[←hw1];exact(Below.refl _ _).alloc (Nat.le_refl _) _);have S1:=hid (show Sr w1 (some ⟨w.heap.size,0,none⟩) [115] from by rw[←hw1];exact Sr.made [115] w 5 (1,2));obtain⟨x,hx⟩:∃ q:Vv,(⟨3,2,List.replicate 32 0,some ⟨w.heap.size,0,none⟩,1,[115]⟩:Vv)=q:=⟨_,rfl⟩;have WX:=hid (show VvW w1 x from by rw[←hx];exact⟨rfl,zerosV 32,S1.out,one_bytesV 115 (by decide),by show(1:Nat)≤_;decide⟩);have HXV:=hid (show vv x=[.int .i64 3,.int .i64 2,.int .u8 0,.int .u8 0,.int .u8 0,.int .u8 0,.int .u8 0,.int .u8 0,.int .u8 0,.int .u8 0,.int .u8 0,.int .u8 0,.int .u8 0,.int .u8 0,.int .u8 0,.int .u8 0,.int .u8 0,.int .u8 0,.int .u8 0,.int .u8 0,.int .u8 0,.int .u8 0,.int .u8 0,.int .u8 0,.int .u8 0,.int .u8 0,.int .u8 0,.int .u8 0,.int .u8 0,.int .u8 0,.int .u8 0,.int .u8 0,.int .u8 0,.int .u8 0,.slice (some ⟨w.heap.size,0,none⟩) 1 1] from by rw[←hx];rfl);have HVT:=hid (show x.p=3∧x.f=2∧x.s=[115]∧mayVo x.vt=true from by rw[←hx];exact⟨rfl,rfl,rfl,rfl⟩);have kc:=λ(w:World) (C:Array Value) (n c:Nat)=>Lib.run_convert_bytes_const (P:=Tryz.prog) w 25 5 C n c Tryz.underlying25 Tryz.underlying5
 have hw1':w.alloc (.cells #[.int .u8 115] 5 (1,2))=w1:=hw1;clear hx S1 hw1
 go_enter Tryz.func8,Tryz.ntmps8
 go_upto_region 1 with(fail)
 have FX_x:=hid (vv_size (x:=x) WX.out.ll);have FO_x:=hid (vv_one x);have L_x:=hid (show(vv zVv).length=(vv x).length from by rw[vv_len WX.out.ll,vv_len (x:=zVv) rfl]);have Z_x:=hid (Blk.new w1 33 (vv zVv));have K_x:=hid (Z_x.out.setRow (vv x));have B_x:=hid (below_setRow ((Below.refl (w1).heap.size w1).alloc (Nat.le_refl _) (.cells (vv zVv).toArray 33)) (Nat.le_refl _) (vv x).toArray)
 go_upto_region 2 with((with_reducible refine at_op (.store 33 (.tmp 1) (.tmp 10)) rfl ?_);go_must (refine store_blk 33 (.tmp 1) (.tmp 10) (w1).heap.size 33 (vv zVv) (vv x) rfl rfl Z_x.out L_x.out FX_x.out FO_x.out rfl (by rw[HXV.out];rfl) ?_))
 obtain⟨V1,hV1⟩:∃ V,((w1).alloc (.cells (vv zVv).toArray 33)).setRow (w1).heap.size (vv x).toArray=V:=⟨_,rfl⟩;change Code.wp _ _ _ _ (((w1).alloc (.cells (vv zVv).toArray 33)).setRow (w1).heap.size (vv x).toArray);rw[hV1] at K_x B_x ⊢;clear hV1 Z_x FO_x L_x;clear kc hw1' HXV;obtain⟨g1,hg1⟩:∃ g,w1.heap.size=g:=⟨_,rfl⟩;rw[hg1] at K_x ⊢;have BX:=hid (B1.out.trans (B_x.out.mono B1.out.size));have WX1:=hid (WX.out.below B_x.out);clear hg1 B_x B1 WX;have PT:=hid (vPut_t x V1 WX1.out);unfold erV byV at PT;rw[HVT.out.2.2.2,if_pos rfl,if_pos rfl] at PT
 go_wp2_with ((with_reducible refine load_blk 33 (.tmp 1) g1 33 (vv x) _ rfl rfl ?_ Tryz.underlying33 ?_ ?_ ?_ ?_);exact K_x.out;exact rfl;exact FX_x.out;exact rfl)
 refine PT.out.mono ?_
 rintro e w2 ⟨u,rfl,fr⟩
 have PL:=hid (show(putV x.vt).length=42 from by rw[putV_le WX1.out.ll];show 41+x.s.length=42;rw[HVT.out.2.2.1];rfl);have PB:=hid (show Bytes (putV x.vt) from app_bytes (beN_bytes _ _) (app_bytes (beN_bytes _ _) (app_bytes WX1.out.lb (app_bytes (beN_bytes _ _) WX1.out.sb))));have FO:=hid (frontV_ok HVT.out.2.2.2 (show x.vt.l.length=32 from WX1.out.ll));obtain⟨xs,hxs⟩:∃ l,putV x.vt=l:=⟨_,rfl⟩;rw[hxs] at fr PL PB FO;have fr1:=fr.1;rw[PL.out] at fr1;obtain⟨Ab,cb,hu,_⟩:=own_form fr1;subst hu;have S2:=hid (Sr.of_own fr1);have K2:=hid (K_x.out.below fr.2 K_x.out.lt);have W2:=hid (WX1.out.below fr.2);have B2:=hid (BX.out.trans (fr.2.mono BX.out.size));clear fr fr1 PT K_x WX1 BX hxs;have GT:=hid (vGet_t xs Ab 42 cb w2 PL.out S2.out PB.out (by decide));go_wp2_with fail
 refine GT.out.mono ?_
 rintro e w3 ⟨b3,hh⟩
 obtain⟨y,hy,rfl,wy⟩:∃ y:Vv,y.vt=x.vt∧e= .returned (.tuple #[.agg (vv y).toArray,.int .i64 0])∧VvW w3 y:=by
  rcases hh with⟨h1,_⟩ |⟨_,y,h1,h2,h3⟩
  ·rw[FO.out.2] at h1;cases h1
  ·exact⟨y,h1.trans FO.out.1,h2,h3⟩
 have K3:=hid (K2.out.below b3 K2.out.lt);have W3:=hid (W2.out.below b3);have B3:=hid (B2.out.trans (b3.mono B2.out.size));have HY:=hid hy;have WY:=hid wy;clear hh GT b3 hy wy K2 W2 B2 S2 FO PL PB;have FX_y:=hid (vv_size (x:=y) WY.out.ll);have FO_y:=hid (vv_one y);have L_y:=hid (show(vv zVv).length=(vv y).length from by rw[vv_len WY.out.ll,vv_len (x:=zVv) rfl]);have Z_y:=hid (Blk.new w3 33 (vv zVv));have K_y:=hid (Z_y.out.setRow (vv y));have B_y:=hid (below_setRow ((Below.refl (w3).heap.size w3).alloc (Nat.le_refl _) (.cells (vv zVv).toArray 33)) (Nat.le_refl _) (vv y).toArray)
 go_upto_region 4 with((with_reducible refine at_op (.store 33 (.tmp 4) (.tmp 19)) rfl ?_);go_must (refine store_blk 33 (.tmp 4) (.tmp 19) (w3).heap.size 33 (vv zVv) (vv y) rfl rfl Z_y.out L_y.out FX_y.out FO_y.out rfl rfl ?_))
 obtain⟨V3,hV3⟩:∃ V,((w3).alloc (.cells (vv zVv).toArray 33)).setRow (w3).heap.size (vv y).toArray=V:=⟨_,rfl⟩;change Code.wp _ _ _ _ (((w3).alloc (.cells (vv zVv).toArray 33)).setRow (w3).heap.size (vv y).toArray);rw[hV3] at K_y B_y ⊢;clear hV3 Z_y FO_y L_y;obtain⟨g4,hg4⟩:∃ g,w3.heap.size=g:=⟨_,rfl⟩;rw[hg4] at K_y ⊢;have T4:=hid (show TV w V3 g1 g4 x y from⟨K3.out.below B_y.out K3.out.lt,K_y.out,W3.out.below B_y.out,WY.out.below B_y.out,B3.out.trans (B_y.out.mono B3.out.size)⟩);clear hg4 B_y K_y K3 W3 WY B3;have PZ:=hid (vPut_t z7v V3 (z7v_w V3));rw[z7v_lit,show erV z7v=1 from rfl] at PZ;go_wp2_with fail
 refine PZ.out.mono ?_
 rintro e w5 ⟨u,rfl,fr⟩
 have T5:=hid (T4.out.below fr.2);clear fr PZ T4
 go_upto_region 5 with(fail)
 obtain⟨U,hU⟩:∃ U,w5.drew=U:=⟨_,rfl⟩;have TU:=hid (T5.out.below (show Below w5.heap.size w5 U from by rw[←hU];exact(Below.refl _ _).drew));clear T5;have SU:=hid (λ(Y:World) (h:TV w Y g1 g4 x y)=>show Blk Y g1 33 (vv x)∧Blk Y g4 33 (vv y) from⟨h.a,h.b⟩);have SM:=hid (λ(Y:World) (h:TV w Y g1 g4 x y)=>vSame_t y x Y h.ry h.rx);rw[HY.out,sameV_iff.2 rfl] at SM;have BZ:=built_hz;have BGZ:=built_gz;have s0:=SU.out U TU.out;refine wp_region_held (S:=λY=>Blk Y g1 33 (vv x)∧Blk Y g4 33 (vv y)) (by kernel_rfl) ?_;change wpAnyH _ _ _ _ _ _ _ _ w5.drew;rw[hU];clear hU;refine tka9 0 s0 ?_;refine tka9 1 s0 ?_;have TX:=hid (vText_t zH zH 3 U rfl rfl (by decide));refine rdw9 2 λK hK=>?_
 go_simp;refine TX.out.mono ?_
 rintro e w6 ⟨u,rfl,fr⟩
 have fr1:=fr.1;rw[textV_len (a:=zH) (l:=zH) (q:=3) rfl rfl] at fr1;obtain⟨At,ct,hu,_⟩:=own_form fr1;subst hu;have T6:=hid (TU.out.below fr.2);have s0:=SU.out _ T6.out;refine hK.out _ _ s0 (λ_=>?_);clear hK K fr fr1 TX TU;refine tka9 3 s0 ?_;refine tka9 4 s0 ?_;refine tka9 5 s0 ?_;refine tka9 6 s0 ?_;refine tka9 7 s0 ?_;refine tka9 8 s0 ?_;refine tka9 9 s0 ?_;refine tka9 10 s0 ?_;refine tka9 11 s0 ?_;refine tka9 12 s0 ?_;refine tka9 13 s0 ?_;refine tkg9 14 (v:= .agg (vv y).toArray) (yieldsIf_load_mid (by kernel_rfl) 33 (.tmp 4) rfl g4 0 (by go_simp) (vv y) _ (λ_ h=>rows_of_blk h.2) Tryz.underlying33 rfl (FX_y.out)) s0 ?_;refine tkg9 15 (v:= .agg (vv x).toArray) (yieldsIf_load_mid (by kernel_rfl) 33 (.tmp 1) rfl g1 0 (by go_simp) (vv x) _ (λ_ h=>rows_of_blk h.1) Tryz.underlying33 rfl (FX_x.out)) s0 ?_
 try go_simp
 refine rdw9 16 λK hK=>?_
 go_simp;refine(SM.out w6 T6.out).mono ?_
 rintro e w7 ⟨rfl,b_⟩
 have T7:=hid (T6.out.below b_);have s0:=SU.out _ T7.out;refine hK.out _ _ s0 (λ_=>?_);clear hK K b_;refine tka9 17 s0 ?_;refine tka9 18 s0 ?_;refine tka9 19 s0 ?_;refine tka9 20 s0 ?_;refine tka9 21 s0 ?_;refine tka9 22 s0 ?_;refine tka9 23 s0 ?_;refine tkg9 24 (v:= .agg (vv x).toArray) (yieldsIf_load_mid (by kernel_rfl) 33 (.tmp 1) rfl g1 0 (by go_simp) (vv x) _ (λ_ h=>rows_of_blk h.1) Tryz.underlying33 rfl (FX_x.out)) s0 ?_
 try go_simp
 refine rdw9 25 λK hK=>?_
 go_simp;refine(vCheck_no zGv x w7 (zGv_w w7) T7.out.rx (HI.out.kept T7.out.bel) zG_no).mono ?_
 rintro e w8 ⟨rfl,b_⟩
 have T8:=hid (T7.out.below b_);have s0:=SU.out _ T8.out;refine hK.out _ _ s0 (λ_=>?_);clear hK K b_;refine tka9 26 s0 ?_;refine tka9 27 s0 ?_;refine tka9 28 s0 ?_;refine tkg9 30 (v:= .agg (vv x).toArray) (yieldsIf_load_mid (by kernel_rfl) 33 (.tmp 1) rfl g1 0 (by go_simp) (vv x) _ (λ_ h=>rows_of_blk h.1) Tryz.underlying33 rfl (FX_x.out)) s0 ?_;have FK:=hid (fake_t 1 0 0 (by decide) w8);refine rdw9 29 λK hK=>?_
 go_simp;refine FK.out.mono ?_
 rintro e w9 ⟨gk,hgk,rfl,wgk,b9⟩
 have T9:=hid (T8.out.below b9);have WG:=hid wgk;have HGK:=hid (show gk.ge=fakeE 1 0 0 from hgk);have s0:=SU.out _ T9.out;refine hK.out _ _ s0 (λ_=>?_);clear hK K b9 FK hgk wgk T8;have MB:=hid (show begB gk=true from by rw[begB_Q,HGK.out];exact fakeE_ok 1 0 0 (by decide) rfl rfl);have KL:=hid (show gk.ks.length=4 from by
  have h:=congrArg (λe=>e.ks.length) HGK.out
  simpa [Gv.ge,fakeE] using h)
 obtain⟨ky,hky⟩:∃ z,gk.ks[2]? =some z:=⟨_,List.getElem?_eq_getElem (by rw[KL.out];decide)⟩
 try go_simp
 refine rdw9 31 λK hK=>?_
 go_simp;refine(vCheck_short gk x 4 2 3 ky w9 WG.out T9.out.rx (HI.out.kept T9.out.bel) (HK.out.below T9.out.bel HG.out) MB.out KL.out HVT.out.2.1 (by decide) HVT.out.1 (by decide) (by decide) hky (by rw[HVT.out.2.2.1];decide)).mono ?_
 rintro e wA ⟨rfl,b_⟩
 have TA:=hid (T9.out.below b_);have s0:=SU.out _ TA.out;refine hK.out _ _ s0 (λ_=>?_);clear hK K b_;refine tka9 32 s0 ?_;refine tka9 33 s0 ?_;refine tka9 34 s0 ?_;refine wpAnyH_done (by kernel_rfl) ?_ _;go_simp;go_wp2_with fail
 go_ret;exact⟨rfl,TA.out.bel⟩
def gB (x:Spv) (q:Option Addr) (n c:Nat):List Value:=sv x++[.slice q n c]
section
variable {E : Nat → Prop}
end
end
variable {E : Nat → Prop}
end
end
end
end
theorem GS9.new {w:World} {x y:Gv} (hx:GvW w x) (hy:GvW w y):GS9 w ((w.alloc (.cells (gv x).toArray 27)).alloc (.cells (gv y).toArray 27)) x y:=by
 have b0:Below w.heap.size w ((w.alloc (.cells (gv x).toArray 27)).alloc (.cells (gv y).toArray 27)):=((Below.refl _ _).alloc (Nat.le_refl _) _).alloc (by simp) _;exact⟨(Blk.new w 27 (gv x)).alloc _,Blk.new2 w _ 27 (gv y),hx.below b0,hy.below b0,b0⟩
theorem GS9.below {w0 W W':World} {x y:Gv} (h:GS9 w0 W x y) (hb:Below W.heap.size W W'):GS9 w0 W' x y:=⟨h.a.below hb h.a.lt,h.b.below hb h.b.lt,h.rx.below hb,h.ry.below hb,h.bel.trans (hb.mono h.bel.size)⟩
set_option maxHeartbeats 4000000 in
theorem gSameR_t (x y:Gv) (w:World) (hx:GvW w x) (hy:GvW w y):
  Calls Tryz.prog 10 #[.agg (gv x).toArray,.agg (gv y).toArray] w λe w'=>e= .returned (.bool (sameE x.ge y.ge))∧Below w.heap.size w w':=by
 have S0:=hid (GS9.new hx hy);obtain⟨n,hn⟩:∃ n,x.ks.length=n:=⟨_,rfl⟩;obtain⟨m,hm⟩:∃ n,y.ks.length=n:=⟨_,rfl⟩;obtain⟨kp,hkp⟩:∃ p,x.kp=p:=⟨_,rfl⟩;obtain⟨lp,hlp⟩:∃ p,y.kp=p:=⟨_,rfl⟩;have HN:=hid hn;have HM:=hid hm;have HKP:=hid hkp;have HLP:=hid hlp;have hnl:n≤9223372036854775807:=by rw[←hn];exact hx.kl
 have hml:m≤9223372036854775807:=by rw[←hm];exact hy.kl
 have CX:=hid (λ(W:World) (h:GS9 w W x y)=>show W.cell? ⟨w.heap.size,0,none⟩=some (.int .i64 x.f)∧W.cell? ⟨w.heap.size,1,none⟩=some (.int .i64 x.rd)∧W.cell? ⟨w.heap.size,2,none⟩=some (.int .i64 x.wr)∧W.cell? ⟨w.heap.size,3,none⟩=some (.slice kp n x.kc)∧W.cell? ⟨w.heap.size,4,none⟩=some (.slice x.sp x.st.length x.sc) from by
  have:=gv_cells h.a;rw[hn,hkp] at this;exact this)
 have CY:=hid (λ(W:World) (h:GS9 w W x y)=>show W.cell? ⟨w.heap.size+1,0,none⟩=some (.int .i64 y.f)∧W.cell? ⟨w.heap.size+1,1,none⟩=some (.int .i64 y.rd)∧W.cell? ⟨w.heap.size+1,2,none⟩=some (.int .i64 y.wr)∧W.cell? ⟨w.heap.size+1,3,none⟩=some (.slice lp m y.kc)∧W.cell? ⟨w.heap.size+1,4,none⟩=some (.slice y.sp y.st.length y.sc) from by
  have:=gv_cells h.b;rw[hm,hlp] at this;exact this)
 obtain⟨r,hr⟩:∃ r,sameE x.ge y.ge=r:=⟨_,rfl⟩;have HR:=hid (show r=((x.f == y.f) && ((x.rd == y.rd) && ((x.wr == y.wr) && (decide (x.ks.map (·.X)=y.ks.map (·.X)) && decide (x.st=y.st))))) from hr.symm);rw[hr];obtain⟨q,hq⟩:∃ q,((x.f == y.f) && ((x.rd == y.rd) && ((x.wr == y.wr) && (decide (n=m) && decide (x.st=y.st)))))=q:=⟨_,rfl⟩;have HQ:=hid hq;have LQ:=hid (show x.ks.map (·.X)=y.ks.map (·.X)→n=m from λe=>by have:=congrArg List.length e;rw[List.length_map,List.length_map,hn,hm] at this;exact this);clear hx hy hn hm hkp hlp hr hq
 go_enter Tryz.func10,Tryz.ntmps10
 go_upto_region 1 with(fail)
 refine world_at (λY=>GS9 w Y x y) S0.out ?_
 rintro V s1
 have S1:=hid s1;clear s1 S0;obtain⟨c0,c1,c2,c3,c4⟩:=CX.out V S1.out;obtain⟨d0,d1,d2,d3,d4⟩:=CY.out V S1.out
 go_cut [41] (λs41 wx=>s41= .bool (!q)∧wx=V)
 case first=>
  have qf:∀ b,_=b→q=b:=λb e=>HQ.out.symm.trans e
  obtain⟨b1,hb1⟩:∃ b,(x.f == y.f)=b:=⟨_,rfl⟩;have n1:(x.f != y.f)= !b1:=by rw[←hb1];rfl
  obtain⟨b2,hb2⟩:∃ b,(x.rd == y.rd)=b:=⟨_,rfl⟩;have n2:(x.rd != y.rd)= !b2:=by rw[←hb2];rfl
  obtain⟨b3,hb3⟩:∃ b,(x.wr == y.wr)=b:=⟨_,rfl⟩;have n3:(x.wr != y.wr)= !b3:=by rw[←hb3];rfl
  rw[hb1,hb2,hb3] at qf;clear hb1 hb2 hb3
  cases b1 with
  |false=>
   have hq:=qf false rfl;clear qf;go_wp2_with fail
   go_meet
   exact⟨by rw[hq];rfl,rfl⟩
  |true=>
  cases b2 with
  |false=>
   have hq:=qf false rfl;clear qf;go_wp2_with fail
   go_meet
   exact⟨by rw[hq];rfl,rfl⟩
  |true=>
  cases b3 with
  |false=>
   have hq:=qf false rfl;clear qf;go_wp2_with fail
   go_meet
   exact⟨by rw[hq];rfl,rfl⟩
  |true=>
  by_cases hnm:n=m
  ·have n4:((n:Int) != (m:Int))=false:=by rw[bne_eq_false_iff_eq];omega
   have QF:=hid (qf (decide (x.st=y.st)) (by rw[decide_eq_true hnm];rfl));have ST:=hid (same_textsTX x.st y.st x.sp y.sp x.st.length y.st.length x.sc y.sc V rfl rfl S1.out.rx.st S1.out.ry.st S1.out.rx.sb S1.out.ry.sb);rw[←QF.out] at ST;clear qf hnm;go_wp2_with fail
   refine ST.out.mono ?_
   rintro e w3 ⟨rfl,rfl⟩
   go_wp2_with fail
   go_meet
   exact⟨rfl,rfl⟩
  ·have n4:((n:Int) != (m:Int))=true:=by rw[bne_iff_ne];omega
   have hq:=qf false (by rw[decide_eq_false hnm];rfl);clear qf hnm;go_wp2_with fail
   go_meet
   exact⟨by rw[hq];rfl,rfl⟩
 case rest=>
 obtain⟨rfl,rfl⟩:=hcut;clear c0 c1 c2 c3 c4 d0 d1 d2 d3 d4
 cases q with
 |false=>
  have hr:r=false:=by
   rw[HR.out]
   by_cases e:x.ks.map (·.X)=y.ks.map (·.X)
   ·have h:=HQ.out;rw[decide_eq_true (LQ.out e)] at h;rw[decide_eq_true e];exact h
   ·rw[decide_eq_false e,Bool.false_and,Bool.and_false,Bool.and_false,Bool.and_false]
  subst hr;go_wp2_with fail
  go_ret;exact⟨rfl,S1.out.bel⟩
 |true=>
 have hq:=HQ.out;simp only[Bool.and_eq_true,beq_iff_eq,decide_eq_true_eq] at hq;obtain⟨q1,q2,q3,rfl,q5⟩:=hq;have HR2:=hid (show r=decide (x.ks.map (·.X)=y.ks.map (·.X)) from by
  rw[HR.out,q1,q2,q3,decide_eq_true q5];simp)
 clear HR HQ LQ q1 q2 q3 q5;go_wp2_with fail
 go_loopw [5] (λt wr=>∃ j:Nat,j≤n∧t= .int .i64 (j:Int)∧GS9 w wr x y∧∀ i:Nat,i<j→(x.ks.map (·.X))[i]? =(y.ks.map (·.X))[i]?) (λt _=>n- (intOf t).toNat)
 case atStart=>exact⟨0,by omega,rfl,S1.out,λi hi=>absurd hi (by omega)⟩
 case round=>
  clear S1;obtain⟨j,hj,rfl,s0,hb⟩:=hrel;have S0:=hid s0;have HB:=hid hb;clear s0 hb;obtain⟨_,_,_,c3,_⟩:=CX.out wr S0.out
  by_cases hlt:j<n
  ·obtain⟨u,hu⟩:∃ y,x.ks[j]? =some y:=⟨_,List.getElem?_eq_getElem (by rw[HN.out];exact hlt)⟩;obtain⟨v,hv⟩:∃ z,y.ks[j]? =some z:=⟨_,List.getElem?_eq_getElem (by rw[HM.out];exact hlt)⟩;obtain⟨b,o,hpe,_,rg⟩:=S0.out.rx.ks j u hu;obtain rfl:kp=some ⟨b,o,none⟩:=HKP.out.symm.trans hpe;obtain⟨b2,o2,hpe2,_,rg2⟩:=S0.out.ry.ks j v hv;obtain rfl:lp=some ⟨b2,o2,none⟩:=HLP.out.symm.trans hpe2;have j1:(j:Int)< (n:Int):=by omega
   have CELL:=hid (λ(W:World) (h:GS9 w W x y)=>show W.cell? ⟨w.heap.size,3,none⟩=some (.slice (some ⟨b,o,none⟩) n x.kc)∧W.cell? ⟨w.heap.size+1,3,none⟩=some (.slice (some ⟨b2,o2,none⟩) n y.kc)∧W.cell? ⟨b,o+j,none⟩=some (.slice u.A u.X.length u.c)∧W.cell? ⟨b2,o2+j,none⟩=some (.slice v.A v.X.length v.c) from by
    refine⟨(CX.out W h).2.2.2.1,(CY.out W h).2.2.2.1,?_,?_⟩
    ·obtain⟨b',o',e,_,r'⟩:=h.rx.ks j u hu;have e:=HKP.out.symm.trans e
     injection e with e
     injection e with e1 e2
     subst e1;subst e2;have:=r' 0 _ rfl;rw[Nat.mul_one,Nat.add_zero] at this;exact this
    ·obtain⟨b',o',e,_,r'⟩:=h.ry.ks j v hv;have e:=HLP.out.symm.trans e
     injection e with e
     injection e with e1 e2
     subst e1;subst e2;have:=r' 0 _ rfl;rw[Nat.mul_one,Nat.add_zero] at this;exact this)
   have HU:=hid (List.mem_of_getElem? hu);have HV:=hid (List.mem_of_getElem? hv);have GU:=hid (show(x.ks.map (·.X))[j]? =some u.X from by rw[List.getElem?_map,hu];rfl);have GV:=hid (show(y.ks.map (·.X))[j]? =some v.X from by rw[List.getElem?_map,hv];rfl);clear rg rg2 hpe hpe2 hu hv
   go_upto_region 6 with(fail)
   clear c3;obtain⟨W4,hW4⟩:∃ Z,wr.drew=Z:=⟨_,rfl⟩;have S4:=hid (S0.out.below (show Below wr.heap.size wr W4 from by rw[←hW4];exact(Below.refl _ _).drew));clear S0;refine wp_region_held (S:=λW=>W.cell? ⟨w.heap.size,3,none⟩=some (.slice (some ⟨b,o,none⟩) n x.kc)∧W.cell? ⟨w.heap.size+1,3,none⟩=some (.slice (some ⟨b2,o2,none⟩) n y.kc)∧W.cell? ⟨b,o+j,none⟩=some (.slice u.A u.X.length u.c)∧W.cell? ⟨b2,o2+j,none⟩=some (.slice v.A v.X.length v.c)) (by kernel_rfl) ?_;change wpAnyH _ _ _ _ _ _ _ _ wr.drew;rw[hW4];clear hW4;have r0:=CELL.out _ S4.out;refine tka9 0 r0 ?_;refine tka9 2 r0 ?_;refine tka9 5 r0 ?_;refine tka9 7 r0 ?_;refine tk9 1 ?_ ?_ r0 ?_;rotate_left 1
   ·(intro w hS;have hs:=hS.1;clear hS;go_simp;try (with_reducible rfl))
   refine tka9 3 r0 ?_;refine tk9 4 ?_ ?_ r0 ?_;rotate_left 1
   ·(intro w hS;have hs:=hS.2.2.1;clear hS;go_simp;try (with_reducible rfl))
   refine tk9 6 ?_ ?_ r0 ?_;rotate_left 1
   ·(intro w hS;have hs:=hS.2.1;clear hS;go_simp;try (with_reducible rfl))
   refine tka9 8 r0 ?_;refine tk9 9 ?_ ?_ r0 ?_;rotate_left 1
   ·(intro w hS;have hs:=hS.2.2.2;clear hS;go_simp;try (with_reducible rfl))
   have ST:=hid (same_textsTX u.X v.X u.A v.A u.X.length v.X.length u.c v.c W4 rfl rfl (S4.out.rx.k u HU.out) (S4.out.ry.k v HV.out) (S4.out.rx.kb u HU.out) (S4.out.ry.kb v HV.out));obtain⟨fb,hfb⟩:∃ z,decide (u.X=v.X)=z:=⟨_,rfl⟩;rw[hfb] at ST;have HFB:=hid hfb;clear hfb;refine rdw9 10 λK hK=>?_
   go_simp;refine ST.out.mono ?_
   rintro e w5 ⟨rfl,rfl⟩
   refine hK.out _ _ r0 (λhz=>?_);clear hK K hz ST;refine tka9 11 r0 ?_;refine wpAnyH_done (by kernel_rfl) ?_ _;go_simp;clear r0 CELL
   cases fb with
   |false=>
    have hr:r=false:=by
     rw[HR2.out,decide_eq_false_iff_not];intro e;have h:=GU.out;rw[e,GV.out] at h;have h2:=of_decide_eq_false HFB.out;exact h2 (Option.some.inj h).symm
    subst hr;go_wp2_with fail
    go_ret;exact⟨rfl,S4.out.bel⟩
   |true=>
    have HB2:=hid (show ∀ i:Nat,i<j+1→(x.ks.map (·.X))[i]? =(y.ks.map (·.X))[i]? from λi hi=>by
     rcases Nat.lt_or_ge i j with h |h
     ·exact HB.out i h
     ·obtain rfl:i=j:=by omega
      rw[GU.out,GV.out,of_decide_eq_true HFB.out])
    go_wp2_with fail
    go_roundw
    case rel=>exact⟨j+1,by omega,by go_num,S4.out,by have h:=HB2.out;simpa using h⟩
    case measure=>simp[intOf];omega
  ·obtain rfl:j=n:=by omega
   have hr:r=true:=by
    rw[HR2.out,decide_eq_true_iff];refine List.ext_getElem? λi=>?_
    rcases Nat.lt_or_ge i j with h |h
    ·exact HB.out i h
    ·rw[List.getElem?_eq_none (by rw[List.length_map,HN.out];exact h),List.getElem?_eq_none (by rw[List.length_map,HM.out];exact h)]
   subst hr;clear hlt;go_wp2_with fail
   go_ret;exact⟨rfl,S0.out.bel⟩
end Go.Proofs.YtjlophplcmidlaaGreatDoor
