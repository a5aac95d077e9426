/-
  THE REFERENCE
-/
import Derived.Test.YtlipjglehongeaaGreatDoorGb45
import Derived.Test.YtlipjglehongeaaGreatDoorGb17
import Derived.Test.YtlipjglehongeaaGreatDoorTk
open Go.Lib (hid)
set_option maxRecDepth 100000
namespace Go.Proofs.YtlipjglehongeaaGreatDoor
open Go Go.RowKit Sh
variable {E : Nat → Prop}
theorem GW.setS {w0 W W':World} {gg c:Nat} {x x':Spv} {q:Option Addr} {R:List Rpv} (h:GW E w0 W gg x q c R) (hs:SpW W x') (ho:OffS (GFr gg q) x') (hoe:OffS E x') (hk:Kept (λb=>b=gg) W W') (hb:Blk W' gg 114 (gB x' q R.length c)):GW E w0 W' gg x' q c R:=by
 have f:∀ k,k=gg→GFr gg q k:=λk e=> .inl e
 exact⟨hb,hs.keptF hk (ho.mono f),ho,own_kept h.ro hk (λb hb' e=>own_apart h.ro h.box (by decide) (by rw[hb',e])),λy hy=>(h.rt y hy).keptF hk ((h.rof y hy).mono f),h.rof,h.ge,
  h.bel.trans ⟨hk.os,hk.tape,hk.output,hk.size,λb hb=>hk.block b (Nat.lt_of_lt_of_le hb h.bel.size) (λe=>by have:=h.ge;omega)⟩,hoe,h.eo⟩
set_option maxHeartbeats 4000000 in
theorem refreplace_t (w0:World) (gg k:Nat) (x:Spv) (q:Option Addr) (c:Nat) (r:Rv) (W:World) (h:GW E w0 W gg x q c []) (hr:RQ E W gg q r) (hs:SmP x r.r) (hc:r.r.cl=(k:Int)) (h4:k<4) (hcap:x.its.length≤x.ic):
  Calls Tryz.prog 79 #[.pointer (some ⟨gg,0,none⟩),.agg (rv r).toArray] W λe W'=>e= .returned (.tuple #[])∧∃ x' q' c' R,GW E w0 W' gg x' q' c' R∧x'.sp=(finP (replP x.sp (qp r.r) (fnd (qp r.r).p x.sp.its)) (qp r.r)).1 ∧R.map (·.r)=(finP (replP x.sp (qp r.r) (fnd (qp r.r).p x.sp.its)) (qp r.r)).2 ∧Kept (GFr gg q) W W':=by
 obtain⟨W1,hW1⟩:∃ V,W.alloc (.cells (rv r).toArray 54)=V:=⟨_,rfl⟩;have B1:=hid (show Below W.heap.size W W1 from by rw[←hW1];exact(Below.refl _ _).alloc (Nat.le_refl _) _);have BR:=hid (show Blk W1 W.heap.size 54 (rv r) from by rw[←hW1];exact Blk.new W 54 (rv r));have G1:=hid (h.below B1.out);have Q1:=hid (hr.below B1.out);have HNG:=hid (show W.heap.size≠gg from by have:=h.box.lt;omega);have FR:=hid (rv_size r);have HS:=hid hs;have HC:=hid hc;have HCAP:=hid hcap;clear h hr hs hc hcap
 go_enter Tryz.func79,Tryz.ntmps79
 go_upto_region 1 with(fail)
 clear hW1;obtain⟨U,hU⟩:∃ U,W1.drew=U:=⟨_,rfl⟩;have BU:=hid (show Below W1.heap.size W1 U from by rw[←hU];exact(Below.refl _ _).drew);have GU:=hid (G1.out.below BU.out);have QU:=hid (Q1.out.below BU.out);have KU:=hid (show Kept (GFr gg q) W U from(Kept.of_below B1.out).trans (Kept.of_below BU.out));have s0:U.rangeAt gg 0 (sv x)∧Blk U W.heap.size 54 (rv r):=⟨GU.out.row,BR.out.below BU.out BR.out.lt⟩;have FX:=hid (sv_size x GU.out.sp.l4);clear BU G1 Q1;refine wp_region_held (S:=λY=>Y.rangeAt gg 0 (sv x)∧Blk Y W.heap.size 54 (rv r)) (by kernel_rfl) ?_;change wpAnyH _ _ _ _ _ _ _ _ W1.drew;rw[hU];clear hU;refine tka9 0 s0 ?_;refine tka9 1 s0 ?_;refine tka9 2 s0 ?_;refine tkg9 3 (v:= .agg (sv x).toArray) (yieldsIf_load_mid (by kernel_rfl) 46 (.tmp 9) rfl gg 0 (by go_simp) (sv x) _ (λ_ h=>h.1) Tryz.underlying46 rfl (FX.out)) s0 ?_;refine tka9 4 s0 ?_;refine tk9 5 ?_ ?_ s0 ?_;rotate_left 1
 ·(intro w hS;have hs:=(rv_cells hS.2).2.2.2.1;clear hS;go_simp;try (with_reducible rfl))
 have FD:=hid (refFind_t x r.p r.r.n r.c r.r.G U (tr_rw QU.out.p).2 (tr_rw QU.out.p).1 GU.out.sp);obtain⟨fi,hfi⟩:∃ z,fndI (fl r.r.n r.r.G) x.sp.its=z:=⟨_,rfl⟩;rw[hfi] at FD;refine rdw9 6 λK hK=>?_
 go_simp;refine FD.out.mono ?_
 rintro e w2 ⟨rfl,b2⟩
 have G2:=hid (GU.out.below b2);have Q2:=hid (QU.out.below b2);have K2:=hid (show Kept (GFr gg q) W w2 from KU.out.trans (Kept.of_below b2));have s2:w2.rangeAt gg 0 (sv x)∧Blk w2 W.heap.size 54 (rv r):=⟨G2.out.row,s0.2.below b2 s0.2.lt⟩;refine hK.out _ _ s2 (λ_=>?_);clear hK K b2 FD s0 GU QU KU;refine tka9 7 s2 ?_;refine wpAnyH_done (by kernel_rfl) ?_ _;go_simp;have BR2:=hid s2.2;have RG2:=hid s2.1;clear s2
 cases ho:fnd (qp r.r).p x.sp.its with
 |none=>
  obtain rfl:fi= -1:=hfi.symm.trans (fndI_none ho);have HHO:=hid ho;clear hfi ho;have HP:=hid (show replP x.sp (qp r.r) none=(x.sp,tellP (qp r.r) 3,false) from rfl);have TE:=hid (tellE_t w0 gg k x q c r 3 w2 G2.out HC.out h4)
  go_wp2_with ((with_reducible refine load_blk 54 (.tmp 3) W.heap.size 54 (rv r) _ rfl rfl ?_ Tryz.underlying54 ?_ ?_ ?_ ?_);exact BR2.out;exact rfl;exact FR.out;exact rfl)
  refine TE.out.mono ?_
  rintro e w7 ⟨rfl,z,q7,c7,hz,g7,s7,k7,o7⟩
  go_wp2_with fail
  refine bodyPost_ret (results_none rfl _ _ _) rfl ?_;exact⟨rfl,_,q7,c7,[z],g7,by rw[HHO.out,HP.out,fin_no];exact s7,by rw[HHO.out,HP.out,fin_no];exact congrArg (λz=>[z]) hz,K2.out.trans k7⟩
 |some j=>
  obtain rfl:fi=(j:Int):=hfi.symm.trans (fndI_some ho);have HHO:=hid ho;have hj:j<x.its.length:=by have h1:=fnd_ltG ho;have h2:x.sp.its.length=x.its.length:=List.length_map _;omega
  obtain⟨y,hy⟩:∃ y,x.its[j]? =some y:=⟨_,List.getElem?_eq_getElem hj⟩;have hys:(x.sp.its.getD j i0).t=y.i.t:=by
   rw[List.getD_eq_getElem?_getD]
   show(((x.its.map (·.i))[j]?).getD i0).t=_
   rw[List.getElem?_map,hy];rfl
  have hP:replP x.sp (qp r.r) (some j)=if 24≤ownN r.r.cl (x.sp.its.eraseIdx j) then(x.sp,tellP (qp r.r) 5,false) else({ x.sp with its:=x.sp.its.eraseIdx j },giveP (qp r.r) y.i.t,true):=by
   unfold replP
   dsimp only
   rw[hys];rfl
  have HP:=hid hP;have ci:=G2.out.cells.2.1;obtain⟨b,o,hpe,_,rg⟩:=G2.out.sp.its j y hy;rw[hpe] at ci;have c2:w2.cell? ⟨b,o+j * 3+2,none⟩=some (.slice y.p y.i.t.length y.c):=rg 2 _ rfl;have j0:(0:Int)≤(j:Int):=by omega
  have j1:(j:Int)< (x.its.length:Int):=by omega
  have TY:=hid (G2.out.sp.it y (List.mem_of_getElem? hy));have OY:=hid (G2.out.off.it y (List.mem_of_getElem? hy));have OYE:=hid (G2.out.oe.it y (List.mem_of_getElem? hy));have HPE:=hid hpe;have HJ:=hid hj;have HL:=hid (show(x.its.eraseIdx j).length=x.its.length-1 from List.length_eraseIdx_of_lt hj);have SPW:=hid G2.out.sp;clear rg hys hy hpe hj hfi ho hP;have FX_x:=hid (sv_size x SPW.out.l4);have FO_x:=hid (sv_one x);have SL_x:=hid (sv_len x SPW.out.l4);have Z_x:=hid (Blk.new w2 46 [.int .i64 0,.slice none 0 0,.slice none 0 0,.int .i64 0,.int .i64 0,.int .i64 0,.int .i64 0,.int .i64 0,.slice none 0 0,.bool false,.int .i64 0,.int .i64 0,.int .i64 0,.slice none 0 0,.bool false,.int .i64 0,.int .i64 0,.int .i64 0,.slice none 0 0,.bool false,.int .i64 0,.int .i64 0,.int .i64 0,.slice none 0 0,.bool false]);have KN_x:=hid (KSp.new (w1:=w2) (x:=x) SPW.out)
  go_upto_region 6 with(first
   |((with_reducible refine at_op (.load 46 (.tmp 30)) rfl ?_);go_must (refine wpList_load_mid rfl 46 (.tmp 30) rfl gg 0 rfl (sv x) _ RG2.out Tryz.underlying46 rfl FX.out ?_))
   |((with_reducible refine at_op (.store 46 (.tmp 6) (.tmp 31)) rfl ?_);go_must (refine store_blk 46 (.tmp 6) (.tmp 31) (w2).heap.size 46 _ (sv x) rfl rfl Z_x.out SL_x.out.symm FX_x.out FO_x.out rfl rfl ?_)))
  obtain⟨V3,hV3⟩:∃ V,((w2).alloc (.cells #[.int .i64 0,.slice none 0 0,.slice none 0 0,.int .i64 0,.int .i64 0,.int .i64 0,.int .i64 0,.int .i64 0,.slice none 0 0,.bool false,.int .i64 0,.int .i64 0,.int .i64 0,.slice none 0 0,.bool false,.int .i64 0,.int .i64 0,.int .i64 0,.slice none 0 0,.bool false,.int .i64 0,.int .i64 0,.int .i64 0,.slice none 0 0,.bool false] 46)).setRow (w2).heap.size (sv x).toArray=V:=⟨_,rfl⟩;rw[hV3] at KN_x ⊢;have K_x:=hid KN_x.out.1;have B_x:=hid KN_x.out.2;clear hV3 KN_x Z_x FO_x SL_x;obtain⟨gs,hgs⟩:∃ g,w2.heap.size=g:=⟨_,rfl⟩;have HGS:=hid (show w2.heap.size≤gs by omega);rw[hgs] at K_x ⊢;have G3:=hid (G2.out.below B_x.out);have Q3:=hid (Q2.out.below B_x.out);have BR3:=hid (BR2.out.below B_x.out BR2.out.lt);have K3:=hid (show Kept (GFr gg q) w2 V3 from Kept.of_below B_x.out);have HRS:=hid (show W.heap.size≠gs from by have:=BR2.out.lt;omega);have HGG:=hid (show gg≠gs from by have:=G2.out.box.lt;omega);clear hgs B_x ci c2;have KB:=hid K_x.out.box;have cs1:=(sv_cells KB.out).2.1;rw[HPE.out] at cs1;have fz:=KB.out.frozen 1;have WO:=hid (refwithout_t x.its (some ⟨b,o,none⟩) x.its.length x.ic j V3 rfl HCAP.out (by have:=HS.out.il;omega) HJ.out (by rw[←HPE.out];exact G3.out.sp.its));go_wp2_with fail
  refine WO.out.mono ?_
  rintro e w3 ⟨q9,d,rfl,hd,ho9,b9⟩
  have ct3:=(b9.cell (p:=⟨gs,1,none⟩) KB.out.lt).trans cs1;have KB3:=hid (KB.out.below b9 KB.out.lt);have fz3:=KB3.out.frozen 1;rw[←HL.out] at ho9 ⊢;have HO9:=hid ho9;have HB9:=hid b9;clear ho9 b9 hd fz cs1 WO KB K_x;obtain⟨xE,hxE⟩:∃ z:Spv, { x with its:=x.its.eraseIdx j,ip:=q9,ic:=d } =z:=⟨_,rfl⟩;have HXE:=hid hxE
  go_upto_region 7 with(fail)
  obtain⟨w4,hw4⟩:∃ V,w3.setCell ⟨gs,1,none⟩ (.slice q9 (x.its.eraseIdx j).length d)=V:=⟨_,rfl⟩;have KE:=hid (show Kept (λk=>k=gs) w3 w4 from by rw[←hw4];exact(Kept.refl (λk=>k=gs) w3).setCell (p:=⟨gs,1,none⟩) (.inl rfl) _);have BE:=hid (show Blk w4 gs 46 (sv xE) from by rw[←hw4,←hxE];exact KB3.out.store 1 (.slice q9 (x.its.eraseIdx j).length d));rw[hw4];clear hw4 ct3 fz3 hxE;have G4:=hid (show GW E w0 w4 gg x q c [] from(G3.out.below HB9.out).other (W1:=w2) G2.out.sp (λy hy=>by cases hy) KE.out (λk e=>by rw[e];exact HGS.out) G2.out.bel.size HGG.out (λk hk e=>by have:=(G2.out.ro.lt k hk.own).2;have:=HGS.out;omega));have SE:=hid (show SpW w4 xE from by
   rw[←HXE.out];have s:=G4.out.sp;exact⟨RowL.of_own iv_len rfl (own_kept HO9.out KE.out (λk hk e=>own_apart HO9.out KB3.out (by decide) (by rw[hk,e]))),λy hy=>s.it y (List.mem_of_mem_eraseIdx hy),s.wts,s.wt,s.l4,s.la,by show(x.its.eraseIdx j).length≤_;rw[HL.out];have:=HS.out.il;omega,s.m⟩)
  have OE:=hid (show OffS (GFr gg q) xE from by
   rw[←HXE.out];exact⟨λ_ k hk e=>G3.out.notq (HO9.out.lt k hk.own).1 e,λy hy=>G2.out.off.it y (List.mem_of_mem_eraseIdx hy),G2.out.off.wts,G2.out.off.wt,G2.out.off.la⟩)
  have OEE:=hid (show OffS E xE from by
   rw[←HXE.out];exact⟨λ_ k hk e=>by have h1:=(HO9.out.lt k hk.own).1;have h2:=G3.out.eo k e;have h3:=G3.out.bel.size;omega,λy hy=>G2.out.oe.it y (List.mem_of_mem_eraseIdx hy),G2.out.oe.wts,G2.out.oe.wt,G2.out.oe.la⟩)
  have K4:=hid (show Kept (GFr gg q) w2 w4 from(K3.out.trans (Kept.of_below HB9.out)).moreF KE.out (λk e=> .inr (by rw[e];exact HGS.out)));have BR4:=hid (show Blk w4 W.heap.size 54 (rv r) from(BR3.out.below HB9.out BR3.out.lt).kept KE.out HRS.out);have HSE:=hid (show xE.sp= { x.sp with its:=x.sp.its.eraseIdx j } from by
   rw[←HXE.out];unfold Spv.sp
   dsimp only
   rw[map_erase])
  have OW:=hid (refOwn_t xE r.r.cl w4 SE.out);have HPQ:=hid (show replP x.sp (qp r.r) (some j)=if 24≤ownN r.r.cl xE.sp.its then(x.sp,tellP (qp r.r) 5,false) else(xE.sp,giveP (qp r.r) y.i.t,true) from by rw[HSE.out];exact HP.out);obtain⟨cn,hcn⟩:∃ z,ownN r.r.cl xE.sp.its=z:=⟨_,rfl⟩;rw[hcn] at OW HPQ;clear hcn HP;have FXE:=hid (sv_size xE SE.out.l4);have FOE:=hid (sv_one xE);have d0:=(rv_cells BR4.out).1;have QQ4:=hid (Q2.out.move K4.out (λb e=> .inl e))
  go_wp2_with ((with_reducible refine load_blk 46 (.tmp 6) gs 46 (sv xE) _ rfl rfl ?_ Tryz.underlying46 ?_ ?_ ?_ ?_);exact BE.out;exact rfl;exact FXE.out;exact rfl)
  refine OW.out.mono ?_
  rintro e w5 ⟨rfl,b5⟩
  have G5:=hid (G4.out.below b5);have BE5:=hid (BE.out.below b5 BE.out.lt);have BR5:=hid (BR4.out.below b5 BR4.out.lt);have Q5:=hid (QQ4.out.below b5);have SE5:=hid (SE.out.below b5);have K5:=hid (K4.out.trans (Kept.of_below b5));clear b5 OW d0 G4 BE BR4 QQ4 SE K4 G3 Q3 BR3 KB3
  by_cases h24:24≤cn
  ·have e2:decide ((24:Int)≤(cn:Int))=true:=decide_eq_true (by omega);have e3:(24:Int)≤(cn:Int):=by omega
   have HPF:=hid (HPQ.out.trans (if_pos h24));have TE:=hid (tellE_t w0 gg k x q c r 5 w5 G5.out HC.out h4)
   go_wp2_with ((with_reducible refine load_blk 54 (.tmp 3) W.heap.size 54 (rv r) _ rfl rfl ?_ Tryz.underlying54 ?_ ?_ ?_ ?_);exact BR5.out;exact rfl;exact FR.out;exact rfl)
   refine TE.out.mono ?_
   rintro e w7 ⟨rfl,z,q7,c7,hz,g7,s7,k7,o7⟩
   go_wp2_with fail
   refine bodyPost_ret (results_none rfl _ _ _) rfl ?_;exact⟨rfl,_,q7,c7,[z],g7,by rw[HHO.out,HPF.out,fin_no];exact s7,by rw[HHO.out,HPF.out,fin_no];exact congrArg (λz=>[z]) hz,K2.out.trans (K5.out.trans k7)⟩
  ·have e2:decide ((24:Int)≤(cn:Int))=false:=decide_eq_false (by omega);have HPF:=hid (HPQ.out.trans (if_neg h24));have BG5:=hid (show Blk w5 gg 114 ([]++(sv x++[.slice q 0 c])) from G5.out.box);have LX:=hid (show(sv x).length=(sv xE).length from(sv_len x G5.out.sp.l4).trans (sv_len xE SE5.out.l4).symm)
   go_upto_region 10 with(first
    |((with_reducible refine load_blk 46 (.tmp 6) gs 46 (sv xE) _ rfl rfl ?_ Tryz.underlying46 ?_ ?_ ?_ ?_);exact BE5.out;exact rfl;exact FXE.out;exact rfl)
    |((with_reducible refine at_op (.store 46 (.tmp 48) (.tmp 46)) rfl ?_);go_must (refine wpList_plain rfl (λK hK=>?_);refine wstore_part 46 (.tmp 48) (.tmp 46) gg 0 114 [] (sv x) [.slice q 0 c] (sv xE) rfl BG5.out rfl LX.out FXE.out FOE.out rfl rfl ?_);intro w6 a1 a2 a3;refine hK _ _ ?_))
   dsimp only[Act.put]
   have KG:=hid (show Kept (λb=>b=gg) w5 w6 from a2.out.keptOne rfl);have GX:=hid (show GW E w0 w6 gg xE q c [] from G5.out.setS SE5.out OE.out OEE.out KG.out a1.out);have K6:=hid (show Kept (GFr gg q) w2 w6 from K5.out.trans (KG.out.mono λk e=> .inl e));have TY6:=hid (TY.out.keptF K6.out OY.out);have TE:=hid (tellT_t w0 gg k xE q c r y.p y.i.t y.c w6 GX.out HC.out h4 TY6.out OY.out OYE.out);have BR6:=hid (BR5.out.kept KG.out HNG.out);have Q6:=hid (Q2.out.move K6.out (λb e=> .inl e));have HSM:=hid (show SmP xE r.r from by
    rw[←HXE.out];exact⟨HS.out.w16,HS.out.cl,by show(x.its.eraseIdx j).length≤64;rw[HL.out];have:=HS.out.il;omega,HS.out.n0,HS.out.n1,HS.out.l0,HS.out.l1⟩)
   clear hK a1 a2 a3 KG BE5 BG5 LX
   go_wp2_with ((with_reducible refine load_blk 54 (.tmp 3) W.heap.size 54 (rv r) _ rfl rfl ?_ Tryz.underlying54 ?_ ?_ ?_ ?_);exact BR6.out;exact rfl;exact FR.out;exact rfl)
   refine TE.out.mono ?_
   rintro e w7 ⟨rfl,z,q7,c7,hz,g7,s7,k7,o7⟩
   have Q7:=hid (Q6.out.move k7 o7);have BR7:=hid (BR6.out.kept k7 (GX.out.blkOff BR6.out (by decide) HNG.out));have PU:=hid (refgput_t w0 gg { xE with last:=xE.last.set k z } q7 c7 [z] r w7 g7 Q7.out.t Q7.out.tof Q7.out.te HSM.out.w16 HSM.out.cl (by have:=HSM.out.il;show xE.its.length≤900;omega) ⟨HSM.out.n0,HSM.out.n1⟩ (by show 1≤100;decide) ⟨HSM.out.l0,HSM.out.l1⟩);have S7:=hid s7;have HZ:=hid hz;have K7:=hid ((K2.out.trans K6.out).trans k7);have O7:=hid o7;have HSW:=hid (K2.out.trans K6.out).size;clear g7 s7 k7 o7 hz TE
   go_wp2_with ((with_reducible refine load_blk 54 (.tmp 3) W.heap.size 54 (rv r) _ rfl rfl ?_ Tryz.underlying54 ?_ ?_ ?_ ?_);exact BR7.out;exact rfl;exact FR.out;exact rfl)
   refine PU.out.mono ?_
   rintro e w8 ⟨rfl,x8,q8,c8,R8,g8,p8,r8,k8⟩
   go_wp2_with fail
   go_end0
   refine⟨rfl,x8,q8,c8,_,g8,?_,?_,K7.out.moreF k8 (λb e=>e.elim (λe=> .inl (.inl e)) (λe=>(O7.out b e).imp .inr (λe=>Nat.le_trans HSW.out e)))⟩
   ·rw[HHO.out,HPF.out,fin_yes,p8,S7.out]
   ·rw[HHO.out,HPF.out,fin_yes,List.map_append,r8,S7.out];exact congrArg (λz=>z::_) HZ.out
end Go.Proofs.YtlipjglehongeaaGreatDoor
