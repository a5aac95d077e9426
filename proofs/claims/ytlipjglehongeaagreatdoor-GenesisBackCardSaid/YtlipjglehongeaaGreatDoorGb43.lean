/-
  THE REFERENCE
-/
import Derived.Test.YtlipjglehongeaaGreatDoorGb42
import Derived.Test.YtlipjglehongeaaGreatDoorTk
open Go.Lib (hid)
set_option maxRecDepth 100000
namespace Go.Proofs.YtlipjglehongeaaGreatDoor
open Go Go.RowKit Sh
variable {E : Nat → Prop}
theorem rowl_grown {α:Type} {w w':World} {g ge n c sz:Nat} {f:α→List Value} {l:List α} (h:RowL w (some ⟨g,0,none⟩) sz f l) (hg:w.grownBy w' (Value.ownBlock (.slice (some ⟨ge,0,none⟩) n c))) (hne:g≠ge):RowL w' (some ⟨g,0,none⟩) sz f l:=
 h.kept ((Kept.refl (λk=>k=ge) w).grown hg (λk e=> .inl (by injection e with e;exact e.symm))) (λa e=>by injection e with e;rw[←e];exact hne)
set_option maxHeartbeats 4000000 in
theorem refgput_t (w0:World) (gg:Nat) (x:Spv) (q:Option Addr) (c:Nat) (R0:List Rpv) (r:Rv) (W:World) (h:GW E w0 W gg x q c R0) (ht:TR W r.t (fl r.r.m r.r.H)) (hto:OffT (GFr gg q) r.t (fl r.r.m r.r.H)) (hte:OffT E r.t (fl r.r.m r.r.H)) (hw:x.wts.length≤16) (hcl:∀ y∈x.wts,clB y.x.cl=true) (hi:x.its.length≤900) (hnow:0≤x.now∧x.now≤1099511627776) (hn:R0.length≤100) (hle:0≤r.r.le∧r.r.le≤1099511627776):
  Calls Tryz.prog 125 #[.pointer (some ⟨gg,0,none⟩),.agg (rv r).toArray] W λe W'=>e= .returned (.tuple #[])∧∃ x' q' c' R,GW E w0 W' gg x' q' c' (R0++R)∧x'.sp=(putP x.sp (qp r.r)).1 ∧R.map (·.r)=(putP x.sp (qp r.r)).2 ∧Kept (GFr gg q) W W':=by
 obtain⟨t,htt⟩:∃ t,fl r.r.m r.r.H=t:=⟨_,rfl⟩;have hlt_:t.length=r.r.m:=by rw[←htt,fl_length]
 rw[htt] at ht hto hte;have HTT:=hid htt;have HTL:=hid hlt_;obtain⟨W1,hW1⟩:∃ V,W.alloc (.cells (rv r).toArray 54)=V:=⟨_,rfl⟩;have B1:=hid (show Below W.heap.size W W1 from by rw[←hW1];exact(Below.refl _ _).alloc (Nat.le_refl _) _);have BR:=hid (show Blk W1 W.heap.size 54 (rv r) from by rw[←hW1];exact Blk.new W 54 (rv r));have G0:=hid (show GP E w0 W1 W1 gg q x t R0 0 [] (.slice none 0 0) x.last q c [] from
  ⟨by rw[List.append_nil];exact h.below B1.out,World.ownsRow_nil _ _ _ _,h.sp.below B1.out,(by rw[List.append_nil];exact λy hy=>(h.rt y hy).below B1.out),λy hy=>by simp at hy,Nat.le_refl _,Nat.le_refl _,rfl,rfl,rfl,Kept.refl _ _,λk e=> .inl e⟩)
 have T1:=hid (ht.below B1.out);have HW01:=hid (show w0.heap.size≤W1.heap.size from Nat.le_trans h.bel.size B1.out.size);have HGL:=hid h.box.lt;have HTO:=hid hto;have HTE:=hid hte;have HW16:=hid hw;have HCL:=hid hcl;have HI:=hid hi;have HNOW:=hid hnow;have HN:=hid hn;have HLE:=hid hle;have H:=hid h;have HQL:=hid (λk (e:OB q k)=>(h.ro.lt k e.own).2);have nB:(x.wts.length:Int)≤16:=by omega
 clear h ht hto hte hw hcl hi hnow hn hle htt hlt_
 go_enter Tryz.func125,Tryz.ntmps125
 go_upto_region 1 with(fail)
 clear hW1;obtain⟨wp,hwp⟩:∃ p,x.wp=p:=⟨_,rfl⟩;have HWP:=hid hwp;clear hwp
 go_upto_region 4 with(fail)
 go_loopw [4,5,6] (λlv tk i wr=>∃ (j:Nat) (L:List Wtv) (las:List Rpv) (q':Option Addr) (c':Nat) (R:List Rpv),j≤x.wts.length∧i= .int .i64 (j:Int)∧tk= .bool (wakeP t ((x.wts.take j).map (·.x))).2.2 ∧GP E w0 W1 wr gg q x t R0 j L lv las q' c' R) (λ_ _ i _=>x.wts.length- (intOf i).toNat)
 case atStart=>exact⟨0,[],x.last,q,c,[],Nat.zero_le _,rfl,rfl,G0.out⟩
 case round=>
  clear G0;obtain⟨j,L,las,q',c',R,hj,rfl,rfl,gp⟩:=hrel;have K1:=hid gp;clear gp;have cw:wr.cell? ⟨gg,2,none⟩=some (.slice x.wp x.wts.length x.wc):=K1.out.gw.cells.2.2;rw[HWP.out] at cw
  by_cases hlt:j<x.wts.length
  ·obtain⟨y,hy⟩:∃ y,x.wts[j]? =some y:=⟨_,List.getElem?_eq_getElem hlt⟩;obtain⟨b,o,hpe,hbl,rg⟩:=K1.out.gw.sp.wts j y hy;obtain rfl:wp=some ⟨b,o,none⟩:=HWP.out.symm.trans hpe;have RG:=hid rg;have FS:=hid (wv_size y);have F1:=hid (wv_oneA y);have j1:(j:Int)< (x.wts.length:Int):=by omega
   have A0:=hid (Blk.new wr 109 [.int .i64 0,.int .i64 0,.bool false,.slice none 0 0]);have A1:=hid (A0.out.setRow (wv y));have WB:=hid (below_setRow ((Below.refl wr.heap.size wr).alloc (Nat.le_refl _) (.cells #[.int .i64 0,.int .i64 0,.bool false,.slice none 0 0] 109)) (Nat.le_refl _) (wv y).toArray);have HY:=hid hy;have HLT:=hid hlt;obtain⟨k,hk,hk4⟩:=clB_nat (HCL.out y (List.mem_of_getElem? hy));have HKC:=hid hk;have k4:(k:Int)<4:=by omega
   obtain⟨bk,hbk⟩:∃ b,(wakeP t ((x.wts.take j).map (·.x))).2.2 =b:=⟨_,rfl⟩;rw[hbk];have HBK:=hid hbk;clear hy rg hbl hlt hbk hpe hk
   go_upto_region 7 with(first
    |((with_reducible refine at_op (.load 109 (.tmp 26)) rfl ?_);go_must (refine wpList_load_mid rfl 109 (.tmp 26) rfl b (o+j * 4) rfl (wv y) _ RG.out Tryz.underlying109 rfl FS.out ?_))
    |((with_reducible refine store_blk 109 (.tmp 7) (.tmp 27) wr.heap.size 109 [.int .i64 0,.int .i64 0,.bool false,.slice none 0 0] (wv y) rfl rfl ?_ ?_ ?_ ?_ ?_ ?_ ?_);exact A0.out;exact rfl;exact FS.out;exact F1.out;exact rfl;exact rfl))
   obtain⟨V,hV⟩:∃ V,(wr.alloc (.cells #[.int .i64 0,.int .i64 0,.bool false,.slice none 0 0] 109)).setRow wr.heap.size (wv y).toArray=V:=⟨_,rfl⟩;rw[hV] at A1 WB ⊢;have K2:=hid (K1.out.below WB.out);have HGW:=hid (show wr.heap.size≠gg from by have:=K1.out.gw.box.lt;omega);clear hV A0 RG cw;have c3:=(wv_cells A1.out).2.2.2;have BRV:=hid (show Blk V W.heap.size 54 (rv r) from BR.out.kept K2.out.kp (λe=>by
    rcases e with e |e
    ·have:=HGL.out;omega
    ·have:=HQL.out _ e;omega))
   have d4:=(rv_cells BRV.out).2.2.2.2.1;rw[←HTL.out] at d4
   cases bk with
   |true=>
    have HC:=hid (show((wakeP t ((x.wts.take j).map (·.x))).2.2 || !mT y.x.p t)=true from by rw[HBK.out];rfl);have R1:=hid (row_one wv 4 y V 109);have BA:=hid ((Below.refl (V).heap.size V).alloc (Nat.le_refl _) (.cells (wv y).toArray 109));have K3:=hid (K2.out.below BA.out);have HB:=hid (show W1.heap.size≤((V).alloc (.cells (wv y).toArray 109)).heap.size from K3.out.kp.size);have LL:=hid (show L.length+1≤1000000 from by have:=K2.out.ll;have:=HLT.out;have:=HW16.out;omega)
    go_wp2_with (first
     |((with_reducible refine load_blk 109 (.tmp 7) wr.heap.size 109 (wv y) _ rfl rfl ?_ Tryz.underlying109 ?_ ?_ ?_ ?_);exact A1.out;exact rfl;exact FS.out;exact rfl)
     |((with_reducible refine at_op (.buildSlice 40 1 #[(0,.tmp 38)]) rfl ?_);go_must (refine build1 40 109 (.tmp 38) rfl rfl (wv y) rfl (build_wv y _) ?_))
     |((with_reducible refine at_op (.call { callee:= .builtin .append,args:= #[.tmp 37,.tmp 39],argTypes:= #[40,40] }) rfl ?_);go_must (refine append_rows (.tmp 37) (.tmp 39) 40 rfl rfl 109 Tryz.underlying40 infoW rfl (by decide) (by decide) wv_len wv_one W1.heap.size u4 L.length (L.flatMap wv) rfl K3.out.lo (some ⟨(V).heap.size,0,none⟩) 1 1 rfl [y] rfl R1.out LL.out HB.out ?_);intro v1 w5 h2 h3 h5 h6))
    have K4:=hid (K3.out.left HW01.out HY.out HC.out h2.out h3.out);clear h2 h3 h5 h6 K3 R1 BA K2 A1
    go_roundw
    case rel=>exact⟨j+1,L++[y],las,q',c',R,HLT.out,by go_num,congrArg Value.bool (by rw[wake_tk HY.out,HC.out,if_pos rfl,HBK.out]),K4.out⟩
    case measure=>have:=HLT.out;simp[intOf];omega
   |false=>
    have MT:=hid (show Calls _ _ _ _ λe w'=>e= .returned (.bool (mT y.x.p t))∧_ from refmatch_t y.x.p.length y.c t.length r.d y.p r.t (gl y.x.p) (gl t) V (K2.out.gw.sp.wt y (List.mem_of_getElem? HY.out)).n T1.out.n (K2.out.gw.sp.wt y (List.mem_of_getElem? HY.out)).t ((T1.out.keptF K2.out.kp HTO.out).t));obtain⟨bm,hbm⟩:∃ b,mT y.x.p t=b:=⟨_,rfl⟩;rw[hbm] at MT;have HBM:=hid hbm;clear hbm;go_wp2_with fail
    refine MT.out.mono ?_
    rintro e w2 ⟨rfl,b2⟩
    have K2':=hid (K2.out.below b2);have A2:=hid (A1.out.below b2 A1.out.lt);have BR2:=hid (BRV.out.below b2 BRV.out.lt);clear b2 MT K2 A1 WB c3 d4 BRV K1
    cases bm with
    |false=>
     have HC:=hid (show((wakeP t ((x.wts.take j).map (·.x))).2.2 || !mT y.x.p t)=true from by rw[HBK.out,HBM.out];rfl);have R1:=hid (row_one wv 4 y w2 109);have BA:=hid ((Below.refl (w2).heap.size w2).alloc (Nat.le_refl _) (.cells (wv y).toArray 109));have K3:=hid (K2'.out.below BA.out);have HB:=hid (show W1.heap.size≤((w2).alloc (.cells (wv y).toArray 109)).heap.size from K3.out.kp.size);have LL:=hid (show L.length+1≤1000000 from by have:=K2'.out.ll;have:=HLT.out;have:=HW16.out;omega)
     go_wp2_with (first
      |((with_reducible refine load_blk 109 (.tmp 7) wr.heap.size 109 (wv y) _ rfl rfl ?_ Tryz.underlying109 ?_ ?_ ?_ ?_);exact A2.out;exact rfl;exact FS.out;exact rfl)
      |((with_reducible refine at_op (.buildSlice 40 1 #[(0,.tmp 38)]) rfl ?_);go_must (refine build1 40 109 (.tmp 38) rfl rfl (wv y) rfl (build_wv y _) ?_))
      |((with_reducible refine at_op (.call { callee:= .builtin .append,args:= #[.tmp 37,.tmp 39],argTypes:= #[40,40] }) rfl ?_);go_must (refine append_rows (.tmp 37) (.tmp 39) 40 rfl rfl 109 Tryz.underlying40 infoW rfl (by decide) (by decide) wv_len wv_one W1.heap.size u4 L.length (L.flatMap wv) rfl K3.out.lo (some ⟨(w2).heap.size,0,none⟩) 1 1 rfl [y] rfl R1.out LL.out HB.out ?_);intro v1 w5 h2 h3 h5 h6))
     have K4:=hid (K3.out.left HW01.out HY.out HC.out h2.out h3.out);clear h2 h3 h5 h6 K3 R1 BA K2' A2
     go_roundw
     case rel=>exact⟨j+1,L++[y],las,q',c',R,HLT.out,by go_num,congrArg Value.bool (by rw[wake_tk HY.out,HC.out,if_pos rfl,HBK.out]),K4.out⟩
     case measure=>have:=HLT.out;simp[intOf];omega
    |true=>
     have HC:=hid (show((wakeP t ((x.wts.take j).map (·.x))).2.2 || !mT y.x.p t)=false from by rw[HBK.out,HBM.out];rfl);obtain⟨d0,d1,d2,_⟩:=wv_cells A2.out;have d4:=(rv_cells BR2.out).2.2.2.2.1;rw[←HTL.out] at d4
     go_upto_region 10 with(fail)
     clear d0 d1 d2 d4;obtain⟨z,hz⟩:∃ z:Rpv,⟨lateP t y.x,r.t,r.d⟩=z:=⟨_,rfl⟩;change Code.wp _ _ _ _ (w2.alloc (.cells (pv ⟨lateP t y.x,r.t,r.d⟩).toArray 43));rw[hz];have HZ:=hid hz;have TZ1:=hid (show TR W1 z.p z.r.t by rw[←hz];exact T1.out);have OZ:=hid (show OffT (GFr gg q') z.p z.r.t by rw[←hz];exact off_q T1.out HTO.out K2'.out.qq);have OZE:=hid (show OffT E z.p z.r.t by rw[←hz];exact HTE.out);have FZ:=hid (pv_size z);have F1Z:=hid (pv_oneA z);have BAZ:=hid ((Below.refl w2.heap.size w2).alloc (Nat.le_refl _) (.cells (pv z).toArray 43));have BZ3:=hid (Blk.new w2 43 (pv z));obtain⟨W3,hW3⟩:∃ V,w2.alloc (.cells (pv z).toArray 43)=V:=⟨_,rfl⟩;rw[hW3] at BAZ BZ3 ⊢;have TZ3:=hid (show TR W3 z.p z.r.t from TZ1.out.keptF (K2'.out.kp.trans (Kept.of_below BAZ.out)) (by rw[←hz];exact HTO.out));clear hz hW3;obtain⟨gz,hgz⟩:∃ g,w2.heap.size=g:=⟨_,rfl⟩;have HGZ:=hid (show w2.heap.size≤gz by omega);rw[hgz] at BZ3 ⊢;clear hgz;obtain⟨RR,hRR⟩:∃ l,R0++R=l:=⟨_,rfl⟩;have HRR:=hid hRR;have M2:=hid (show GW E w0 W3 gg { x with last:=las } q' c' RR from by rw[←hRR];exact K2'.out.gw.below BAZ.out);clear hRR;obtain⟨U3,hU⟩:∃ U,W3.drew=U:=⟨_,rfl⟩;have BU3:=hid (show Below W3.heap.size W3 U3 from by rw[←hU];exact(Below.refl _ _).drew);have M3:=hid (M2.out.below BU3.out);have K3:=hid (show Kept (GFr gg q') w2 U3 from(Kept.of_below BAZ.out).trans (Kept.of_below BU3.out));have TY3:=hid (show TR U3 z.p z.r.t from TZ3.out.below BU3.out);have s1:U3.cell? ⟨gg,25,none⟩=some (.slice q' RR.length c')∧Blk U3 gz 43 (pv z):=⟨M3.out.out,BZ3.out.below BU3.out BZ3.out.lt⟩;have LR:=hid (show RR.length+1≤1000000 from by have h1:=K2'.out.rl;have h2:=HLT.out;have h3:=HW16.out;have h4:=HN.out;rw[←HRR.out,List.length_append];omega);clear M2 TZ3 BZ3;refine wp_region_E (λY=>Y.cell? ⟨gg,25,none⟩=some (.slice q' RR.length c')∧Blk Y gz 43 (pv z)) (λi=>i == 10) (by kernel_rfl) ?_;change wpAnyE _ _ _ _ _ _ _ _ _ W3.drew;rw[hU];clear hU;refine tkea9 0 s1 ?_;refine tkea9 1 s1 ?_;refine tkea9 2 s1 ?_;refine tkea9 3 s1 ?_;refine tke9 4 ?_ ?_ s1 ?_;rotate_left 1
     ·(intro w hS;have hs:=hS.1;clear hS;go_simp;try (with_reducible rfl))
     refine wpAnyE_take (i:=5) (v:= .agg (pv z).toArray) rfl (by kernel_rfl) (by kernel_rfl) (by kernel_rfl) (by kernel_rfl) (λ_ _ _ h=>h) (yieldsIf_load_mid (by kernel_rfl) 43 (.tmp 8) rfl gz 0 (by go_simp) (pv z) _ (λ_ h=>rows_of_blk h.2) Tryz.underlying43 rfl (FZ.out)) s1 ?_;have BA:=hid ((Below.refl U3.heap.size U3).alloc (Nat.le_refl _) (.cells (pv z).toArray 43));have M4:=hid (M3.out.below BA.out);have K4:=hid (K3.out.trans (Kept.of_below BA.out));have R1:=hid (row_one pv 5 z U3 43);have s2:(U3.alloc (.cells (pv z).toArray 43)).cell? ⟨gg,25,none⟩=some (.slice q' RR.length c')∧Blk (U3.alloc (.cells (pv z).toArray 43)) gz 43 (pv z):=⟨M4.out.out,s1.2.alloc _⟩;have TY4:=hid (TY3.out.below BA.out);refine wpAnyE_one (i:=6) (by kernel_rfl) rfl (by kernel_rfl) (λK hK=>?_);refine wp_build1 57 43 (.tmp 53) rfl (pv z) rfl (build_pv z _) ?_;refine hK.out _ _ (.inr s2) ?_;clear hK K;obtain⟨U4,hU4⟩:∃ U',U3.alloc (.cells (pv z).toArray 43)=U':=⟨_,rfl⟩;rw[hU4] at BA M4 K4 R1 s2 TY4 ⊢;clear hU4 s1 M3 K3 TY3;refine wpAnyE_one (i:=7) (by kernel_rfl) rfl (by kernel_rfl) (λK hK=>?_);refine wp_append_rows (.tmp 52) (.tmp 54) 57 ?_ 43 Tryz.underlying57 infoP rfl (by decide) (by decide) pv_len pv_one w0.heap.size (.slice q' RR.length c') RR.length (RR.flatMap pv) ?_ M4.out.ro (some ⟨U3.heap.size,0,none⟩) 1 1 ?_ [z] rfl R1.out LR.out M4.out.bel.size ?_
     ·rfl
     ·go_simp
     ·go_simp
     intro v1 w5 h2 h3 h5 h6;obtain⟨q9,c9,hv,_⟩:=own_form h2.out;subst hv;obtain⟨M6,K6,Q6⟩:=M4.out.more TY4.out OZ.out h2.out h3.out h5.out;have M6H:=hid M6;have K6H:=hid (K4.out.trans K6);have Q6H:=hid (λb (hb:OB q9 b)=>show OB q' b∨W1.heap.size≤b from(Q6 b hb).imp id (λe=>Nat.le_trans (Nat.le_trans K2'.out.kp.size K4.out.size) e));have ct5:w5.cell? ⟨gg,25,none⟩=some (.slice q' RR.length c'):=((own_grown_blk M4.out.ro h3.out M4.out.box (by decide)).cell 25).trans (gB_25 M4.out.sp.l4);have fg5:=(own_grown_blk M4.out.ro h3.out M4.out.box (by decide)).frozen 25;have s5:w5.cell? ⟨gg,25,none⟩=some (.slice q' RR.length c')∧Blk w5 gz 43 (pv z):=⟨ct5,(h3.out.block _ s2.2.lt (λe=>by have h:=K2'.out.gw.ro;rw[HRR.out] at h;have:=(h.lt _ e.symm).2;have:=HGZ.out;omega)).trans s2.2⟩;have BZ5:=hid s5.2;refine hK.out _ _ (.inr s5) ?_;clear hK K M6 K6 Q6 h2 h3 h5 h6 s2 M4 BA R1 TY4 K4;refine wpAnyE_one (i:=8) (by kernel_rfl) rfl (by kernel_rfl) (λK hK=>?_);go_simp;refine hK.out _ _ (.inr s5) ?_;clear hK K;refine wpAnyE_one (i:=9) (by kernel_rfl) rfl (by kernel_rfl) (λK hK=>?_);go_simp;refine hK.out _ _ (.inr s5) ?_;clear hK K;refine wpAnyE_one (i:=10) (by kernel_rfl) rfl (by kernel_rfl) (λK hK=>?_);go_simp;refine hK.out _ _ (.inl rfl) ?_;clear hK K;refine wpAnyE_done (by kernel_rfl) ?_ _;go_simp;clear s5 ct5 fg5;obtain⟨W4,hW4⟩:∃ V,w5.setCell ⟨gg,25,none⟩ (.slice q9 (RR.length+1) c9)=V:=⟨_,rfl⟩;have BZ4:=hid (show Blk W4 gz 43 (pv z) from by
      rw[←hW4];exact BZ5.out.kept ((Kept.refl (λb=>b=gg) w5).setCell (p:=⟨gg,25,none⟩) (.inl rfl) _) (λe=>K2'.out.gw.notq HGZ.out (.inl e)))
     rw[hW4] at M6H K6H ⊢;clear hW4 BZ5;have A4:=hid (show Blk W4 wr.heap.size 109 (wv y) from A2.out.kept K6H.out (K2'.out.gw.blkOff A2.out (by decide) HGW.out));obtain⟨lz,hlz⟩:∃ z,las[k]? =some z:=⟨_,List.getElem?_eq_getElem (by have:=K2'.out.s1.l4;change las.length=4 at this;omega)⟩;have HLZ:=hid hlz;obtain⟨d0,d1,_,_⟩:=wv_cells A4.out;rw[HKC.out] at d0;have cz:W4.cell? ⟨gg,5+k * 5+1,none⟩=some (.int .i64 lz.r.sq):=(M6H.out.box.cell _).trans (gB_sq (x:= { x with last:=las }) hlz);clear hlz;have HTZ:=hid (show OffT (GFr gg q) z.p z.r.t from by rw[←HZ.out];exact HTO.out);have QQ9:=hid (λb (hb:OB q9 b)=>show OB q b∨W1.heap.size≤b from(Q6H.out b hb).elim (K2'.out.qq b) .inr);have OZ9:=hid (off_q TZ1.out HTZ.out QQ9.out)
     cases hsq:(lz.r.sq == y.x.sq) with
     |true=>
      go_upto_region 11 with(fail)
      go_quiet (fail)
      obtain⟨U,hU⟩:∃ U,W4.drewN nq=U:=⟨_,rfl⟩;have BU:Below W4.heap.size W4 U:=by rw[←hU];exact below_drewN' (Below.refl _ _) nq
      rw[hU];have M7:=hid (M6H.out.below BU);have K7:=hid (K6H.out.trans (Kept.of_below BU));have A5:=hid (A4.out.below BU A4.out.lt);have BZ5:=hid (BZ4.out.below BU BZ4.out.lt);clear hU BU d0 d1 cz M6H K6H A4 BZ4
      go_upto_region 12 with(fail)
      obtain⟨U2,hU⟩:∃ V,U.drew=V:=⟨_,rfl⟩;have BU:=hid (show Below U.heap.size U U2 from by rw[←hU];exact(Below.refl _ _).drew);have M8:=hid (M7.out.below BU.out);have K8:=hid (K7.out.trans (Kept.of_below BU.out));have s0:Blk U2 wr.heap.size 109 (wv y)∧Blk U2 gz 43 (pv z):=⟨A5.out.below BU.out A5.out.lt,BZ5.out.below BU.out BZ5.out.lt⟩;have BB:=hid (show Blk U2 gg 114 (svL { x with last:=las } k++(pv lz++(svR { x with last:=las } k++[.slice q9 (RR++[z]).length c9]))) from by rw[←gB_at _ k lz q9 (RR++[z]).length c9 HLZ.out];exact M8.out.box);have LL:=hid (svL_len { x with last:=las } k (by have:=K2'.out.s1.l4;omega));clear M7 K7 A5 BZ5;refine wp_region_held (S:=λY=>Blk Y wr.heap.size 109 (wv y)∧Blk Y gz 43 (pv z)) (by kernel_rfl) ?_;change wpAnyH _ _ _ _ _ _ _ _ U.drew;rw[hU];clear hU;refine tka9 0 s0 ?_;refine tka9 1 s0 ?_;refine tk9 2 ?_ ?_ s0 ?_;rotate_left 1
      ·(intro w hS;have hs:=((wv_cells hS.1).1.trans (by rw[HKC.out]));clear hS;go_simp;try (with_reducible rfl))
      refine tkg9 3 (v:= .agg (pv z).toArray) (yieldsIf_load_mid (by kernel_rfl) 43 (.tmp 8) rfl gz 0 (by go_simp) (pv z) _ (λ_ h=>rows_of_blk h.2) Tryz.underlying43 rfl (FZ.out)) s0 ?_;refine tka9 4 s0 ?_;refine tka9 5 s0 ?_;refine tka9 6 s0 ?_;refine rdw9 7 λK hK=>?_
      go_simp;refine hK.out _ _ s0 (λ_=>?_);clear hK K;refine rdw9 8 λK hK=>?_
      refine wstore_part 43 (.tmp 77) (.tmp 73) gg (5+k * 5) 114 (svL { x with last:=las } k) (pv lz) (svR { x with last:=las } k++[.slice q9 (RR++[z]).length c9]) (pv z) rfl BB.out LL.out.symm rfl FZ.out F1Z.out (by go_simp) (by go_simp) ?_;intro w3 a1 a2 a3;have KG:=hid (show Kept (λb=>b=gg) U2 w3 from a2.out.keptOne rfl);have TZ8:=hid (show TR U2 z.p z.r.t from(TZ1.out.keptF K2'.out.kp HTZ.out).keptF K8.out OZ.out);have M9:=hid (M8.out.last (z:=z) (k:=k) TZ8.out OZ9.out OZE.out KG.out (by rw[←gB_put { x with last:=las } k lz z q9 (RR++[z]).length c9 HLZ.out];exact a1.out));have K9:=hid (show Kept (GFr gg q') w2 w3 from K8.out.trans (KG.out.mono λb e=> .inl e));have A6:=hid (s0.1.kept KG.out HGW.out);have s3:Blk w3 wr.heap.size 109 (wv y)∧Blk w3 gz 43 (pv z):=⟨A6.out,s0.2.kept KG.out (λe=>K2'.out.gw.notq HGZ.out (.inl e))⟩;refine hK.out _ _ s3 (λ_=>?_);clear hK K a1 a2 a3 s0 KG BB LL M8 K8 s3 TZ8;refine wpAnyH_done (by kernel_rfl) ?_ _;go_simp;have d2:=(wv_cells A6.out).2.2.1;go_wp2_with fail
      go_roundw
      case rel=>
       have hz:=HZ.out;subst hz;refine⟨j+1,L,_,q9,c9,R++[_],HLT.out,by go_num,congrArg Value.bool (by rw[wake_tk HY.out,HC.out];rfl),K2'.out.late HY.out HC.out HKC.out HLZ.out (las':=las.set k ⟨lateP t y.x,r.t,r.d⟩) (by rw[if_pos (by simpa using hsq)]) T1.out (by rw[←List.append_assoc,HRR.out];exact M9.out) (K2'.out.loKept K9.out) K9.out Q6H.out⟩
      case measure=>have:=HLT.out;simp[intOf];omega
     |false=>
      go_upto_region 11 with(fail)
      go_quiet (fail)
      obtain⟨U,hU⟩:∃ U,W4.drewN nq=U:=⟨_,rfl⟩;have BU:Below W4.heap.size W4 U:=by rw[←hU];exact below_drewN' (Below.refl _ _) nq
      rw[hU];have M9:=hid (M6H.out.below BU);have K9:=hid (K6H.out.trans (Kept.of_below BU));have A6:=hid (A4.out.below BU A4.out.lt);clear hU BU d0 d1 cz M6H K6H A4 BZ4;have d2:=(wv_cells A6.out).2.2.1;go_wp2_with fail
      go_roundw
      case rel=>
       have hz:=HZ.out;subst hz;refine⟨j+1,L,_,q9,c9,R++[_],HLT.out,by go_num,congrArg Value.bool (by rw[wake_tk HY.out,HC.out];rfl),K2'.out.late HY.out HC.out HKC.out HLZ.out (las':=las) (by rw[if_neg (by simpa using hsq)]) T1.out (by rw[←List.append_assoc,HRR.out];exact M9.out) (K2'.out.loKept K9.out) K9.out Q6H.out⟩
      case measure=>have:=HLT.out;simp[intOf];omega
  ·obtain rfl:j=x.wts.length:=by omega
   obtain⟨lq,lc,hlv,_⟩:=own_form K1.out.lo;subst hlv;have HLL:=hid (show L.length≤16 from Nat.le_trans K1.out.ll HW16.out);obtain⟨F2,KF2⟩:=K1.out.fin HLL.out HW01.out;have G2:=hid F2;have KG2:=hid KF2;have HE:=K1.out.le;have HR:=K1.out.re;rw[List.take_length] at HE HR ⊢;have HRE:=hid (show R.map (·.r)=(wakeP t x.sp.wts).2.1 from HR);have HSP:=hid (show({ x with last:=las,wts:=L,wp:=lq,wc:=lc } :Spv).sp=(wakeP t x.sp.wts).2.1.foldl lateS { x.sp with wts:=(wakeP t x.sp.wts).1 } from by
    rw[late_wts,←HRE.out,←K1.out.ls];unfold Spv.sp
    dsimp only
    rw[HE])
   have HTQ:=hid (show(qp r.r).t=t from HTT.out);have fz:=K1.out.gw.box.frozen 2;obtain⟨bt,hbt⟩:∃ b,(wakeP t (x.wts.map (·.x))).2.2 =b:=⟨_,rfl⟩;rw[hbt];have HBT:=hid (show(wakeP (qp r.r).t x.sp.wts).2.2 =bt from by rw[HTQ.out];exact hbt);clear F2 KF2 HE HR hlt hj hbt
   cases bt with
   |true=>
    have HPY:=hid (putP_yes HBT.out);go_wp2_with fail
    go_end0
    exact⟨rfl,_,q',c',R,G2.out,by rw[HPY.out,HTQ.out];exact HSP.out,by rw[HPY.out,HTQ.out];exact HRE.out,(Kept.of_below B1.out).trans KG2.out⟩
   |false=>
    have HPN:=hid (putP_no HBT.out)
    go_upto_region 15 with(fail)
    obtain⟨W5,hW5⟩:∃ V,wr.setCell ⟨gg,2,none⟩ (.slice lq L.length lc)=V:=⟨_,rfl⟩;rw[hW5] at G2 KG2 ⊢;have BR5:=hid (show Blk W5 W.heap.size 54 (rv r) from BR.out.kept KG2.out (λe=>by
     rcases e with e |e
     ·have:=HGL.out;omega
     ·have:=HQL.out _ e;omega))
    clear hW5 fz cw;have d5:=(rv_cells BR5.out).2.2.2.2.2
    by_cases hl0:0<r.r.le
    ·go_upto_region 18 with(fail)
     have c0:=G2.out.cells.1;obtain⟨un,hun⟩:∃ u:Int,u=wrap64 (x.now+r.r.le):=⟨_,rfl⟩;have HUN:=hid (show un=(if (qp r.r).le=0 then 0 else x.sp.now+(qp r.r).le) from by
      have h1:=HNOW.out;have h2:=HLE.out;have e:wrap64 (x.now+r.r.le)=x.now+r.r.le:=by unfold wrap64;omega
      rw[hun,e,if_neg (show ¬ (qp r.r).le=0 from by show ¬ r.r.le=0;omega)];rfl)
     go_quiet (fail)
     obtain⟨W6,hU⟩:∃ U,W5.drewN nq=U:=⟨_,rfl⟩;have BU:Below W5.heap.size W5 W6:=by rw[←hU];exact below_drewN' (Below.refl _ _) nq
     rw[hU];have G6:=hid (G2.out.below BU);have KG6:=hid (KG2.out.trans (Kept.of_below BU));have BR6:=hid (BR5.out.below BU BR5.out.lt);clear hU BU c0 d5 hl0 BR5 G2 KG2
     go_upto_region 19 with(fail)
     rw[←hun];clear hun;obtain⟨y3,hy3⟩:∃ y:Itv,⟨⟨r.r.cl,un,t⟩,r.t,r.d⟩=y:=⟨_,rfl⟩;have HYI:=hid (show y3.i=⟨r.r.cl,un,t⟩ from by rw[←hy3]);have HIV:=hid (show[Value.int .i64 r.r.cl,.int .i64 un,.slice r.t t.length r.d]=iv y3 from by rw[←hy3];rfl);obtain⟨U,hU⟩:∃ U,(W6).drew=U:=⟨_,rfl⟩;have BU:=hid (show Below (W6).heap.size W6 U from by rw[←hU];exact(Below.refl _ _).drew);have GU:=hid (G6.out.below BU.out);have KU:=hid (show Kept (GFr gg q) W1 U from KG6.out.trans (Kept.of_below BU.out));have TYU:=hid (show TR U y3.p y3.i.t from by rw[←hy3];exact T1.out.keptF KU.out HTO.out);have OYU:=hid (show OffT (GFr gg q') y3.p y3.i.t from by rw[←hy3];exact off_q T1.out HTO.out K1.out.qq);have OYE:=hid (show OffT E y3.p y3.i.t from by rw[←hy3];exact HTE.out);have RX:=hid (show RowL U x.ip 3 iv x.its from GU.out.sp.its);have LX:=hid (show 0+x.its.length≤1000000 from by have:=HI.out;omega);have LX1:=hid (show x.its.length+1≤1000000 from by have:=HI.out;omega);have LI:=hid (show x.its.length+1≤1000 from by have:=HI.out;omega);have HGU:=hid (show gg<U.heap.size from GU.out.box.lt);have BRU:=BR6.out.below BU.out BR6.out.lt;have HRU:=hid (show W.heap.size<U.heap.size from BRU.lt);have s0:U.cell? ⟨gg,1,none⟩=some (.slice x.ip x.its.length x.ic)∧Blk U W.heap.size 54 (rv r):=⟨GU.out.cells.2.1,BRU⟩;have BB0:=hid (Below.refl U.heap.size U);have HFI:=hid (λ(a:Option Addr) (b:Nat)=>show Spv.sp { x with last:=las,wts:=L,wp:=lq,wc:=lc,its:=x.its++[y3],ip:=a,ic:=b } =(putP x.sp (qp r.r)).1 from by
      have e1:Spv.sp { x with last:=las,wts:=L,wp:=lq,wc:=lc,its:=x.its++[y3],ip:=a,ic:=b } = { Spv.sp { x with last:=las,wts:=L,wp:=lq,wc:=lc } with its:=(Spv.sp { x with last:=las,wts:=L,wp:=lq,wc:=lc }).its++[y3.i] } :=by
       unfold Spv.sp
       dsimp only
       rw[List.map_append,List.map_singleton]
      rw[e1,HPN.out,HTQ.out,HSP.out,HYI.out,HUN.out];rfl)
     clear hy3 BRU;refine wp_region_E (λY=>Y.cell? ⟨gg,1,none⟩=some (.slice x.ip x.its.length x.ic)∧Blk Y W.heap.size 54 (rv r)) (λi=>i == 19) (by kernel_rfl) ?_;change wpAnyE _ _ _ _ _ _ _ _ _ (W6).drew;rw[hU];clear hU;refine tkea9 0 s0 ?_;refine tkea9 2 s0 ?_;refine tkea9 3 s0 ?_;refine tkea9 4 s0 ?_;refine tkea9 5 s0 ?_;refine tke9 6 ?_ ?_ s0 ?_;rotate_left 1
     ·(intro w hS;have hs:=hS.1;clear hS;go_simp;try (with_reducible rfl))
     refine tkea9 8 s0 ?_;refine tke9 9 ?_ ?_ s0 ?_;rotate_left 1
     ·(intro w hS;have hs:=(rv_cells hS.2).1;clear hS;go_simp;try (with_reducible rfl))
     refine tkea9 10 s0 ?_;refine tkea9 11 s0 ?_;refine tke9 12 ?_ ?_ s0 ?_;rotate_left 1
     ·(intro w hS;have hs:=((rv_cells hS.2).2.2.2.2.1.trans (by rw[←HTL.out]));clear hS;go_simp;try (with_reducible rfl))
     refine tkea9 13 s0 ?_;refine wpAnyE_two (i:=1) (j:=14) (by kernel_rfl) rfl (by kernel_rfl) rfl (by kernel_rfl) (λK hK=>?_) (λK hK=>?_)
     ·skip
      go_simp;have Ea:=hid (own_empty0 U 106 3 U.heap.size BB0.out.size);have Ba:=hid (BB0.out.alloc BB0.out.size (.cells #[] 106));have sa:((U).alloc (.cells #[] 106)).cell? ⟨gg,1,none⟩=some (.slice x.ip x.its.length x.ic)∧Blk ((U).alloc (.cells #[] 106)) W.heap.size 54 (rv r):=⟨(((Below.refl (U).heap.size U).alloc (Nat.le_refl _) (.cells #[] 106)).cell (p:=⟨gg,1,none⟩) (Nat.lt_of_lt_of_le HGU.out BB0.out.size)).trans s0.1,s0.2.alloc _⟩;refine hK.out _ _ (.inr sa) ?_;clear hK K;obtain⟨Ua,hUa⟩:∃ V,U.alloc (.cells #[] 106)=V:=⟨_,rfl⟩;rw[hUa] at Ea Ba sa ⊢;clear hUa;refine wpAnyE_two (i:=7) (j:=14) (by kernel_rfl) rfl (by kernel_rfl) rfl (by kernel_rfl) (λK hK=>?_) (λK hK=>?_)
      ·skip
       refine wp_append_rows (.tmp 102) (.tmp 107) 39 ?_ 106 Tryz.underlying39 infoI rfl (by decide) (by decide) iv_len iv_one U.heap.size (.slice (some ⟨U.heap.size,0,none⟩) 0 0) 0 [] ?_ Ea.out x.ip x.its.length x.ic ?_ x.its rfl (RX.out.below Ba.out) LX.out Ba.out.size ?_
       ·rfl
       ·go_simp
       ·go_simp
       intro v1 w7 h2 h3 h5 h6;have Ob:=hid (show(w7).ownsRow U.heap.size 106 3 v1 x.its.length (x.its.flatMap iv) from by have:=h2.out;rwa [Nat.zero_add,List.nil_append] at this);have Bb:=hid (Ba.out.grown h3.out Ba.out.size (λk e=>(Ea.out.lt k e).1));have sb:(w7).cell? ⟨gg,1,none⟩=some (.slice x.ip x.its.length x.ic)∧Blk w7 W.heap.size 54 (rv r):=⟨(Bb.out.cell (p:=⟨gg,1,none⟩) HGU.out).trans s0.1,s0.2.below Bb.out HRU.out⟩;refine hK.out _ _ (.inr sb) ?_;clear hK K h2 h3 h5 h6;refine wpAnyE_one (i:=14) (by kernel_rfl) rfl (by kernel_rfl) (λK hK=>?_);refine wp_build1 39 106 (.tmp 114) rfl (iv y3) (by go_simp;exact HIV.out) (build_iv y3 _) ?_;have Rc:=hid (row_one iv 3 y3 w7 106);have Bc:=hid (Bb.out.alloc Bb.out.size (.cells (iv y3).toArray 106));have sc:((w7).alloc (.cells (iv y3).toArray 106)).cell? ⟨gg,1,none⟩=some (.slice x.ip x.its.length x.ic)∧Blk ((w7).alloc (.cells (iv y3).toArray 106)) W.heap.size 54 (rv r):=⟨(((Below.refl (w7).heap.size w7).alloc (Nat.le_refl _) (.cells (iv y3).toArray 106)).cell (p:=⟨gg,1,none⟩) (Nat.lt_of_lt_of_le HGU.out Bb.out.size)).trans sb.1,sb.2.alloc _⟩;refine hK.out _ _ (.inr sc) ?_;clear hK K;have Oc:=hid (own_below Ob.out ((Below.refl w7.heap.size w7).alloc (Nat.le_refl _) (.cells (iv y3).toArray 106)));refine wpAnyE_one (i:=15) (by kernel_rfl) rfl (by kernel_rfl) (λK hK=>?_);refine wp_append_rows (.tmp 108) (.tmp 115) 39 ?_ 106 Tryz.underlying39 infoI rfl (by decide) (by decide) iv_len iv_one U.heap.size v1 x.its.length (x.its.flatMap iv) ?_ Oc.out (some ⟨w7.heap.size,0,none⟩) 1 1 ?_ [y3] rfl Rc.out LX1.out Bc.out.size ?_
       ·rfl
       ·go_simp
       ·go_simp
       intro v2 w9 h2 h3 h5 h6;obtain⟨q9,c9,hv,_⟩:=own_form h2.out;subst hv;have B9:=hid (Bc.out.grown h3.out Bc.out.size (λk e=>(Oc.out.lt k e).1));obtain⟨M9,K9⟩:=GU.out.items (l:=x.its++[y3]) (lq:=q9) (lc:=c9) B9.out (by rw[List.length_append,List.flatMap_append];exact h2.out) (λz hz=>by
        rcases List.mem_append.1 hz with hz |hz
        ·exact(GU.out.below B9.out).sp.it z hz
        ·rw[List.mem_singleton.1 hz];exact TYU.out.below B9.out) (λz hz=>by
        rcases List.mem_append.1 hz with hz |hz
        ·exact GU.out.off.it z hz
        ·rw[List.mem_singleton.1 hz];exact OYU.out) (λz hz=>by
        rcases List.mem_append.1 hz with hz |hz
        ·exact GU.out.oe.it z hz
        ·rw[List.mem_singleton.1 hz];exact OYE.out) (by rw[List.length_append];exact LI.out)
       rw[List.length_append,List.length_singleton] at M9 K9;have M9H:=hid M9;have K9H:=hid K9;have ct9:w9.cell? ⟨gg,1,none⟩=some (.slice x.ip x.its.length x.ic):=(B9.out.cell (p:=⟨gg,1,none⟩) HGU.out).trans s0.1;have fg9:=(GU.out.below B9.out).box.frozen 1;have s9:w9.cell? ⟨gg,1,none⟩=some (.slice x.ip x.its.length x.ic)∧Blk w9 W.heap.size 54 (rv r):=⟨ct9,s0.2.below B9.out HRU.out⟩;refine hK.out _ _ (.inr s9) ?_;clear hK K M9 K9 h2 h3 h5 h6;refine wpAnyE_one (i:=16) (by kernel_rfl) rfl (by kernel_rfl) (λK hK=>?_);go_simp;refine hK.out _ _ (.inr s9) ?_;clear hK K;refine wpAnyE_one (i:=17) (by kernel_rfl) rfl (by kernel_rfl) (λK hK=>?_);go_simp;refine hK.out _ _ (.inr s9) ?_;clear hK K;refine wpAnyE_one (i:=18) (by kernel_rfl) rfl (by kernel_rfl) (λK hK=>?_);go_simp;refine hK.out _ _ (.inr s9) ?_;clear hK K;refine wpAnyE_one (i:=19) (by kernel_rfl) rfl (by kernel_rfl) (λK hK=>?_);go_simp;refine hK.out _ _ (.inl rfl) ?_;clear hK K;refine wpAnyE_done (by kernel_rfl) ?_ _;go_simp;go_wp2_with fail
       go_end0
       exact⟨rfl,_,q',c',R,M9H.out,(HFI.out q9 c9),(by rw[HPN.out,HTQ.out];exact HRE.out),(Kept.of_below B1.out).trans (KU.out.moreF K9H.out (λb e=>e.elim (λe=> .inl (.inl e)) (λe=>(K1.out.qq b e).imp .inr id)))⟩
      ·skip
       refine wp_build1 39 106 (.tmp 114) rfl (iv y3) (by go_simp;exact HIV.out) (build_iv y3 _) ?_;have Rb:=hid (row_one iv 3 y3 Ua 106);have Bb:=hid (Ba.out.alloc Ba.out.size (.cells (iv y3).toArray 106));have sb:((Ua).alloc (.cells (iv y3).toArray 106)).cell? ⟨gg,1,none⟩=some (.slice x.ip x.its.length x.ic)∧Blk ((Ua).alloc (.cells (iv y3).toArray 106)) W.heap.size 54 (rv r):=⟨(((Below.refl (Ua).heap.size Ua).alloc (Nat.le_refl _) (.cells (iv y3).toArray 106)).cell (p:=⟨gg,1,none⟩) (Nat.lt_of_lt_of_le HGU.out Ba.out.size)).trans sa.1,sa.2.alloc _⟩;refine hK.out _ _ (.inr sb) ?_;clear hK K;have Eb:=hid (own_below Ea.out ((Below.refl Ua.heap.size Ua).alloc (Nat.le_refl _) (.cells (iv y3).toArray 106)));have HNE:=hid (show Ua.heap.size≠U.heap.size from by have:=(Ea.out.lt U.heap.size rfl).2;omega);refine wpAnyE_one (i:=7) (by kernel_rfl) rfl (by kernel_rfl) (λK hK=>?_);refine wp_append_rows (.tmp 102) (.tmp 107) 39 ?_ 106 Tryz.underlying39 infoI rfl (by decide) (by decide) iv_len iv_one U.heap.size (.slice (some ⟨U.heap.size,0,none⟩) 0 0) 0 [] ?_ Eb.out x.ip x.its.length x.ic ?_ x.its rfl (RX.out.below Bb.out) LX.out Bb.out.size ?_
       ·rfl
       ·go_simp
       ·go_simp
       intro v1 w7 h2 h3 h5 h6;have Oc:=hid (show(w7).ownsRow U.heap.size 106 3 v1 x.its.length (x.its.flatMap iv) from by have:=h2.out;rwa [Nat.zero_add,List.nil_append] at this);have Bc:=hid (Bb.out.grown h3.out Bb.out.size (λk e=>(Eb.out.lt k e).1));have sc:(w7).cell? ⟨gg,1,none⟩=some (.slice x.ip x.its.length x.ic)∧Blk w7 W.heap.size 54 (rv r):=⟨(Bc.out.cell (p:=⟨gg,1,none⟩) HGU.out).trans s0.1,s0.2.below Bc.out HRU.out⟩;have Rc:=hid (rowl_grown Rb.out h3.out HNE.out);refine hK.out _ _ (.inr sc) ?_;clear hK K h2 h3 h5 h6;refine wpAnyE_one (i:=15) (by kernel_rfl) rfl (by kernel_rfl) (λK hK=>?_);refine wp_append_rows (.tmp 108) (.tmp 115) 39 ?_ 106 Tryz.underlying39 infoI rfl (by decide) (by decide) iv_len iv_one U.heap.size v1 x.its.length (x.its.flatMap iv) ?_ Oc.out (some ⟨Ua.heap.size,0,none⟩) 1 1 ?_ [y3] rfl Rc.out LX1.out Bc.out.size ?_
       ·rfl
       ·go_simp
       ·go_simp
       intro v2 w9 h2 h3 h5 h6;obtain⟨q9,c9,hv,_⟩:=own_form h2.out;subst hv;have B9:=hid (Bc.out.grown h3.out Bc.out.size (λk e=>(Oc.out.lt k e).1));obtain⟨M9,K9⟩:=GU.out.items (l:=x.its++[y3]) (lq:=q9) (lc:=c9) B9.out (by rw[List.length_append,List.flatMap_append];exact h2.out) (λz hz=>by
        rcases List.mem_append.1 hz with hz |hz
        ·exact(GU.out.below B9.out).sp.it z hz
        ·rw[List.mem_singleton.1 hz];exact TYU.out.below B9.out) (λz hz=>by
        rcases List.mem_append.1 hz with hz |hz
        ·exact GU.out.off.it z hz
        ·rw[List.mem_singleton.1 hz];exact OYU.out) (λz hz=>by
        rcases List.mem_append.1 hz with hz |hz
        ·exact GU.out.oe.it z hz
        ·rw[List.mem_singleton.1 hz];exact OYE.out) (by rw[List.length_append];exact LI.out)
       rw[List.length_append,List.length_singleton] at M9 K9;have M9H:=hid M9;have K9H:=hid K9;have ct9:w9.cell? ⟨gg,1,none⟩=some (.slice x.ip x.its.length x.ic):=(B9.out.cell (p:=⟨gg,1,none⟩) HGU.out).trans s0.1;have fg9:=(GU.out.below B9.out).box.frozen 1;have s9:w9.cell? ⟨gg,1,none⟩=some (.slice x.ip x.its.length x.ic)∧Blk w9 W.heap.size 54 (rv r):=⟨ct9,s0.2.below B9.out HRU.out⟩;refine hK.out _ _ (.inr s9) ?_;clear hK K M9 K9 h2 h3 h5 h6;refine wpAnyE_one (i:=16) (by kernel_rfl) rfl (by kernel_rfl) (λK hK=>?_);go_simp;refine hK.out _ _ (.inr s9) ?_;clear hK K;refine wpAnyE_one (i:=17) (by kernel_rfl) rfl (by kernel_rfl) (λK hK=>?_);go_simp;refine hK.out _ _ (.inr s9) ?_;clear hK K;refine wpAnyE_one (i:=18) (by kernel_rfl) rfl (by kernel_rfl) (λK hK=>?_);go_simp;refine hK.out _ _ (.inr s9) ?_;clear hK K;refine wpAnyE_one (i:=19) (by kernel_rfl) rfl (by kernel_rfl) (λK hK=>?_);go_simp;refine hK.out _ _ (.inl rfl) ?_;clear hK K;refine wpAnyE_done (by kernel_rfl) ?_ _;go_simp;go_wp2_with fail
       go_end0
       exact⟨rfl,_,q',c',R,M9H.out,(HFI.out q9 c9),(by rw[HPN.out,HTQ.out];exact HRE.out),(Kept.of_below B1.out).trans (KU.out.moreF K9H.out (λb e=>e.elim (λe=> .inl (.inl e)) (λe=>(K1.out.qq b e).imp .inr id)))⟩
     ·skip
      refine wp_build1 39 106 (.tmp 114) rfl (iv y3) (by go_simp;exact HIV.out) (build_iv y3 _) ?_;have Ra:=hid (row_one iv 3 y3 U 106);have Ba:=hid (BB0.out.alloc BB0.out.size (.cells (iv y3).toArray 106));have sa:((U).alloc (.cells (iv y3).toArray 106)).cell? ⟨gg,1,none⟩=some (.slice x.ip x.its.length x.ic)∧Blk ((U).alloc (.cells (iv y3).toArray 106)) W.heap.size 54 (rv r):=⟨(((Below.refl (U).heap.size U).alloc (Nat.le_refl _) (.cells (iv y3).toArray 106)).cell (p:=⟨gg,1,none⟩) (Nat.lt_of_lt_of_le HGU.out BB0.out.size)).trans s0.1,s0.2.alloc _⟩;refine hK.out _ _ (.inr sa) ?_;clear hK K;obtain⟨Ua,hUa⟩:∃ V,U.alloc (.cells (iv y3).toArray 106)=V:=⟨_,rfl⟩;have HUA:=hid (show Ua.heap.size=U.heap.size+1 from by rw[←hUa];simp);rw[hUa] at Ra Ba sa ⊢;clear hUa;refine wpAnyE_one (i:=1) (by kernel_rfl) rfl (by kernel_rfl) (λK hK=>?_);go_simp;have Eb:=hid (own_empty0 Ua 106 3 U.heap.size Ba.out.size);have Bb:=hid (Ba.out.alloc Ba.out.size (.cells #[] 106));have sb:((Ua).alloc (.cells #[] 106)).cell? ⟨gg,1,none⟩=some (.slice x.ip x.its.length x.ic)∧Blk ((Ua).alloc (.cells #[] 106)) W.heap.size 54 (rv r):=⟨(((Below.refl (Ua).heap.size Ua).alloc (Nat.le_refl _) (.cells #[] 106)).cell (p:=⟨gg,1,none⟩) (Nat.lt_of_lt_of_le HGU.out Ba.out.size)).trans sa.1,sa.2.alloc _⟩;refine hK.out _ _ (.inr sb) ?_;clear hK K;have Rb:=hid (Ra.out.below ((Below.refl Ua.heap.size Ua).alloc (Nat.le_refl _) (.cells #[] 106)));have HNE:=hid (show U.heap.size≠Ua.heap.size from by have:=HUA.out;omega);refine wpAnyE_one (i:=7) (by kernel_rfl) rfl (by kernel_rfl) (λK hK=>?_);refine wp_append_rows (.tmp 102) (.tmp 107) 39 ?_ 106 Tryz.underlying39 infoI rfl (by decide) (by decide) iv_len iv_one U.heap.size (.slice (some ⟨Ua.heap.size,0,none⟩) 0 0) 0 [] ?_ Eb.out x.ip x.its.length x.ic ?_ x.its rfl (RX.out.below Bb.out) LX.out Bb.out.size ?_
      ·rfl
      ·go_simp
      ·go_simp
      intro v1 w7 h2 h3 h5 h6;have Oc:=hid (show(w7).ownsRow U.heap.size 106 3 v1 x.its.length (x.its.flatMap iv) from by have:=h2.out;rwa [Nat.zero_add,List.nil_append] at this);have Bc:=hid (Bb.out.grown h3.out Bb.out.size (λk e=>(Eb.out.lt k e).1));have sc:(w7).cell? ⟨gg,1,none⟩=some (.slice x.ip x.its.length x.ic)∧Blk w7 W.heap.size 54 (rv r):=⟨(Bc.out.cell (p:=⟨gg,1,none⟩) HGU.out).trans s0.1,s0.2.below Bc.out HRU.out⟩;have Rc:=hid (rowl_grown Rb.out h3.out HNE.out);refine hK.out _ _ (.inr sc) ?_;clear hK K h2 h3 h5 h6;refine wpAnyE_one (i:=15) (by kernel_rfl) rfl (by kernel_rfl) (λK hK=>?_);refine wp_append_rows (.tmp 108) (.tmp 115) 39 ?_ 106 Tryz.underlying39 infoI rfl (by decide) (by decide) iv_len iv_one U.heap.size v1 x.its.length (x.its.flatMap iv) ?_ Oc.out (some ⟨U.heap.size,0,none⟩) 1 1 ?_ [y3] rfl Rc.out LX1.out Bc.out.size ?_
      ·rfl
      ·go_simp
      ·go_simp
      intro v2 w9 h2 h3 h5 h6;obtain⟨q9,c9,hv,_⟩:=own_form h2.out;subst hv;have B9:=hid (Bc.out.grown h3.out Bc.out.size (λk e=>(Oc.out.lt k e).1));obtain⟨M9,K9⟩:=GU.out.items (l:=x.its++[y3]) (lq:=q9) (lc:=c9) B9.out (by rw[List.length_append,List.flatMap_append];exact h2.out) (λz hz=>by
       rcases List.mem_append.1 hz with hz |hz
       ·exact(GU.out.below B9.out).sp.it z hz
       ·rw[List.mem_singleton.1 hz];exact TYU.out.below B9.out) (λz hz=>by
       rcases List.mem_append.1 hz with hz |hz
       ·exact GU.out.off.it z hz
       ·rw[List.mem_singleton.1 hz];exact OYU.out) (λz hz=>by
       rcases List.mem_append.1 hz with hz |hz
       ·exact GU.out.oe.it z hz
       ·rw[List.mem_singleton.1 hz];exact OYE.out) (by rw[List.length_append];exact LI.out)
      rw[List.length_append,List.length_singleton] at M9 K9;have M9H:=hid M9;have K9H:=hid K9;have ct9:w9.cell? ⟨gg,1,none⟩=some (.slice x.ip x.its.length x.ic):=(B9.out.cell (p:=⟨gg,1,none⟩) HGU.out).trans s0.1;have fg9:=(GU.out.below B9.out).box.frozen 1;have s9:w9.cell? ⟨gg,1,none⟩=some (.slice x.ip x.its.length x.ic)∧Blk w9 W.heap.size 54 (rv r):=⟨ct9,s0.2.below B9.out HRU.out⟩;refine hK.out _ _ (.inr s9) ?_;clear hK K M9 K9 h2 h3 h5 h6;refine wpAnyE_one (i:=16) (by kernel_rfl) rfl (by kernel_rfl) (λK hK=>?_);go_simp;refine hK.out _ _ (.inr s9) ?_;clear hK K;refine wpAnyE_one (i:=17) (by kernel_rfl) rfl (by kernel_rfl) (λK hK=>?_);go_simp;refine hK.out _ _ (.inr s9) ?_;clear hK K;refine wpAnyE_one (i:=18) (by kernel_rfl) rfl (by kernel_rfl) (λK hK=>?_);go_simp;refine hK.out _ _ (.inr s9) ?_;clear hK K;refine wpAnyE_one (i:=19) (by kernel_rfl) rfl (by kernel_rfl) (λK hK=>?_);go_simp;refine hK.out _ _ (.inl rfl) ?_;clear hK K;refine wpAnyE_done (by kernel_rfl) ?_ _;go_simp;go_wp2_with fail
      go_end0
      exact⟨rfl,_,q',c',R,M9H.out,(HFI.out q9 c9),(by rw[HPN.out,HTQ.out];exact HRE.out),(Kept.of_below B1.out).trans (KU.out.moreF K9H.out (λb e=>e.elim (λe=> .inl (.inl e)) (λe=>(K1.out.qq b e).imp .inr id)))⟩
    ·have hl1:decide (0<r.r.le)=false:=decide_eq_false hl0;have hl2:r.r.le=0:=by have:=HLE.out.1;omega
     obtain⟨un,hun⟩:∃ u:Int,u=0:=⟨_,rfl⟩;have HUN:=hid (show un=(if (qp r.r).le=0 then 0 else x.sp.now+(qp r.r).le) from by rw[hun,if_pos (show(qp r.r).le=0 from hl2)])
     go_upto_region 19 with(fail)
     rw[←hun];clear d5 hl0 hl1 hl2 hun;obtain⟨y3,hy3⟩:∃ y:Itv,⟨⟨r.r.cl,un,t⟩,r.t,r.d⟩=y:=⟨_,rfl⟩;have HYI:=hid (show y3.i=⟨r.r.cl,un,t⟩ from by rw[←hy3]);have HIV:=hid (show[Value.int .i64 r.r.cl,.int .i64 un,.slice r.t t.length r.d]=iv y3 from by rw[←hy3];rfl);obtain⟨U,hU⟩:∃ U,(W5).drew=U:=⟨_,rfl⟩;have BU:=hid (show Below (W5).heap.size W5 U from by rw[←hU];exact(Below.refl _ _).drew);have GU:=hid (G2.out.below BU.out);have KU:=hid (show Kept (GFr gg q) W1 U from KG2.out.trans (Kept.of_below BU.out));have TYU:=hid (show TR U y3.p y3.i.t from by rw[←hy3];exact T1.out.keptF KU.out HTO.out);have OYU:=hid (show OffT (GFr gg q') y3.p y3.i.t from by rw[←hy3];exact off_q T1.out HTO.out K1.out.qq);have OYE:=hid (show OffT E y3.p y3.i.t from by rw[←hy3];exact HTE.out);have RX:=hid (show RowL U x.ip 3 iv x.its from GU.out.sp.its);have LX:=hid (show 0+x.its.length≤1000000 from by have:=HI.out;omega);have LX1:=hid (show x.its.length+1≤1000000 from by have:=HI.out;omega);have LI:=hid (show x.its.length+1≤1000 from by have:=HI.out;omega);have HGU:=hid (show gg<U.heap.size from GU.out.box.lt);have BRU:=BR5.out.below BU.out BR5.out.lt;have HRU:=hid (show W.heap.size<U.heap.size from BRU.lt);have s0:U.cell? ⟨gg,1,none⟩=some (.slice x.ip x.its.length x.ic)∧Blk U W.heap.size 54 (rv r):=⟨GU.out.cells.2.1,BRU⟩;have BB0:=hid (Below.refl U.heap.size U);have HFI:=hid (λ(a:Option Addr) (b:Nat)=>show Spv.sp { x with last:=las,wts:=L,wp:=lq,wc:=lc,its:=x.its++[y3],ip:=a,ic:=b } =(putP x.sp (qp r.r)).1 from by
      have e1:Spv.sp { x with last:=las,wts:=L,wp:=lq,wc:=lc,its:=x.its++[y3],ip:=a,ic:=b } = { Spv.sp { x with last:=las,wts:=L,wp:=lq,wc:=lc } with its:=(Spv.sp { x with last:=las,wts:=L,wp:=lq,wc:=lc }).its++[y3.i] } :=by
       unfold Spv.sp
       dsimp only
       rw[List.map_append,List.map_singleton]
      rw[e1,HPN.out,HTQ.out,HSP.out,HYI.out,HUN.out];rfl)
     clear hy3 BRU;refine wp_region_E (λY=>Y.cell? ⟨gg,1,none⟩=some (.slice x.ip x.its.length x.ic)∧Blk Y W.heap.size 54 (rv r)) (λi=>i == 19) (by kernel_rfl) ?_;change wpAnyE _ _ _ _ _ _ _ _ _ (W5).drew;rw[hU];clear hU;refine tkea9 0 s0 ?_;refine tkea9 2 s0 ?_;refine tkea9 3 s0 ?_;refine tkea9 4 s0 ?_;refine tkea9 5 s0 ?_;refine tke9 6 ?_ ?_ s0 ?_;rotate_left 1
     ·(intro w hS;have hs:=hS.1;clear hS;go_simp;try (with_reducible rfl))
     refine tkea9 8 s0 ?_;refine tke9 9 ?_ ?_ s0 ?_;rotate_left 1
     ·(intro w hS;have hs:=(rv_cells hS.2).1;clear hS;go_simp;try (with_reducible rfl))
     refine tkea9 10 s0 ?_;refine tkea9 11 s0 ?_;refine tke9 12 ?_ ?_ s0 ?_;rotate_left 1
     ·(intro w hS;have hs:=((rv_cells hS.2).2.2.2.2.1.trans (by rw[←HTL.out]));clear hS;go_simp;try (with_reducible rfl))
     refine tkea9 13 s0 ?_;refine wpAnyE_two (i:=1) (j:=14) (by kernel_rfl) rfl (by kernel_rfl) rfl (by kernel_rfl) (λK hK=>?_) (λK hK=>?_)
     ·skip
      go_simp;have Ea:=hid (own_empty0 U 106 3 U.heap.size BB0.out.size);have Ba:=hid (BB0.out.alloc BB0.out.size (.cells #[] 106));have sa:((U).alloc (.cells #[] 106)).cell? ⟨gg,1,none⟩=some (.slice x.ip x.its.length x.ic)∧Blk ((U).alloc (.cells #[] 106)) W.heap.size 54 (rv r):=⟨(((Below.refl (U).heap.size U).alloc (Nat.le_refl _) (.cells #[] 106)).cell (p:=⟨gg,1,none⟩) (Nat.lt_of_lt_of_le HGU.out BB0.out.size)).trans s0.1,s0.2.alloc _⟩;refine hK.out _ _ (.inr sa) ?_;clear hK K;obtain⟨Ua,hUa⟩:∃ V,U.alloc (.cells #[] 106)=V:=⟨_,rfl⟩;rw[hUa] at Ea Ba sa ⊢;clear hUa;refine wpAnyE_two (i:=7) (j:=14) (by kernel_rfl) rfl (by kernel_rfl) rfl (by kernel_rfl) (λK hK=>?_) (λK hK=>?_)
      ·skip
       refine wp_append_rows (.tmp 102) (.tmp 107) 39 ?_ 106 Tryz.underlying39 infoI rfl (by decide) (by decide) iv_len iv_one U.heap.size (.slice (some ⟨U.heap.size,0,none⟩) 0 0) 0 [] ?_ Ea.out x.ip x.its.length x.ic ?_ x.its rfl (RX.out.below Ba.out) LX.out Ba.out.size ?_
       ·rfl
       ·go_simp
       ·go_simp
       intro v1 w7 h2 h3 h5 h6;have Ob:=hid (show(w7).ownsRow U.heap.size 106 3 v1 x.its.length (x.its.flatMap iv) from by have:=h2.out;rwa [Nat.zero_add,List.nil_append] at this);have Bb:=hid (Ba.out.grown h3.out Ba.out.size (λk e=>(Ea.out.lt k e).1));have sb:(w7).cell? ⟨gg,1,none⟩=some (.slice x.ip x.its.length x.ic)∧Blk w7 W.heap.size 54 (rv r):=⟨(Bb.out.cell (p:=⟨gg,1,none⟩) HGU.out).trans s0.1,s0.2.below Bb.out HRU.out⟩;refine hK.out _ _ (.inr sb) ?_;clear hK K h2 h3 h5 h6;refine wpAnyE_one (i:=14) (by kernel_rfl) rfl (by kernel_rfl) (λK hK=>?_);refine wp_build1 39 106 (.tmp 114) rfl (iv y3) (by go_simp;exact HIV.out) (build_iv y3 _) ?_;have Rc:=hid (row_one iv 3 y3 w7 106);have Bc:=hid (Bb.out.alloc Bb.out.size (.cells (iv y3).toArray 106));have sc:((w7).alloc (.cells (iv y3).toArray 106)).cell? ⟨gg,1,none⟩=some (.slice x.ip x.its.length x.ic)∧Blk ((w7).alloc (.cells (iv y3).toArray 106)) W.heap.size 54 (rv r):=⟨(((Below.refl (w7).heap.size w7).alloc (Nat.le_refl _) (.cells (iv y3).toArray 106)).cell (p:=⟨gg,1,none⟩) (Nat.lt_of_lt_of_le HGU.out Bb.out.size)).trans sb.1,sb.2.alloc _⟩;refine hK.out _ _ (.inr sc) ?_;clear hK K;have Oc:=hid (own_below Ob.out ((Below.refl w7.heap.size w7).alloc (Nat.le_refl _) (.cells (iv y3).toArray 106)));refine wpAnyE_one (i:=15) (by kernel_rfl) rfl (by kernel_rfl) (λK hK=>?_);refine wp_append_rows (.tmp 108) (.tmp 115) 39 ?_ 106 Tryz.underlying39 infoI rfl (by decide) (by decide) iv_len iv_one U.heap.size v1 x.its.length (x.its.flatMap iv) ?_ Oc.out (some ⟨w7.heap.size,0,none⟩) 1 1 ?_ [y3] rfl Rc.out LX1.out Bc.out.size ?_
       ·rfl
       ·go_simp
       ·go_simp
       intro v2 w9 h2 h3 h5 h6;obtain⟨q9,c9,hv,_⟩:=own_form h2.out;subst hv;have B9:=hid (Bc.out.grown h3.out Bc.out.size (λk e=>(Oc.out.lt k e).1));obtain⟨M9,K9⟩:=GU.out.items (l:=x.its++[y3]) (lq:=q9) (lc:=c9) B9.out (by rw[List.length_append,List.flatMap_append];exact h2.out) (λz hz=>by
        rcases List.mem_append.1 hz with hz |hz
        ·exact(GU.out.below B9.out).sp.it z hz
        ·rw[List.mem_singleton.1 hz];exact TYU.out.below B9.out) (λz hz=>by
        rcases List.mem_append.1 hz with hz |hz
        ·exact GU.out.off.it z hz
        ·rw[List.mem_singleton.1 hz];exact OYU.out) (λz hz=>by
        rcases List.mem_append.1 hz with hz |hz
        ·exact GU.out.oe.it z hz
        ·rw[List.mem_singleton.1 hz];exact OYE.out) (by rw[List.length_append];exact LI.out)
       rw[List.length_append,List.length_singleton] at M9 K9;have M9H:=hid M9;have K9H:=hid K9;have ct9:w9.cell? ⟨gg,1,none⟩=some (.slice x.ip x.its.length x.ic):=(B9.out.cell (p:=⟨gg,1,none⟩) HGU.out).trans s0.1;have fg9:=(GU.out.below B9.out).box.frozen 1;have s9:w9.cell? ⟨gg,1,none⟩=some (.slice x.ip x.its.length x.ic)∧Blk w9 W.heap.size 54 (rv r):=⟨ct9,s0.2.below B9.out HRU.out⟩;refine hK.out _ _ (.inr s9) ?_;clear hK K M9 K9 h2 h3 h5 h6;refine wpAnyE_one (i:=16) (by kernel_rfl) rfl (by kernel_rfl) (λK hK=>?_);go_simp;refine hK.out _ _ (.inr s9) ?_;clear hK K;refine wpAnyE_one (i:=17) (by kernel_rfl) rfl (by kernel_rfl) (λK hK=>?_);go_simp;refine hK.out _ _ (.inr s9) ?_;clear hK K;refine wpAnyE_one (i:=18) (by kernel_rfl) rfl (by kernel_rfl) (λK hK=>?_);go_simp;refine hK.out _ _ (.inr s9) ?_;clear hK K;refine wpAnyE_one (i:=19) (by kernel_rfl) rfl (by kernel_rfl) (λK hK=>?_);go_simp;refine hK.out _ _ (.inl rfl) ?_;clear hK K;refine wpAnyE_done (by kernel_rfl) ?_ _;go_simp;go_wp2_with fail
       go_end0
       exact⟨rfl,_,q',c',R,M9H.out,(HFI.out q9 c9),(by rw[HPN.out,HTQ.out];exact HRE.out),(Kept.of_below B1.out).trans (KU.out.moreF K9H.out (λb e=>e.elim (λe=> .inl (.inl e)) (λe=>(K1.out.qq b e).imp .inr id)))⟩
      ·skip
       refine wp_build1 39 106 (.tmp 114) rfl (iv y3) (by go_simp;exact HIV.out) (build_iv y3 _) ?_;have Rb:=hid (row_one iv 3 y3 Ua 106);have Bb:=hid (Ba.out.alloc Ba.out.size (.cells (iv y3).toArray 106));have sb:((Ua).alloc (.cells (iv y3).toArray 106)).cell? ⟨gg,1,none⟩=some (.slice x.ip x.its.length x.ic)∧Blk ((Ua).alloc (.cells (iv y3).toArray 106)) W.heap.size 54 (rv r):=⟨(((Below.refl (Ua).heap.size Ua).alloc (Nat.le_refl _) (.cells (iv y3).toArray 106)).cell (p:=⟨gg,1,none⟩) (Nat.lt_of_lt_of_le HGU.out Ba.out.size)).trans sa.1,sa.2.alloc _⟩;refine hK.out _ _ (.inr sb) ?_;clear hK K;have Eb:=hid (own_below Ea.out ((Below.refl Ua.heap.size Ua).alloc (Nat.le_refl _) (.cells (iv y3).toArray 106)));have HNE:=hid (show Ua.heap.size≠U.heap.size from by have:=(Ea.out.lt U.heap.size rfl).2;omega);refine wpAnyE_one (i:=7) (by kernel_rfl) rfl (by kernel_rfl) (λK hK=>?_);refine wp_append_rows (.tmp 102) (.tmp 107) 39 ?_ 106 Tryz.underlying39 infoI rfl (by decide) (by decide) iv_len iv_one U.heap.size (.slice (some ⟨U.heap.size,0,none⟩) 0 0) 0 [] ?_ Eb.out x.ip x.its.length x.ic ?_ x.its rfl (RX.out.below Bb.out) LX.out Bb.out.size ?_
       ·rfl
       ·go_simp
       ·go_simp
       intro v1 w7 h2 h3 h5 h6;have Oc:=hid (show(w7).ownsRow U.heap.size 106 3 v1 x.its.length (x.its.flatMap iv) from by have:=h2.out;rwa [Nat.zero_add,List.nil_append] at this);have Bc:=hid (Bb.out.grown h3.out Bb.out.size (λk e=>(Eb.out.lt k e).1));have sc:(w7).cell? ⟨gg,1,none⟩=some (.slice x.ip x.its.length x.ic)∧Blk w7 W.heap.size 54 (rv r):=⟨(Bc.out.cell (p:=⟨gg,1,none⟩) HGU.out).trans s0.1,s0.2.below Bc.out HRU.out⟩;have Rc:=hid (rowl_grown Rb.out h3.out HNE.out);refine hK.out _ _ (.inr sc) ?_;clear hK K h2 h3 h5 h6;refine wpAnyE_one (i:=15) (by kernel_rfl) rfl (by kernel_rfl) (λK hK=>?_);refine wp_append_rows (.tmp 108) (.tmp 115) 39 ?_ 106 Tryz.underlying39 infoI rfl (by decide) (by decide) iv_len iv_one U.heap.size v1 x.its.length (x.its.flatMap iv) ?_ Oc.out (some ⟨Ua.heap.size,0,none⟩) 1 1 ?_ [y3] rfl Rc.out LX1.out Bc.out.size ?_
       ·rfl
       ·go_simp
       ·go_simp
       intro v2 w9 h2 h3 h5 h6;obtain⟨q9,c9,hv,_⟩:=own_form h2.out;subst hv;have B9:=hid (Bc.out.grown h3.out Bc.out.size (λk e=>(Oc.out.lt k e).1));obtain⟨M9,K9⟩:=GU.out.items (l:=x.its++[y3]) (lq:=q9) (lc:=c9) B9.out (by rw[List.length_append,List.flatMap_append];exact h2.out) (λz hz=>by
        rcases List.mem_append.1 hz with hz |hz
        ·exact(GU.out.below B9.out).sp.it z hz
        ·rw[List.mem_singleton.1 hz];exact TYU.out.below B9.out) (λz hz=>by
        rcases List.mem_append.1 hz with hz |hz
        ·exact GU.out.off.it z hz
        ·rw[List.mem_singleton.1 hz];exact OYU.out) (λz hz=>by
        rcases List.mem_append.1 hz with hz |hz
        ·exact GU.out.oe.it z hz
        ·rw[List.mem_singleton.1 hz];exact OYE.out) (by rw[List.length_append];exact LI.out)
       rw[List.length_append,List.length_singleton] at M9 K9;have M9H:=hid M9;have K9H:=hid K9;have ct9:w9.cell? ⟨gg,1,none⟩=some (.slice x.ip x.its.length x.ic):=(B9.out.cell (p:=⟨gg,1,none⟩) HGU.out).trans s0.1;have fg9:=(GU.out.below B9.out).box.frozen 1;have s9:w9.cell? ⟨gg,1,none⟩=some (.slice x.ip x.its.length x.ic)∧Blk w9 W.heap.size 54 (rv r):=⟨ct9,s0.2.below B9.out HRU.out⟩;refine hK.out _ _ (.inr s9) ?_;clear hK K M9 K9 h2 h3 h5 h6;refine wpAnyE_one (i:=16) (by kernel_rfl) rfl (by kernel_rfl) (λK hK=>?_);go_simp;refine hK.out _ _ (.inr s9) ?_;clear hK K;refine wpAnyE_one (i:=17) (by kernel_rfl) rfl (by kernel_rfl) (λK hK=>?_);go_simp;refine hK.out _ _ (.inr s9) ?_;clear hK K;refine wpAnyE_one (i:=18) (by kernel_rfl) rfl (by kernel_rfl) (λK hK=>?_);go_simp;refine hK.out _ _ (.inr s9) ?_;clear hK K;refine wpAnyE_one (i:=19) (by kernel_rfl) rfl (by kernel_rfl) (λK hK=>?_);go_simp;refine hK.out _ _ (.inl rfl) ?_;clear hK K;refine wpAnyE_done (by kernel_rfl) ?_ _;go_simp;go_wp2_with fail
       go_end0
       exact⟨rfl,_,q',c',R,M9H.out,(HFI.out q9 c9),(by rw[HPN.out,HTQ.out];exact HRE.out),(Kept.of_below B1.out).trans (KU.out.moreF K9H.out (λb e=>e.elim (λe=> .inl (.inl e)) (λe=>(K1.out.qq b e).imp .inr id)))⟩
     ·skip
      refine wp_build1 39 106 (.tmp 114) rfl (iv y3) (by go_simp;exact HIV.out) (build_iv y3 _) ?_;have Ra:=hid (row_one iv 3 y3 U 106);have Ba:=hid (BB0.out.alloc BB0.out.size (.cells (iv y3).toArray 106));have sa:((U).alloc (.cells (iv y3).toArray 106)).cell? ⟨gg,1,none⟩=some (.slice x.ip x.its.length x.ic)∧Blk ((U).alloc (.cells (iv y3).toArray 106)) W.heap.size 54 (rv r):=⟨(((Below.refl (U).heap.size U).alloc (Nat.le_refl _) (.cells (iv y3).toArray 106)).cell (p:=⟨gg,1,none⟩) (Nat.lt_of_lt_of_le HGU.out BB0.out.size)).trans s0.1,s0.2.alloc _⟩;refine hK.out _ _ (.inr sa) ?_;clear hK K;obtain⟨Ua,hUa⟩:∃ V,U.alloc (.cells (iv y3).toArray 106)=V:=⟨_,rfl⟩;have HUA:=hid (show Ua.heap.size=U.heap.size+1 from by rw[←hUa];simp);rw[hUa] at Ra Ba sa ⊢;clear hUa;refine wpAnyE_one (i:=1) (by kernel_rfl) rfl (by kernel_rfl) (λK hK=>?_);go_simp;have Eb:=hid (own_empty0 Ua 106 3 U.heap.size Ba.out.size);have Bb:=hid (Ba.out.alloc Ba.out.size (.cells #[] 106));have sb:((Ua).alloc (.cells #[] 106)).cell? ⟨gg,1,none⟩=some (.slice x.ip x.its.length x.ic)∧Blk ((Ua).alloc (.cells #[] 106)) W.heap.size 54 (rv r):=⟨(((Below.refl (Ua).heap.size Ua).alloc (Nat.le_refl _) (.cells #[] 106)).cell (p:=⟨gg,1,none⟩) (Nat.lt_of_lt_of_le HGU.out Ba.out.size)).trans sa.1,sa.2.alloc _⟩;refine hK.out _ _ (.inr sb) ?_;clear hK K;have Rb:=hid (Ra.out.below ((Below.refl Ua.heap.size Ua).alloc (Nat.le_refl _) (.cells #[] 106)));have HNE:=hid (show U.heap.size≠Ua.heap.size from by have:=HUA.out;omega);refine wpAnyE_one (i:=7) (by kernel_rfl) rfl (by kernel_rfl) (λK hK=>?_);refine wp_append_rows (.tmp 102) (.tmp 107) 39 ?_ 106 Tryz.underlying39 infoI rfl (by decide) (by decide) iv_len iv_one U.heap.size (.slice (some ⟨Ua.heap.size,0,none⟩) 0 0) 0 [] ?_ Eb.out x.ip x.its.length x.ic ?_ x.its rfl (RX.out.below Bb.out) LX.out Bb.out.size ?_
      ·rfl
      ·go_simp
      ·go_simp
      intro v1 w7 h2 h3 h5 h6;have Oc:=hid (show(w7).ownsRow U.heap.size 106 3 v1 x.its.length (x.its.flatMap iv) from by have:=h2.out;rwa [Nat.zero_add,List.nil_append] at this);have Bc:=hid (Bb.out.grown h3.out Bb.out.size (λk e=>(Eb.out.lt k e).1));have sc:(w7).cell? ⟨gg,1,none⟩=some (.slice x.ip x.its.length x.ic)∧Blk w7 W.heap.size 54 (rv r):=⟨(Bc.out.cell (p:=⟨gg,1,none⟩) HGU.out).trans s0.1,s0.2.below Bc.out HRU.out⟩;have Rc:=hid (rowl_grown Rb.out h3.out HNE.out);refine hK.out _ _ (.inr sc) ?_;clear hK K h2 h3 h5 h6;refine wpAnyE_one (i:=15) (by kernel_rfl) rfl (by kernel_rfl) (λK hK=>?_);refine wp_append_rows (.tmp 108) (.tmp 115) 39 ?_ 106 Tryz.underlying39 infoI rfl (by decide) (by decide) iv_len iv_one U.heap.size v1 x.its.length (x.its.flatMap iv) ?_ Oc.out (some ⟨U.heap.size,0,none⟩) 1 1 ?_ [y3] rfl Rc.out LX1.out Bc.out.size ?_
      ·rfl
      ·go_simp
      ·go_simp
      intro v2 w9 h2 h3 h5 h6;obtain⟨q9,c9,hv,_⟩:=own_form h2.out;subst hv;have B9:=hid (Bc.out.grown h3.out Bc.out.size (λk e=>(Oc.out.lt k e).1));obtain⟨M9,K9⟩:=GU.out.items (l:=x.its++[y3]) (lq:=q9) (lc:=c9) B9.out (by rw[List.length_append,List.flatMap_append];exact h2.out) (λz hz=>by
       rcases List.mem_append.1 hz with hz |hz
       ·exact(GU.out.below B9.out).sp.it z hz
       ·rw[List.mem_singleton.1 hz];exact TYU.out.below B9.out) (λz hz=>by
       rcases List.mem_append.1 hz with hz |hz
       ·exact GU.out.off.it z hz
       ·rw[List.mem_singleton.1 hz];exact OYU.out) (λz hz=>by
       rcases List.mem_append.1 hz with hz |hz
       ·exact GU.out.oe.it z hz
       ·rw[List.mem_singleton.1 hz];exact OYE.out) (by rw[List.length_append];exact LI.out)
      rw[List.length_append,List.length_singleton] at M9 K9;have M9H:=hid M9;have K9H:=hid K9;have ct9:w9.cell? ⟨gg,1,none⟩=some (.slice x.ip x.its.length x.ic):=(B9.out.cell (p:=⟨gg,1,none⟩) HGU.out).trans s0.1;have fg9:=(GU.out.below B9.out).box.frozen 1;have s9:w9.cell? ⟨gg,1,none⟩=some (.slice x.ip x.its.length x.ic)∧Blk w9 W.heap.size 54 (rv r):=⟨ct9,s0.2.below B9.out HRU.out⟩;refine hK.out _ _ (.inr s9) ?_;clear hK K M9 K9 h2 h3 h5 h6;refine wpAnyE_one (i:=16) (by kernel_rfl) rfl (by kernel_rfl) (λK hK=>?_);go_simp;refine hK.out _ _ (.inr s9) ?_;clear hK K;refine wpAnyE_one (i:=17) (by kernel_rfl) rfl (by kernel_rfl) (λK hK=>?_);go_simp;refine hK.out _ _ (.inr s9) ?_;clear hK K;refine wpAnyE_one (i:=18) (by kernel_rfl) rfl (by kernel_rfl) (λK hK=>?_);go_simp;refine hK.out _ _ (.inr s9) ?_;clear hK K;refine wpAnyE_one (i:=19) (by kernel_rfl) rfl (by kernel_rfl) (λK hK=>?_);go_simp;refine hK.out _ _ (.inl rfl) ?_;clear hK K;refine wpAnyE_done (by kernel_rfl) ?_ _;go_simp;go_wp2_with fail
      go_end0
      exact⟨rfl,_,q',c',R,M9H.out,(HFI.out q9 c9),(by rw[HPN.out,HTQ.out];exact HRE.out),(Kept.of_below B1.out).trans (KU.out.moreF K9H.out (λb e=>e.elim (λe=> .inl (.inl e)) (λe=>(K1.out.qq b e).imp .inr id)))⟩
end Go.Proofs.YtlipjglehongeaaGreatDoor
