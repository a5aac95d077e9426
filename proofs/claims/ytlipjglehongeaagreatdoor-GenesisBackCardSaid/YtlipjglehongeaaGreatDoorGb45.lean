/-
  THE REFERENCE
-/
import Derived.Test.YtlipjglehongeaaGreatDoorGb44
import Derived.Test.YtlipjglehongeaaGreatDoorTk
open Go.Lib (hid)
set_option maxRecDepth 100000
namespace Go.Proofs.YtlipjglehongeaaGreatDoor
open Go Go.RowKit Sh
variable {E : Nat → Prop}
theorem GW.waiters {w0 W W':World} {gg c:Nat} {x:Spv} {q:Option Addr} {R:List Rpv} {l:List Wtv} {lq:Option Addr} {lc:Nat} (h:GW E w0 W gg x q c R) (hb:Below W.heap.size W W') (ho:W'.ownsRow W.heap.size 109 4 (.slice lq l.length lc) l.length (l.flatMap wv)) (ht:∀ y∈l,TR W' y.p y.x.p) (hto:∀ y∈l,OffT (GFr gg q) y.p y.x.p) (hte:∀ y∈l,OffT E y.p y.x.p) (hn:l.length≤1000):
  GW E w0 (W'.setCell ⟨gg,2,none⟩ (.slice lq l.length lc)) gg { x with wts:=l,wp:=lq,wc:=lc } q c R∧Kept (GFr gg q) W (W'.setCell ⟨gg,2,none⟩ (.slice lq l.length lc)):=by
 have g:=h.below hb;have hk:Kept (λb=>b=gg) W' (W'.setCell ⟨gg,2,none⟩ (.slice lq l.length lc)):=(Kept.refl (λb=>b=gg) W').setCell (p:=⟨gg,2,none⟩) (.inl rfl) _;have f:∀ k,k=gg→GFr gg q k:=λk e=> .inl e
 have hlo:=own_kept ho hk (λb hb' e=>own_apart ho g.box (by decide) (by rw[hb',e]));have s:=g.sp.keptF hk (g.off.mono f);refine⟨⟨?_,⟨s.its,s.it,RowL.of_own wv_len rfl hlo,λy hy=>(ht y hy).keptF hk ((hto y hy).mono f),s.l4,s.la,s.n,by show l.length≤_;omega⟩,⟨g.off.its,g.off.it,λ_ k hk' e=>?_,hto,g.off.la⟩,own_kept g.ro hk (λb hb e=>own_apart g.ro g.box (by decide) (by rw[hb,e])),λy hy=>(g.rt y hy).keptF hk ((g.rof y hy).mono f),g.rof,g.ge,?_,⟨g.oe.its,g.oe.it,λ_ k hk' e=>by have h1:=(ho.lt k hk'.own).1;have h2:=g.eo k e;have h3:=h.bel.size;omega,hte,g.oe.la⟩,g.eo⟩,(Kept.of_below hb).trans (hk.mono f)⟩
 ·exact g.box.store 2 (.slice lq l.length lc)
 ·have:=(ho.lt k hk'.own).1;exact h.notq this e
 ·exact g.bel.trans ⟨hk.os,hk.tape,hk.output,hk.size,λb hb=>hk.block b (Nat.lt_of_lt_of_le hb g.bel.size) (λe=>by have:=g.ge;omega)⟩
theorem tr_rw {w:World} {p:Option Addr} {n:Nat} {G:Nat→Fld} (h:TR w p (fl n G)):Rw w p n G∧n≤9223372036854775807:=by
 have h1:=h.t;have h2:=h.n;rw[fl_length] at h1 h2;exact⟨h1.congr λj hj=>gl_fl hj,h2⟩
theorem fndI_none {p:List Fld} {l:List It} (h:fnd p l=none):fndI p l= -1:=by unfold fndI;rw[h]
theorem fndI_some {p:List Fld} {l:List It} {k:Nat} (h:fnd p l=some k):fndI p l=(k:Int):=by unfold fndI;rw[h]
theorem fnd_ltG {p:List Fld} {l:List It} {k:Nat} (h:fnd p l=some k):k<l.length:=by
 unfold fnd at h;rw[List.findIdx?_eq_some_iff_getElem] at h;exact h.1
set_option maxHeartbeats 4000000 in
theorem reflook_t (w0:World) (gg k:Nat) (x:Spv) (q:Option Addr) (c:Nat) (r:Rv) (W:World) (h:GW E w0 W gg x q c []) (hr:RQ E W gg q r) (hs:SmP x r.r) (hc:r.r.cl=(k:Int)) (h4:k<4) (hcap:x.its.length≤x.ic):
  Calls Tryz.prog 81 #[.pointer (some ⟨gg,0,none⟩),.agg (rv r).toArray] W λe W'=>e= .returned (.tuple #[])∧∃ x' q' c' R,GW E w0 W' gg x' q' c' R∧x'.sp=(finP ((lookP x.sp (qp r.r) (fnd (qp r.r).p x.sp.its)).1,(lookP x.sp (qp r.r) (fnd (qp r.r).p x.sp.its)).2,false) (qp r.r)).1 ∧R.map (·.r)=(finP ((lookP x.sp (qp r.r) (fnd (qp r.r).p x.sp.its)).1,(lookP x.sp (qp r.r) (fnd (qp r.r).p x.sp.its)).2,false) (qp r.r)).2 ∧Kept (GFr gg q) W W':=by
 obtain⟨W1,hW1⟩:∃ V,W.alloc (.cells (rv r).toArray 54)=V:=⟨_,rfl⟩;have B1:=hid (show Below W.heap.size W W1 from by rw[←hW1];exact(Below.refl _ _).alloc (Nat.le_refl _) _);have BR:=hid (show Blk W1 W.heap.size 54 (rv r) from by rw[←hW1];exact Blk.new W 54 (rv r));have G1:=hid (h.below B1.out);have Q1:=hid (hr.below B1.out);have HNG:=hid (show W.heap.size≠gg from by have:=h.box.lt;omega);have FR:=hid (rv_size r);have HS:=hid hs;have HC:=hid hc;have HCAP:=hid hcap;clear h hr hs hc hcap
 go_enter Tryz.func81,Tryz.ntmps81
 go_upto_region 1 with(fail)
 clear hW1;obtain⟨U,hU⟩:∃ U,W1.drew=U:=⟨_,rfl⟩;have BU:=hid (show Below W1.heap.size W1 U from by rw[←hU];exact(Below.refl _ _).drew);have GU:=hid (G1.out.below BU.out);have QU:=hid (Q1.out.below BU.out);have KU:=hid (show Kept (GFr gg q) W U from(Kept.of_below B1.out).trans (Kept.of_below BU.out));have s0:U.rangeAt gg 0 (sv x)∧Blk U W.heap.size 54 (rv r):=⟨GU.out.row,BR.out.below BU.out BR.out.lt⟩;have FX:=hid (sv_size x GU.out.sp.l4);clear BU G1 Q1;refine wp_region_held (S:=λY=>Y.rangeAt gg 0 (sv x)∧Blk Y W.heap.size 54 (rv r)) (by kernel_rfl) ?_;change wpAnyH _ _ _ _ _ _ _ _ W1.drew;rw[hU];clear hU;refine tka9 0 s0 ?_;refine tka9 1 s0 ?_;refine tka9 2 s0 ?_;refine tkg9 3 (v:= .agg (sv x).toArray) (yieldsIf_load_mid (by kernel_rfl) 46 (.tmp 8) rfl gg 0 (by go_simp) (sv x) _ (λ_ h=>h.1) Tryz.underlying46 rfl (FX.out)) s0 ?_;refine tka9 4 s0 ?_;refine tk9 5 ?_ ?_ s0 ?_;rotate_left 1
 ·(intro w hS;have hs:=(rv_cells hS.2).2.2.2.1;clear hS;go_simp;try (with_reducible rfl))
 have FD:=hid (refFind_t x r.p r.r.n r.c r.r.G U (tr_rw QU.out.p).2 (tr_rw QU.out.p).1 GU.out.sp);obtain⟨fi,hfi⟩:∃ z,fndI (fl r.r.n r.r.G) x.sp.its=z:=⟨_,rfl⟩;rw[hfi] at FD;refine rdw9 6 λK hK=>?_
 go_simp;refine FD.out.mono ?_
 rintro e w2 ⟨rfl,b2⟩
 have G2:=hid (GU.out.below b2);have Q2:=hid (QU.out.below b2);have K2:=hid (show Kept (GFr gg q) W w2 from KU.out.trans (Kept.of_below b2));have s2:w2.rangeAt gg 0 (sv x)∧Blk w2 W.heap.size 54 (rv r):=⟨G2.out.row,s0.2.below b2 s0.2.lt⟩;refine hK.out _ _ s2 (λ_=>?_);clear hK K b2 FD s0 GU QU KU;refine tka9 7 s2 ?_;refine wpAnyH_done (by kernel_rfl) ?_ _;go_simp;have BR2:=hid s2.2;have RG2:=hid s2.1;clear s2;have d2:=(rv_cells BR2.out).2.2.1
 cases ho:fnd (qp r.r).p x.sp.its with
 |none=>
  obtain rfl:fi= -1:=hfi.symm.trans (fndI_none ho);have HHO:=hid ho;clear hfi ho
  by_cases k2:r.r.kd=2∨r.r.kd=3
  ·have HP:=hid (show lookP x.sp (qp r.r) none=(x.sp,tellP (qp r.r) 3) from if_pos k2);have e2:(r.r.kd == 2 || r.r.kd == 3)=true:=by rcases k2 with e |e<;>rw[e]<;>rfl
   rcases k2 with k2 |k2
   ·rw[k2] at d2;have TE:=hid (tellE_t w0 gg k x q c r 3 w2 G2.out HC.out h4)
    go_wp2_with ((with_reducible refine load_blk 54 (.tmp 3) W.heap.size 54 (rv r) _ rfl rfl ?_ Tryz.underlying54 ?_ ?_ ?_ ?_);exact BR2.out;exact rfl;exact FR.out;exact rfl)
    refine TE.out.mono ?_
    rintro e w7 ⟨rfl,z,q7,c7,hz,g7,s7,k7,o7⟩
    go_wp2_with fail
    go_end0
    exact⟨rfl,_,q7,c7,[z],g7,by rw[HHO.out,HP.out,fin_no];exact s7,by rw[HHO.out,HP.out,fin_no];exact congrArg (λz=>[z]) hz,K2.out.trans k7⟩
   ·rw[k2] at d2;have TE:=hid (tellE_t w0 gg k x q c r 3 w2 G2.out HC.out h4)
    go_wp2_with ((with_reducible refine load_blk 54 (.tmp 3) W.heap.size 54 (rv r) _ rfl rfl ?_ Tryz.underlying54 ?_ ?_ ?_ ?_);exact BR2.out;exact rfl;exact FR.out;exact rfl)
    refine TE.out.mono ?_
    rintro e w7 ⟨rfl,z,q7,c7,hz,g7,s7,k7,o7⟩
    go_wp2_with fail
    go_end0
    exact⟨rfl,_,q7,c7,[z],g7,by rw[HHO.out,HP.out,fin_no];exact s7,by rw[HHO.out,HP.out,fin_no];exact congrArg (λz=>[z]) hz,K2.out.trans k7⟩
  ·have e2:(r.r.kd == 2)=false:=by rw[beq_eq_false_iff_ne];exact λe=>k2 (.inl e)
   have e3:(r.r.kd == 3)=false:=by rw[beq_eq_false_iff_ne];exact λe=>k2 (.inr e)
   have cw:=G2.out.cells.2.2
   by_cases h16:16≤x.wts.length
   ·have HP:=hid (show lookP x.sp (qp r.r) none=(x.sp,tellP (qp r.r) 5) from(if_neg k2).trans (if_pos (by show 16≤(x.wts.map (·.x)).length;rw[List.length_map];exact h16)));have e4:decide ((16:Int)≤(x.wts.length:Int))=true:=decide_eq_true (by omega);have e5:(16:Int)≤(x.wts.length:Int):=by omega
    have TE:=hid (tellE_t w0 gg k x q c r 5 w2 G2.out HC.out h4)
    go_wp2_with ((with_reducible refine load_blk 54 (.tmp 3) W.heap.size 54 (rv r) _ rfl rfl ?_ Tryz.underlying54 ?_ ?_ ?_ ?_);exact BR2.out;exact rfl;exact FR.out;exact rfl)
    refine TE.out.mono ?_
    rintro e w7 ⟨rfl,z,q7,c7,hz,g7,s7,k7,o7⟩
    go_wp2_with fail
    go_end0
    exact⟨rfl,_,q7,c7,[z],g7,by rw[HHO.out,HP.out,fin_no];exact s7,by rw[HHO.out,HP.out,fin_no];exact congrArg (λz=>[z]) hz,K2.out.trans k7⟩
   ·have HP:=hid (show lookP x.sp (qp r.r) none=({ x.sp with wts:=x.sp.wts++[⟨r.r.cl,r.r.sq,r.r.kd == 5,fl r.r.n r.r.G⟩] },tellP (qp r.r) 4) from(if_neg k2).trans (if_neg (by show ¬ 16≤(x.wts.map (·.x)).length;rw[List.length_map];exact h16)));have e4:decide ((16:Int)≤(x.wts.length:Int))=false:=decide_eq_false (by omega);have e5:(x.wts.length:Int)<16:=by omega
    go_upto_region 2 with(fail)
    clear cw e4 e5 d2;obtain⟨y3,hy3⟩:∃ y:Wtv,⟨⟨r.r.cl,r.r.sq,r.r.kd == 5,fl r.r.n r.r.G⟩,r.p,r.c⟩=y:=⟨_,rfl⟩;have HPL:=hid (fl_length r.r.n r.r.G);have HIV:=hid (show[Value.int .i64 r.r.cl,.int .i64 r.r.sq,.bool (r.r.kd == 5),.slice r.p r.r.n r.c]=wv y3 from by
     rw[←hy3]
     show _=[Value.int .i64 r.r.cl,.int .i64 r.r.sq,.bool (r.r.kd == 5),.slice r.p (fl r.r.n r.r.G).length r.c]
     rw[HPL.out])
    obtain⟨U,hU⟩:∃ U,w2.drew=U:=⟨_,rfl⟩;have BU:=hid (show Below w2.heap.size w2 U from by rw[←hU];exact(Below.refl _ _).drew);have GU:=hid (G2.out.below BU.out);have KD:=hid (show Kept (GFr gg q) w2 U from Kept.of_below BU.out);have TYU:=hid (show TR U y3.p y3.x.p from by rw[←hy3];exact Q2.out.p.below BU.out);have OYU:=hid (show OffT (GFr gg q) y3.p y3.x.p from by rw[←hy3];exact Q2.out.pof);have OYE:=hid (show OffT E y3.p y3.x.p from by rw[←hy3];exact Q2.out.pe);have RX:=hid (show RowL U x.wp 4 wv x.wts from GU.out.sp.wts);have LX:=hid (show 0+x.wts.length≤1000000 from by omega);have LX1:=hid (show x.wts.length+1≤1000000 from by omega);have LI:=hid (show x.wts.length+1≤1000 from by omega);have HGU:=hid (show gg<U.heap.size from GU.out.box.lt);have BRU:=BR2.out.below BU.out BR2.out.lt;have HRU:=hid (show W.heap.size<U.heap.size from BRU.lt);have s0:U.cell? ⟨gg,2,none⟩=some (.slice x.wp x.wts.length x.wc)∧Blk U W.heap.size 54 (rv r):=⟨GU.out.cells.2.2,BRU⟩;have BB0:=hid (Below.refl U.heap.size U);have HFI:=hid (λ(a:Option Addr) (b:Nat)=>show Spv.sp { x with wts:=x.wts++[y3],wp:=a,wc:=b } = { x.sp with wts:=x.sp.wts++[⟨r.r.cl,r.r.sq,r.r.kd == 5,fl r.r.n r.r.G⟩] } from by
     rw[←hy3];unfold Spv.sp
     dsimp only
     rw[List.map_append,List.map_singleton])
    clear hy3 BRU;refine wp_region_E (λY=>Y.cell? ⟨gg,2,none⟩=some (.slice x.wp x.wts.length x.wc)∧Blk Y W.heap.size 54 (rv r)) (λi=>i == 23) (by kernel_rfl) ?_;change wpAnyE _ _ _ _ _ _ _ _ _ w2.drew;rw[hU];clear hU;refine tkea9 0 s0 ?_;refine tkea9 2 s0 ?_;refine tkea9 3 s0 ?_;refine tkea9 4 s0 ?_;refine tkea9 5 s0 ?_;refine tke9 6 ?_ ?_ s0 ?_;rotate_left 1
    ·(intro w hS;have hs:=hS.1;clear hS;go_simp;try (with_reducible rfl))
    refine tkea9 8 s0 ?_;refine tke9 9 ?_ ?_ s0 ?_;rotate_left 1
    ·(intro w hS;have hs:=(rv_cells hS.2).1;clear hS;go_simp;try (with_reducible rfl))
    refine tkea9 10 s0 ?_;refine tke9 11 ?_ ?_ s0 ?_;rotate_left 1
    ·(intro w hS;have hs:=(rv_cells hS.2).2.1;clear hS;go_simp;try (with_reducible rfl))
    refine tkea9 12 s0 ?_;refine tke9 13 ?_ ?_ s0 ?_;rotate_left 1
    ·(intro w hS;have hs:=(rv_cells hS.2).2.2.1;clear hS;go_simp;try (with_reducible rfl))
    refine tkea9 14 s0 ?_;refine tkea9 15 s0 ?_;refine tke9 16 ?_ ?_ s0 ?_;rotate_left 1
    ·(intro w hS;have hs:=(rv_cells hS.2).2.2.2.1;clear hS;go_simp;try (with_reducible rfl))
    refine tkea9 17 s0 ?_;refine wpAnyE_two (i:=1) (j:=18) (by kernel_rfl) rfl (by kernel_rfl) rfl (by kernel_rfl) (λK hK=>?_) (λK hK=>?_)
    ·skip
     go_simp;have Ea:=hid (own_empty0 U 109 4 U.heap.size BB0.out.size);have Ba:=hid (BB0.out.alloc BB0.out.size (.cells #[] 109));have sa:((U).alloc (.cells #[] 109)).cell? ⟨gg,2,none⟩=some (.slice x.wp x.wts.length x.wc)∧Blk ((U).alloc (.cells #[] 109)) W.heap.size 54 (rv r):=⟨(((Below.refl (U).heap.size U).alloc (Nat.le_refl _) (.cells #[] 109)).cell (p:=⟨gg,2,none⟩) (Nat.lt_of_lt_of_le HGU.out BB0.out.size)).trans s0.1,s0.2.alloc _⟩;refine hK.out _ _ (.inr sa) ?_;clear hK K;obtain⟨Ua,hUa⟩:∃ V,U.alloc (.cells #[] 109)=V:=⟨_,rfl⟩;rw[hUa] at Ea Ba sa ⊢;clear hUa;refine wpAnyE_two (i:=7) (j:=18) (by kernel_rfl) rfl (by kernel_rfl) rfl (by kernel_rfl) (λK hK=>?_) (λK hK=>?_)
     ·skip
      refine wp_append_rows (.tmp 14) (.tmp 19) 40 ?_ 109 Tryz.underlying40 infoW rfl (by decide) (by decide) wv_len wv_one U.heap.size (.slice (some ⟨U.heap.size,0,none⟩) 0 0) 0 [] ?_ Ea.out x.wp x.wts.length x.wc ?_ x.wts rfl (RX.out.below Ba.out) LX.out Ba.out.size ?_
      ·rfl
      ·go_simp
      ·go_simp
      intro v1 w7 h2 h3 h5 h6;have Ob:=hid (show(w7).ownsRow U.heap.size 109 4 v1 x.wts.length (x.wts.flatMap wv) from by have:=h2.out;rwa [Nat.zero_add,List.nil_append] at this);have Bb:=hid (Ba.out.grown h3.out Ba.out.size (λk e=>(Ea.out.lt k e).1));have sb:(w7).cell? ⟨gg,2,none⟩=some (.slice x.wp x.wts.length x.wc)∧Blk w7 W.heap.size 54 (rv r):=⟨(Bb.out.cell (p:=⟨gg,2,none⟩) HGU.out).trans s0.1,s0.2.below Bb.out HRU.out⟩;refine hK.out _ _ (.inr sb) ?_;clear hK K h2 h3 h5 h6;refine wpAnyE_one (i:=18) (by kernel_rfl) rfl (by kernel_rfl) (λK hK=>?_);refine wp_build1 40 109 (.tmp 30) rfl (wv y3) (by go_simp;exact HIV.out) (build_wv y3 _) ?_;have Rc_:=hid (row_one wv 4 y3 w7 109);have Bc_:=hid (Bb.out.alloc Bb.out.size (.cells (wv y3).toArray 109));have sc_:((w7).alloc (.cells (wv y3).toArray 109)).cell? ⟨gg,2,none⟩=some (.slice x.wp x.wts.length x.wc)∧Blk ((w7).alloc (.cells (wv y3).toArray 109)) W.heap.size 54 (rv r):=⟨(((Below.refl (w7).heap.size w7).alloc (Nat.le_refl _) (.cells (wv y3).toArray 109)).cell (p:=⟨gg,2,none⟩) (Nat.lt_of_lt_of_le HGU.out Bb.out.size)).trans sb.1,sb.2.alloc _⟩;refine hK.out _ _ (.inr sc_) ?_;clear hK K;have Oc:=hid (own_below Ob.out ((Below.refl w7.heap.size w7).alloc (Nat.le_refl _) (.cells (wv y3).toArray 109)));refine wpAnyE_one (i:=19) (by kernel_rfl) rfl (by kernel_rfl) (λK hK=>?_);refine wp_append_rows (.tmp 20) (.tmp 31) 40 ?_ 109 Tryz.underlying40 infoW rfl (by decide) (by decide) wv_len wv_one U.heap.size v1 x.wts.length (x.wts.flatMap wv) ?_ Oc.out (some ⟨w7.heap.size,0,none⟩) 1 1 ?_ [y3] rfl Rc_.out LX1.out Bc_.out.size ?_
      ·rfl
      ·go_simp
      ·go_simp
      intro v2 w9 h2 h3 h5 h6;obtain⟨q9,c9,hv,_⟩:=own_form h2.out;subst hv;have B9:=hid (Bc_.out.grown h3.out Bc_.out.size (λk e=>(Oc.out.lt k e).1));obtain⟨M9,K9⟩:=GU.out.waiters (l:=x.wts++[y3]) (lq:=q9) (lc:=c9) B9.out (by rw[List.length_append,List.flatMap_append];exact h2.out) (λz hz=>by
       rcases List.mem_append.1 hz with hz |hz
       ·exact(GU.out.below B9.out).sp.wt z hz
       ·rw[List.mem_singleton.1 hz];exact TYU.out.below B9.out) (λz hz=>by
       rcases List.mem_append.1 hz with hz |hz
       ·exact GU.out.off.wt z hz
       ·rw[List.mem_singleton.1 hz];exact OYU.out) (λz hz=>by
       rcases List.mem_append.1 hz with hz |hz
       ·exact GU.out.oe.wt z hz
       ·rw[List.mem_singleton.1 hz];exact OYE.out) (by rw[List.length_append];exact LI.out)
      rw[List.length_append,List.length_singleton] at M9 K9;have M9H:=hid M9;have K9H:=hid K9;have ct9:w9.cell? ⟨gg,2,none⟩=some (.slice x.wp x.wts.length x.wc):=(B9.out.cell (p:=⟨gg,2,none⟩) HGU.out).trans s0.1;have fg9:=(GU.out.below B9.out).box.frozen 2;have s9:w9.cell? ⟨gg,2,none⟩=some (.slice x.wp x.wts.length x.wc)∧Blk w9 W.heap.size 54 (rv r):=⟨ct9,s0.2.below B9.out HRU.out⟩;refine hK.out _ _ (.inr s9) ?_;clear hK K M9 K9 h2 h3 h5 h6;refine wpAnyE_one (i:=20) (by kernel_rfl) rfl (by kernel_rfl) (λK hK=>?_);go_simp;refine hK.out _ _ (.inr s9) ?_;clear hK K;refine wpAnyE_one (i:=21) (by kernel_rfl) rfl (by kernel_rfl) (λK hK=>?_);go_simp;refine hK.out _ _ (.inr s9) ?_;clear hK K;refine wpAnyE_one (i:=22) (by kernel_rfl) rfl (by kernel_rfl) (λK hK=>?_);go_simp;refine hK.out _ _ (.inr s9) ?_;clear hK K;refine wpAnyE_one (i:=23) (by kernel_rfl) rfl (by kernel_rfl) (λK hK=>?_);go_simp;refine hK.out _ _ (.inl rfl) ?_;clear hK K;refine wpAnyE_done (by kernel_rfl) ?_ _;go_simp;have K10:=hid (K2.out.trans (KD.out.trans K9H.out));obtain⟨w10,hw10⟩:∃ V,w9.setCell ⟨gg,2,none⟩ (.slice q9 (x.wts.length+1) c9)=V:=⟨_,rfl⟩;have BR9:=hid (show Blk w10 W.heap.size 54 (rv r) from by rw[←hw10];exact s9.2.kept ((Kept.refl (λb=>b=gg) w9).setCell (p:=⟨gg,2,none⟩) (.inl rfl) _) HNG.out);rw[hw10] at M9H K9H K10 ⊢;clear hw10 s9 ct9 fg9;have TE:=hid (tellE_t w0 gg k { x with wts:=x.wts++[y3],wp:=q9,wc:=c9 } q c r 4 w10 M9H.out HC.out h4)
      go_wp2_with ((with_reducible refine load_blk 54 (.tmp 3) W.heap.size 54 (rv r) _ rfl rfl ?_ Tryz.underlying54 ?_ ?_ ?_ ?_);exact BR9.out;exact rfl;exact FR.out;exact rfl)
      refine TE.out.mono ?_
      rintro e w11 ⟨rfl,z,q7,c7,hz,g7,s7,k7,o7⟩
      go_wp2_with fail
      go_end0
      exact⟨rfl,_,q7,c7,[z],g7,by rw[HHO.out,HP.out,fin_no];exact s7.trans (by rw[HFI.out]),by rw[HHO.out,HP.out,fin_no];exact congrArg (λz=>[z]) hz,K10.out.trans k7⟩
     ·skip
      refine wp_build1 40 109 (.tmp 30) rfl (wv y3) (by go_simp;exact HIV.out) (build_wv y3 _) ?_;have Rb:=hid (row_one wv 4 y3 Ua 109);have Bb:=hid (Ba.out.alloc Ba.out.size (.cells (wv y3).toArray 109));have sb:((Ua).alloc (.cells (wv y3).toArray 109)).cell? ⟨gg,2,none⟩=some (.slice x.wp x.wts.length x.wc)∧Blk ((Ua).alloc (.cells (wv y3).toArray 109)) W.heap.size 54 (rv r):=⟨(((Below.refl (Ua).heap.size Ua).alloc (Nat.le_refl _) (.cells (wv y3).toArray 109)).cell (p:=⟨gg,2,none⟩) (Nat.lt_of_lt_of_le HGU.out Ba.out.size)).trans sa.1,sa.2.alloc _⟩;refine hK.out _ _ (.inr sb) ?_;clear hK K;have Eb:=hid (own_below Ea.out ((Below.refl Ua.heap.size Ua).alloc (Nat.le_refl _) (.cells (wv y3).toArray 109)));have HNE:=hid (show Ua.heap.size≠U.heap.size from by have:=(Ea.out.lt U.heap.size rfl).2;omega);refine wpAnyE_one (i:=7) (by kernel_rfl) rfl (by kernel_rfl) (λK hK=>?_);refine wp_append_rows (.tmp 14) (.tmp 19) 40 ?_ 109 Tryz.underlying40 infoW rfl (by decide) (by decide) wv_len wv_one U.heap.size (.slice (some ⟨U.heap.size,0,none⟩) 0 0) 0 [] ?_ Eb.out x.wp x.wts.length x.wc ?_ x.wts rfl (RX.out.below Bb.out) LX.out Bb.out.size ?_
      ·rfl
      ·go_simp
      ·go_simp
      intro v1 w7 h2 h3 h5 h6;have Oc_:=hid (show(w7).ownsRow U.heap.size 109 4 v1 x.wts.length (x.wts.flatMap wv) from by have:=h2.out;rwa [Nat.zero_add,List.nil_append] at this);have Bc_:=hid (Bb.out.grown h3.out Bb.out.size (λk e=>(Eb.out.lt k e).1));have sc_:(w7).cell? ⟨gg,2,none⟩=some (.slice x.wp x.wts.length x.wc)∧Blk w7 W.heap.size 54 (rv r):=⟨(Bc_.out.cell (p:=⟨gg,2,none⟩) HGU.out).trans s0.1,s0.2.below Bc_.out HRU.out⟩;have Rc:=hid (rowl_grown Rb.out h3.out HNE.out);refine hK.out _ _ (.inr sc_) ?_;clear hK K h2 h3 h5 h6;refine wpAnyE_one (i:=19) (by kernel_rfl) rfl (by kernel_rfl) (λK hK=>?_);refine wp_append_rows (.tmp 20) (.tmp 31) 40 ?_ 109 Tryz.underlying40 infoW rfl (by decide) (by decide) wv_len wv_one U.heap.size v1 x.wts.length (x.wts.flatMap wv) ?_ Oc_.out (some ⟨Ua.heap.size,0,none⟩) 1 1 ?_ [y3] rfl Rc.out LX1.out Bc_.out.size ?_
      ·rfl
      ·go_simp
      ·go_simp
      intro v2 w9 h2 h3 h5 h6;obtain⟨q9,c9,hv,_⟩:=own_form h2.out;subst hv;have B9:=hid (Bc_.out.grown h3.out Bc_.out.size (λk e=>(Oc_.out.lt k e).1));obtain⟨M9,K9⟩:=GU.out.waiters (l:=x.wts++[y3]) (lq:=q9) (lc:=c9) B9.out (by rw[List.length_append,List.flatMap_append];exact h2.out) (λz hz=>by
       rcases List.mem_append.1 hz with hz |hz
       ·exact(GU.out.below B9.out).sp.wt z hz
       ·rw[List.mem_singleton.1 hz];exact TYU.out.below B9.out) (λz hz=>by
       rcases List.mem_append.1 hz with hz |hz
       ·exact GU.out.off.wt z hz
       ·rw[List.mem_singleton.1 hz];exact OYU.out) (λz hz=>by
       rcases List.mem_append.1 hz with hz |hz
       ·exact GU.out.oe.wt z hz
       ·rw[List.mem_singleton.1 hz];exact OYE.out) (by rw[List.length_append];exact LI.out)
      rw[List.length_append,List.length_singleton] at M9 K9;have M9H:=hid M9;have K9H:=hid K9;have ct9:w9.cell? ⟨gg,2,none⟩=some (.slice x.wp x.wts.length x.wc):=(B9.out.cell (p:=⟨gg,2,none⟩) HGU.out).trans s0.1;have fg9:=(GU.out.below B9.out).box.frozen 2;have s9:w9.cell? ⟨gg,2,none⟩=some (.slice x.wp x.wts.length x.wc)∧Blk w9 W.heap.size 54 (rv r):=⟨ct9,s0.2.below B9.out HRU.out⟩;refine hK.out _ _ (.inr s9) ?_;clear hK K M9 K9 h2 h3 h5 h6;refine wpAnyE_one (i:=20) (by kernel_rfl) rfl (by kernel_rfl) (λK hK=>?_);go_simp;refine hK.out _ _ (.inr s9) ?_;clear hK K;refine wpAnyE_one (i:=21) (by kernel_rfl) rfl (by kernel_rfl) (λK hK=>?_);go_simp;refine hK.out _ _ (.inr s9) ?_;clear hK K;refine wpAnyE_one (i:=22) (by kernel_rfl) rfl (by kernel_rfl) (λK hK=>?_);go_simp;refine hK.out _ _ (.inr s9) ?_;clear hK K;refine wpAnyE_one (i:=23) (by kernel_rfl) rfl (by kernel_rfl) (λK hK=>?_);go_simp;refine hK.out _ _ (.inl rfl) ?_;clear hK K;refine wpAnyE_done (by kernel_rfl) ?_ _;go_simp;have K10:=hid (K2.out.trans (KD.out.trans K9H.out));obtain⟨w10,hw10⟩:∃ V,w9.setCell ⟨gg,2,none⟩ (.slice q9 (x.wts.length+1) c9)=V:=⟨_,rfl⟩;have BR9:=hid (show Blk w10 W.heap.size 54 (rv r) from by rw[←hw10];exact s9.2.kept ((Kept.refl (λb=>b=gg) w9).setCell (p:=⟨gg,2,none⟩) (.inl rfl) _) HNG.out);rw[hw10] at M9H K9H K10 ⊢;clear hw10 s9 ct9 fg9;have TE:=hid (tellE_t w0 gg k { x with wts:=x.wts++[y3],wp:=q9,wc:=c9 } q c r 4 w10 M9H.out HC.out h4)
      go_wp2_with ((with_reducible refine load_blk 54 (.tmp 3) W.heap.size 54 (rv r) _ rfl rfl ?_ Tryz.underlying54 ?_ ?_ ?_ ?_);exact BR9.out;exact rfl;exact FR.out;exact rfl)
      refine TE.out.mono ?_
      rintro e w11 ⟨rfl,z,q7,c7,hz,g7,s7,k7,o7⟩
      go_wp2_with fail
      go_end0
      exact⟨rfl,_,q7,c7,[z],g7,by rw[HHO.out,HP.out,fin_no];exact s7.trans (by rw[HFI.out]),by rw[HHO.out,HP.out,fin_no];exact congrArg (λz=>[z]) hz,K10.out.trans k7⟩
    ·skip
     refine wp_build1 40 109 (.tmp 30) rfl (wv y3) (by go_simp;exact HIV.out) (build_wv y3 _) ?_;have Ra:=hid (row_one wv 4 y3 U 109);have Ba:=hid (BB0.out.alloc BB0.out.size (.cells (wv y3).toArray 109));have sa:((U).alloc (.cells (wv y3).toArray 109)).cell? ⟨gg,2,none⟩=some (.slice x.wp x.wts.length x.wc)∧Blk ((U).alloc (.cells (wv y3).toArray 109)) W.heap.size 54 (rv r):=⟨(((Below.refl (U).heap.size U).alloc (Nat.le_refl _) (.cells (wv y3).toArray 109)).cell (p:=⟨gg,2,none⟩) (Nat.lt_of_lt_of_le HGU.out BB0.out.size)).trans s0.1,s0.2.alloc _⟩;refine hK.out _ _ (.inr sa) ?_;clear hK K;obtain⟨Ua,hUa⟩:∃ V,U.alloc (.cells (wv y3).toArray 109)=V:=⟨_,rfl⟩;have HUA:=hid (show Ua.heap.size=U.heap.size+1 from by rw[←hUa];simp);rw[hUa] at Ra Ba sa ⊢;clear hUa;refine wpAnyE_one (i:=1) (by kernel_rfl) rfl (by kernel_rfl) (λK hK=>?_);go_simp;have Eb:=hid (own_empty0 Ua 109 4 U.heap.size Ba.out.size);have Bb:=hid (Ba.out.alloc Ba.out.size (.cells #[] 109));have sb:((Ua).alloc (.cells #[] 109)).cell? ⟨gg,2,none⟩=some (.slice x.wp x.wts.length x.wc)∧Blk ((Ua).alloc (.cells #[] 109)) W.heap.size 54 (rv r):=⟨(((Below.refl (Ua).heap.size Ua).alloc (Nat.le_refl _) (.cells #[] 109)).cell (p:=⟨gg,2,none⟩) (Nat.lt_of_lt_of_le HGU.out Ba.out.size)).trans sa.1,sa.2.alloc _⟩;refine hK.out _ _ (.inr sb) ?_;clear hK K;have Rb:=hid (Ra.out.below ((Below.refl Ua.heap.size Ua).alloc (Nat.le_refl _) (.cells #[] 109)));have HNE:=hid (show U.heap.size≠Ua.heap.size from by have:=HUA.out;omega);refine wpAnyE_one (i:=7) (by kernel_rfl) rfl (by kernel_rfl) (λK hK=>?_);refine wp_append_rows (.tmp 14) (.tmp 19) 40 ?_ 109 Tryz.underlying40 infoW rfl (by decide) (by decide) wv_len wv_one U.heap.size (.slice (some ⟨Ua.heap.size,0,none⟩) 0 0) 0 [] ?_ Eb.out x.wp x.wts.length x.wc ?_ x.wts rfl (RX.out.below Bb.out) LX.out Bb.out.size ?_
     ·rfl
     ·go_simp
     ·go_simp
     intro v1 w7 h2 h3 h5 h6;have Oc_:=hid (show(w7).ownsRow U.heap.size 109 4 v1 x.wts.length (x.wts.flatMap wv) from by have:=h2.out;rwa [Nat.zero_add,List.nil_append] at this);have Bc_:=hid (Bb.out.grown h3.out Bb.out.size (λk e=>(Eb.out.lt k e).1));have sc_:(w7).cell? ⟨gg,2,none⟩=some (.slice x.wp x.wts.length x.wc)∧Blk w7 W.heap.size 54 (rv r):=⟨(Bc_.out.cell (p:=⟨gg,2,none⟩) HGU.out).trans s0.1,s0.2.below Bc_.out HRU.out⟩;have Rc:=hid (rowl_grown Rb.out h3.out HNE.out);refine hK.out _ _ (.inr sc_) ?_;clear hK K h2 h3 h5 h6;refine wpAnyE_one (i:=19) (by kernel_rfl) rfl (by kernel_rfl) (λK hK=>?_);refine wp_append_rows (.tmp 20) (.tmp 31) 40 ?_ 109 Tryz.underlying40 infoW rfl (by decide) (by decide) wv_len wv_one U.heap.size v1 x.wts.length (x.wts.flatMap wv) ?_ Oc_.out (some ⟨U.heap.size,0,none⟩) 1 1 ?_ [y3] rfl Rc.out LX1.out Bc_.out.size ?_
     ·rfl
     ·go_simp
     ·go_simp
     intro v2 w9 h2 h3 h5 h6;obtain⟨q9,c9,hv,_⟩:=own_form h2.out;subst hv;have B9:=hid (Bc_.out.grown h3.out Bc_.out.size (λk e=>(Oc_.out.lt k e).1));obtain⟨M9,K9⟩:=GU.out.waiters (l:=x.wts++[y3]) (lq:=q9) (lc:=c9) B9.out (by rw[List.length_append,List.flatMap_append];exact h2.out) (λz hz=>by
      rcases List.mem_append.1 hz with hz |hz
      ·exact(GU.out.below B9.out).sp.wt z hz
      ·rw[List.mem_singleton.1 hz];exact TYU.out.below B9.out) (λz hz=>by
      rcases List.mem_append.1 hz with hz |hz
      ·exact GU.out.off.wt z hz
      ·rw[List.mem_singleton.1 hz];exact OYU.out) (λz hz=>by
      rcases List.mem_append.1 hz with hz |hz
      ·exact GU.out.oe.wt z hz
      ·rw[List.mem_singleton.1 hz];exact OYE.out) (by rw[List.length_append];exact LI.out)
     rw[List.length_append,List.length_singleton] at M9 K9;have M9H:=hid M9;have K9H:=hid K9;have ct9:w9.cell? ⟨gg,2,none⟩=some (.slice x.wp x.wts.length x.wc):=(B9.out.cell (p:=⟨gg,2,none⟩) HGU.out).trans s0.1;have fg9:=(GU.out.below B9.out).box.frozen 2;have s9:w9.cell? ⟨gg,2,none⟩=some (.slice x.wp x.wts.length x.wc)∧Blk w9 W.heap.size 54 (rv r):=⟨ct9,s0.2.below B9.out HRU.out⟩;refine hK.out _ _ (.inr s9) ?_;clear hK K M9 K9 h2 h3 h5 h6;refine wpAnyE_one (i:=20) (by kernel_rfl) rfl (by kernel_rfl) (λK hK=>?_);go_simp;refine hK.out _ _ (.inr s9) ?_;clear hK K;refine wpAnyE_one (i:=21) (by kernel_rfl) rfl (by kernel_rfl) (λK hK=>?_);go_simp;refine hK.out _ _ (.inr s9) ?_;clear hK K;refine wpAnyE_one (i:=22) (by kernel_rfl) rfl (by kernel_rfl) (λK hK=>?_);go_simp;refine hK.out _ _ (.inr s9) ?_;clear hK K;refine wpAnyE_one (i:=23) (by kernel_rfl) rfl (by kernel_rfl) (λK hK=>?_);go_simp;refine hK.out _ _ (.inl rfl) ?_;clear hK K;refine wpAnyE_done (by kernel_rfl) ?_ _;go_simp;have K10:=hid (K2.out.trans (KD.out.trans K9H.out));obtain⟨w10,hw10⟩:∃ V,w9.setCell ⟨gg,2,none⟩ (.slice q9 (x.wts.length+1) c9)=V:=⟨_,rfl⟩;have BR9:=hid (show Blk w10 W.heap.size 54 (rv r) from by rw[←hw10];exact s9.2.kept ((Kept.refl (λb=>b=gg) w9).setCell (p:=⟨gg,2,none⟩) (.inl rfl) _) HNG.out);rw[hw10] at M9H K9H K10 ⊢;clear hw10 s9 ct9 fg9;have TE:=hid (tellE_t w0 gg k { x with wts:=x.wts++[y3],wp:=q9,wc:=c9 } q c r 4 w10 M9H.out HC.out h4)
     go_wp2_with ((with_reducible refine load_blk 54 (.tmp 3) W.heap.size 54 (rv r) _ rfl rfl ?_ Tryz.underlying54 ?_ ?_ ?_ ?_);exact BR9.out;exact rfl;exact FR.out;exact rfl)
     refine TE.out.mono ?_
     rintro e w11 ⟨rfl,z,q7,c7,hz,g7,s7,k7,o7⟩
     go_wp2_with fail
     go_end0
     exact⟨rfl,_,q7,c7,[z],g7,by rw[HHO.out,HP.out,fin_no];exact s7.trans (by rw[HFI.out]),by rw[HHO.out,HP.out,fin_no];exact congrArg (λz=>[z]) hz,K10.out.trans k7⟩
 |some j=>
  obtain rfl:fi=(j:Int):=hfi.symm.trans (fndI_some ho);have HHO:=hid ho;have hj:j<x.its.length:=by have h1:=fnd_ltG ho;have h2:x.sp.its.length=x.its.length:=List.length_map _;omega
  obtain⟨y,hy⟩:∃ y,x.its[j]? =some y:=⟨_,List.getElem?_eq_getElem hj⟩;have hys:(x.sp.its.getD j i0).t=y.i.t:=by
   rw[List.getD_eq_getElem?_getD]
   show(((x.its.map (·.i))[j]?).getD i0).t=_
   rw[List.getElem?_map,hy];rfl
  have hP:lookP x.sp (qp r.r) (some j)=if r.r.kd=3∨r.r.kd=5 then({ x.sp with its:=x.sp.its.eraseIdx j },giveP (qp r.r) y.i.t) else(x.sp,giveP (qp r.r) y.i.t):=by
   unfold lookP
   dsimp only
   rw[hys];rfl
  have ci:=G2.out.cells.2.1;obtain⟨b,o,hpe,_,rg⟩:=G2.out.sp.its j y hy;rw[hpe] at ci;have c2:w2.cell? ⟨b,o+j * 3+2,none⟩=some (.slice y.p y.i.t.length y.c):=rg 2 _ rfl;have j0:(0:Int)≤(j:Int):=by omega
  have j1:(j:Int)< (x.its.length:Int):=by omega
  have TY:=hid (G2.out.sp.it y (List.mem_of_getElem? hy));have OY:=hid (G2.out.off.it y (List.mem_of_getElem? hy));have OYE:=hid (G2.out.oe.it y (List.mem_of_getElem? hy));have HY:=hid hy;have HPE:=hid hpe;have HJ:=hid hj;clear rg hys hy hpe hj hfi ho
  by_cases k3:r.r.kd=3∨r.r.kd=5
  ·have HP:=hid (hP.trans (if_pos k3));have HL:=hid (show(x.its.eraseIdx j).length=x.its.length-1 from List.length_eraseIdx_of_lt HJ.out);have WO:=hid (refwithout_t x.its (some ⟨b,o,none⟩) x.its.length x.ic j w2 rfl HCAP.out (by have:=HS.out.il;omega) HJ.out (by rw[←HPE.out];exact G2.out.sp.its));have fz:=G2.out.box.frozen 1;rcases k3 with k3 |k3
   ·rw[k3] at d2;clear hP;go_wp2_with fail
    refine WO.out.mono ?_
    rintro e w3 ⟨q9,d,rfl,hd,ho9,b9⟩
    have ci3:=(b9.cell (p:=⟨gg,1,none⟩) G2.out.box.lt).trans ci;have fz3:=(G2.out.below b9).box.frozen 1;have HB9:=hid b9;rw[←HL.out] at ho9 ⊢;obtain⟨M9,K9⟩:=G2.out.items (l:=x.its.eraseIdx j) (lq:=q9) (lc:=d) b9 ho9 (λy hy=>(G2.out.sp.it y (List.mem_of_mem_eraseIdx hy)).below b9) (λy hy=>G2.out.off.it y (List.mem_of_mem_eraseIdx hy)) (λy hy=>G2.out.oe.it y (List.mem_of_mem_eraseIdx hy)) (by rw[HL.out];have:=HS.out.il;omega);have M9H:=hid M9;have K9H:=hid K9;have BR9:=hid (BR2.out.kept K9 (G2.out.blkOff BR2.out (by decide) HNG.out));have TY9:=hid (TY.out.keptF K9 OY.out);have TE:=hid (tellT_t w0 gg k { x with its:=x.its.eraseIdx j,ip:=q9,ic:=d } q c r y.p y.i.t y.c _ M9H.out HC.out h4 TY9.out OY.out OYE.out);have HSE:=hid (show Spv.sp { x with its:=x.its.eraseIdx j,ip:=q9,ic:=d } = { x.sp with its:=x.sp.its.eraseIdx j } from by
     unfold Spv.sp
     dsimp only
     rw[map_erase])
    clear M9 K9 ho9 b9 hd c2 ci fz d2 WO
    go_wp2_with ((with_reducible refine load_blk 54 (.tmp 3) W.heap.size 54 (rv r) _ rfl rfl ?_ Tryz.underlying54 ?_ ?_ ?_ ?_);exact BR9.out;exact rfl;exact FR.out;exact rfl)
    refine TE.out.mono ?_
    rintro e w7 ⟨rfl,z,q7,c7,hz,g7,s7,k7,o7⟩
    go_wp2_with fail
    go_end0
    exact⟨rfl,_,q7,c7,[z],g7,by rw[HHO.out,HP.out,fin_no];exact s7.trans (by rw[HSE.out]),by rw[HHO.out,HP.out,fin_no];exact congrArg (λz=>[z]) hz,K2.out.trans (K9H.out.trans k7)⟩
   ·rw[k3] at d2;clear hP;go_wp2_with fail
    refine WO.out.mono ?_
    rintro e w3 ⟨q9,d,rfl,hd,ho9,b9⟩
    have ci3:=(b9.cell (p:=⟨gg,1,none⟩) G2.out.box.lt).trans ci;have fz3:=(G2.out.below b9).box.frozen 1;have HB9:=hid b9;rw[←HL.out] at ho9 ⊢;obtain⟨M9,K9⟩:=G2.out.items (l:=x.its.eraseIdx j) (lq:=q9) (lc:=d) b9 ho9 (λy hy=>(G2.out.sp.it y (List.mem_of_mem_eraseIdx hy)).below b9) (λy hy=>G2.out.off.it y (List.mem_of_mem_eraseIdx hy)) (λy hy=>G2.out.oe.it y (List.mem_of_mem_eraseIdx hy)) (by rw[HL.out];have:=HS.out.il;omega);have M9H:=hid M9;have K9H:=hid K9;have BR9:=hid (BR2.out.kept K9 (G2.out.blkOff BR2.out (by decide) HNG.out));have TY9:=hid (TY.out.keptF K9 OY.out);have TE:=hid (tellT_t w0 gg k { x with its:=x.its.eraseIdx j,ip:=q9,ic:=d } q c r y.p y.i.t y.c _ M9H.out HC.out h4 TY9.out OY.out OYE.out);have HSE:=hid (show Spv.sp { x with its:=x.its.eraseIdx j,ip:=q9,ic:=d } = { x.sp with its:=x.sp.its.eraseIdx j } from by
     unfold Spv.sp
     dsimp only
     rw[map_erase])
    clear M9 K9 ho9 b9 hd c2 ci fz d2 WO
    go_wp2_with ((with_reducible refine load_blk 54 (.tmp 3) W.heap.size 54 (rv r) _ rfl rfl ?_ Tryz.underlying54 ?_ ?_ ?_ ?_);exact BR9.out;exact rfl;exact FR.out;exact rfl)
    refine TE.out.mono ?_
    rintro e w7 ⟨rfl,z,q7,c7,hz,g7,s7,k7,o7⟩
    go_wp2_with fail
    go_end0
    exact⟨rfl,_,q7,c7,[z],g7,by rw[HHO.out,HP.out,fin_no];exact s7.trans (by rw[HSE.out]),by rw[HHO.out,HP.out,fin_no];exact congrArg (λz=>[z]) hz,K2.out.trans (K9H.out.trans k7)⟩
  ·have HP:=hid (hP.trans (if_neg k3));have e3:(r.r.kd == 3)=false:=by rw[beq_eq_false_iff_ne];exact λe=>k3 (.inl e)
   have e5:(r.r.kd == 5)=false:=by rw[beq_eq_false_iff_ne];exact λe=>k3 (.inr e)
   have TE:=hid (tellT_t w0 gg k x q c r y.p y.i.t y.c w2 G2.out HC.out h4 TY.out OY.out OYE.out);clear hP
   go_wp2_with ((with_reducible refine load_blk 54 (.tmp 3) W.heap.size 54 (rv r) _ rfl rfl ?_ Tryz.underlying54 ?_ ?_ ?_ ?_);exact BR2.out;exact rfl;exact FR.out;exact rfl)
   refine TE.out.mono ?_
   rintro e w7 ⟨rfl,z,q7,c7,hz,g7,s7,k7,o7⟩
   go_wp2_with fail
   go_end0
   exact⟨rfl,_,q7,c7,[z],g7,by rw[HHO.out,HP.out,fin_no];exact s7,by rw[HHO.out,HP.out,fin_no];exact congrArg (λz=>[z]) hz,K2.out.trans k7⟩
end Go.Proofs.YtlipjglehongeaaGreatDoor
