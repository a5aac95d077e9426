/-
  THE REFERENCE
-/
import Derived.Test.YtlipjglehongeaaGreatDoorGb35
import Derived.Test.YtlipjglehongeaaGreatDoorTk
open Go.Lib (hid)
set_option maxRecDepth 100000
namespace Go.Proofs.YtlipjglehongeaaGreatDoor
open Go Go.RowKit Sh
theorem belk1 {b:Nat} {w W W':World} (h:Below w.heap.size w W) (hb:w.heap.size≤b) (hk:Kept (λk=>k=b) W W'):Below w.heap.size w W':=
 ⟨hk.os.trans h.os,hk.tape.trans h.tape,hk.output.trans h.output,Nat.le_trans h.size hk.size,λk hlt=>(hk.block k (Nat.lt_of_lt_of_le hlt h.size) (by omega)).trans (h.block k hlt)⟩
theorem part_rng {W:World} {g o:Nat} {T:TypeId} {A B C:List Value} (h:Blk W g T (A++(B++C))) (hl:A.length=o):W.rangeAt g o B:=λi v hv=>by
 show W.cell? ⟨g,o+i,none⟩=some v
 rw[h.cell,List.getElem?_append_right (by omega),show o+i-A.length=i by omega,List.getElem?_append_left (List.getElem?_eq_some_iff.1 hv).1];exact hv
theorem lsS_ne {α:Type} {E:α→α→Bool} :∀ {l m:List α},l.length≠m.length→lsS E l m=false
 |[],[],h=>absurd rfl h
 |[],_::_,_=>rfl
 |_::_,[],_=>rfl
 |a::l,b::m,h=>by rw[lsS,lsS_ne (l:=l) (m:=m) (by simpa using h),Bool.and_false]
set_option maxHeartbeats 4000000 in
theorem refSameSpace_t (x y:Spv) (w:World) (hx:SpW w x) (hy:SpW w y):
  Calls Tryz.prog 24 #[.agg (sv x).toArray,.agg (sv y).toArray] w λe w'=>e= .returned (.bool (spS x.sp y.sp))∧Below w.heap.size w w':=by
 have S0:=hid (SS.new hx hy);have NN:=hid (And.intro hx.n hx.m);have hf:spS x.sp y.sp=((x.now == y.now) && ((x.rd == y.rd) && ((x.wr == y.wr) && (lsS itS x.sp.its y.sp.its && (lsS wtS x.sp.wts y.sp.wts && lsS rpS x.sp.last y.sp.last))))):=rfl;have HS:=hid hf;have li:x.sp.its.length=x.its.length:=List.length_map _;have mi:y.sp.its.length=y.its.length:=List.length_map _;have lw:x.sp.wts.length=x.wts.length:=List.length_map _;have mw:y.sp.wts.length=y.wts.length:=List.length_map _;have LI:=hid li;have MI:=hid mi;have LW:=hid lw;have MW:=hid mw;obtain⟨sb,hsb⟩:∃ b,spS x.sp y.sp=b:=⟨_,rfl⟩;rw[hsb] at HS ⊢;clear hx hy hf hsb li mi lw mw;obtain⟨V,hV⟩:∃ V,(w.alloc (.cells (sv x).toArray 46)).alloc (.cells (sv y).toArray 46)=V:=⟨_,rfl⟩;rw[hV] at S0
 go_enter Tryz.func24,Tryz.ntmps24
 go_upto_region 1 with(fail)
 clear hV;obtain⟨c0,c1,c2,c3,c4⟩:=sv_cells S0.out.a;obtain⟨d0,d1,d2,d3,d4⟩:=sv_cells S0.out.b
 cases e0:(x.now == y.now) with
 |false=>
  have HF:=hid (show sb=false from by rw[HS.out,e0,Bool.false_and]);have e0':(x.now != y.now)=true:=by rw[bne,e0];rfl
  go_wp2_with fail
  go_ret;exact⟨by rw[HF.out];try rfl,S0.out.bel⟩
 |true=>
 have e0':(x.now != y.now)=false:=by rw[bne,e0];rfl
 cases e1:(x.rd == y.rd) with
 |false=>
  have HF:=hid (show sb=false from by rw[HS.out,e0,e1,Bool.false_and,Bool.and_false]);have e1':(x.rd != y.rd)=true:=by rw[bne,e1];rfl
  go_wp2_with fail
  go_ret;exact⟨by rw[HF.out];try rfl,S0.out.bel⟩
 |true=>
 have e1':(x.rd != y.rd)=false:=by rw[bne,e1];rfl
 cases e2:(x.wr == y.wr) with
 |false=>
  have HF:=hid (show sb=false from by rw[HS.out,e0,e1,e2,Bool.false_and,Bool.and_false,Bool.and_false]);have e2':(x.wr != y.wr)=true:=by rw[bne,e2];rfl
  go_wp2_with fail
  go_ret;exact⟨by rw[HF.out];try rfl,S0.out.bel⟩
 |true=>
 have e2':(x.wr != y.wr)=false:=by rw[bne,e2];rfl
 have HS2:=hid (show sb=(lsS itS x.sp.its y.sp.its && (lsS wtS x.sp.wts y.sp.wts && lsS rpS x.sp.last y.sp.last)) from by rw[HS.out,e0,e1,e2,Bool.true_and,Bool.true_and,Bool.true_and])
 by_cases n1:x.its.length=y.its.length
 case neg=>
  have HF:=hid (show sb=false from by rw[HS2.out,lsS_ne (by rw[LI.out,MI.out];exact n1),Bool.false_and]);have e3:((x.its.length:Int) != (y.its.length:Int))=true:=by rw[bne_iff_ne];omega
  go_wp2_with fail
  go_ret;exact⟨by rw[HF.out];try rfl,S0.out.bel⟩
 case pos=>
 by_cases n2:x.wts.length=y.wts.length
 case neg=>
  have HF:=hid (show sb=false from by rw[HS2.out,lsS_ne (l:=x.sp.wts) (by rw[LW.out,MW.out];exact n2),Bool.false_and,Bool.and_false]);have e3:((x.wts.length:Int) != (y.wts.length:Int))=true:=by rw[bne_iff_ne];omega
  rw[←n1] at d1;go_wp2_with fail
  go_ret;exact⟨by rw[HF.out];try rfl,S0.out.bel⟩
 case pos=>
 have N1:=hid n1;have N2:=hid n2;rw[←n1] at d1;rw[←n2] at d2
 go_upto_region 4 with(fail)
 clear c0 c1 c2 c3 c4 d0 d1 d2 d3 d4 e0 e1 e2 e0' e1' e2' n1 n2 HS;obtain⟨n,hn⟩:∃ n,x.its.length=n:=⟨_,rfl⟩;have HN:=hid hn;have HM:=hid (show y.its.length=n from by rw[←hn];exact N1.out.symm);have nB:(n:Int)≤9223372036854775807:=by have:=NN.out.1;omega
 clear hn
 go_loopw [5] (λt wr=>∃ j:Nat,j≤n∧t= .int .i64 (j:Int)∧SS w wr x y∧∀ (i:Nat) (a b:It),i<j→x.sp.its[i]? =some a→y.sp.its[i]? =some b→itS a b=true) (λt _=>n- (intOf t).toNat)
 case atStart=>exact⟨0,by omega,rfl,S0.out,λi a b hi=>absurd hi (by omega)⟩
 case round=>
  clear S0;obtain⟨j,hj,rfl,s0_,hb⟩:=hrel;have S1:=hid s0_;have HB:=hid hb;clear s0_ hb
  by_cases hlt:j<n
  ·obtain⟨a,ha⟩:∃ a,x.its[j]? =some a:=⟨_,List.getElem?_eq_getElem (by rw[HN.out];exact hlt)⟩;obtain⟨b,hb⟩:∃ b,y.its[j]? =some b:=⟨_,List.getElem?_eq_getElem (by rw[HM.out];exact hlt)⟩;obtain⟨b1,o1,hp1,l1,r1⟩:=S1.out.rx.its j a ha;obtain⟨b2,o2,hp2,l2,r2⟩:=S1.out.ry.its j b hb;have c1:=(sv_cells S1.out.a).2.1;rw[hp1,HN.out] at c1;have d1:=(sv_cells S1.out.b).2.1;rw[hp2,HM.out] at d1;have CA:=hid c1;have CB:=hid d1;have RA:=hid r1;have RB:=hid r2;have LA:=hid l1;have LB:=hid l2;have TA:=hid (S1.out.rx.it a (List.mem_of_getElem? ha));have TB:=hid (S1.out.ry.it b (List.mem_of_getElem? hb));have SA:=hid (show x.sp.its[j]? =some a.i from by show(x.its.map (·.i))[j]? =_;rw[List.getElem?_map,ha];rfl);have SB_:=hid (show y.sp.its[j]? =some b.i from by show(y.its.map (·.i))[j]? =_;rw[List.getElem?_map,hb];rfl);have FA:=hid (iv_size a);have FB:=hid (iv_size b);have j1:(j:Int)< (n:Int):=by omega
   have HLT:=hid hlt;clear ha hb hp1 hp2 l1 l2 r1 r2 hlt
   go_upto_region 6 with(fail)
   clear c1 d1
   go_cut [6,7] (λs6 s7 wx=>∃ g1 g2,s6= .pointer (some ⟨g1,0,none⟩)∧s7= .pointer (some ⟨g2,0,none⟩)∧Blk wx g1 106 (iv a)∧Blk wx g2 106 (iv b)∧Below wr.heap.size wr wx)
   case first=>
    obtain⟨U,hU⟩:∃ U,wr.drew=U:=⟨_,rfl⟩;have BU:=hid (show Below wr.heap.size wr U from by rw[←hU];exact(Below.refl _ _).drew);have SU:=hid (λ(Y:World) (hb:Below U.heap.size U Y)=>show Y.cell? ⟨w.heap.size,1,none⟩=some (.slice (some ⟨b1,o1,none⟩) n x.ic)∧Y.cell? ⟨w.heap.size+1,1,none⟩=some (.slice (some ⟨b2,o2,none⟩) n y.ic)∧Y.rangeAt b1 (o1+j * 3) (iv a)∧Y.rangeAt b2 (o2+j * 3) (iv b) from⟨(hb.cell (p:=⟨w.heap.size,1,none⟩) (Nat.lt_of_lt_of_le S1.out.a.lt BU.out.size)).trans ((BU.out.cell (p:=⟨w.heap.size,1,none⟩) S1.out.a.lt).trans CA.out),(hb.cell (p:=⟨w.heap.size+1,1,none⟩) (Nat.lt_of_lt_of_le S1.out.b.lt BU.out.size)).trans ((BU.out.cell (p:=⟨w.heap.size+1,1,none⟩) S1.out.b.lt).trans CB.out),rows_below (rows_below RA.out BU.out LA.out) hb (Nat.lt_of_lt_of_le LA.out BU.out.size),rows_below (rows_below RB.out BU.out LB.out) hb (Nat.lt_of_lt_of_le LB.out BU.out.size)⟩);have s0:=SU.out U (Below.refl _ _);refine wp_region_held (S:=λY=>Y.cell? ⟨w.heap.size,1,none⟩=some (.slice (some ⟨b1,o1,none⟩) n x.ic)∧Y.cell? ⟨w.heap.size+1,1,none⟩=some (.slice (some ⟨b2,o2,none⟩) n y.ic)∧Y.rangeAt b1 (o1+j * 3) (iv a)∧Y.rangeAt b2 (o2+j * 3) (iv b)) (by kernel_rfl) ?_;change wpAnyH _ _ _ _ _ _ _ _ wr.drew;rw[hU];clear hU;refine tka9 0 s0 ?_;refine tk9 1 ?_ ?_ s0 ?_;rotate_left 1
    ·(intro w hS;have hs:=hS.1;clear hS;go_simp;try (with_reducible rfl))
    refine tka9 2 s0 ?_;refine tka9 3 s0 ?_;refine tkg9 4 (v:= .agg (iv a).toArray) (yieldsIf_load_mid (by kernel_rfl) 106 (.tmp 59) rfl b1 (o1+j * 3) (by go_simp) (iv a) _ (λ_ h=>h.2.2.1) Tryz.underlying106 rfl (FA.out)) s0 ?_;refine tka9 5 s0 ?_;refine tk9 6 ?_ ?_ s0 ?_;rotate_left 1
    ·(intro w hS;have hs:=hS.2.1;clear hS;go_simp;try (with_reducible rfl))
    refine tka9 7 s0 ?_;refine tka9 8 s0 ?_;refine tkg9 9 (v:= .agg (iv b).toArray) (yieldsIf_load_mid (by kernel_rfl) 106 (.tmp 64) rfl b2 (o2+j * 3) (by go_simp) (iv b) _ (λ_ h=>h.2.2.2) Tryz.underlying106 rfl (FB.out)) s0 ?_;go_simp;refine wpAnyH_ready (rs:=[10,11]) (by kernel_rfl) (by simp) ?_;refine AllReadyH.cons rfl (λK hK=>?_) ?_
    ·skip
     have z1:=hid ((Blk.new U 106 [.int .i64 0,.int .i64 0,.slice none 0 0]).alloc (.cells #[.int .i64 0,.int .i64 0,.slice none 0 0] 106));have z2:=hid (Blk.new2 U (.cells #[.int .i64 0,.int .i64 0,.slice none 0 0] 106) 106 [.int .i64 0,.int .i64 0,.slice none 0 0]);have Ba:=hid ((Below.refl U.heap.size U).alloc (Nat.le_refl _) (.cells #[.int .i64 0,.int .i64 0,.slice none 0 0] 106));have Bb:=hid (Ba.out.alloc (by simp) (.cells #[.int .i64 0,.int .i64 0,.slice none 0 0] 106));go_simp;refine hK.out _ _ (SU.out _ Ba.out) (λ_=>?_);clear hK K;refine rdw9 11 λK hK=>?_
     go_simp;refine hK.out _ _ (SU.out _ Bb.out) (λ_=>?_);clear hK K;obtain⟨V,hV⟩:∃ V,(U.alloc (.cells #[.int .i64 0,.int .i64 0,.slice none 0 0] 106)).alloc (.cells #[.int .i64 0,.int .i64 0,.slice none 0 0] 106)=V:=⟨_,rfl⟩;rw[hV] at z1 z2 Bb ⊢;clear hV;refine rdw9 12 λK hK=>?_
     refine wstore_part 106 (.tmp 6) (.tmp 60) (U.heap.size) 0 106 [] [.int .i64 0,.int .i64 0,.slice none 0 0] [] (iv a) rfl (by rw[List.nil_append,List.append_nil];exact z1.out) rfl rfl FA.out (iv_oneA a) rfl rfl ?_;intro w3 a1 a2 a3;have A1:=hid (show Blk w3 (U.heap.size) 106 (iv a) by have:=a1.out;rwa [List.nil_append,List.append_nil] at this);have K1:=a2.out.keptOne rfl;have Bc:=hid (belk1 Bb.out (by omega) K1);have Zb:=hid (z2.out.kept K1 (by omega));refine hK.out _ _ (SU.out _ Bc.out) (λ_=>?_);clear hK K a1 a2 a3;refine rdw9 13 λK hK=>?_
     refine wstore_part 106 (.tmp 7) (.tmp 65) (U.heap.size+1) 0 106 [] [.int .i64 0,.int .i64 0,.slice none 0 0] [] (iv b) rfl (by rw[List.nil_append,List.append_nil];exact Zb.out) rfl rfl FB.out (iv_oneA b) rfl rfl ?_;intro w4 a1 a2 a3;have A2:=hid (show Blk w4 (U.heap.size+1) 106 (iv b) by have:=a1.out;rwa [List.nil_append,List.append_nil] at this);have K2:=a2.out.keptOne rfl;have Bd:=hid (belk1 Bc.out (by omega) K2);have A1x:=hid (A1.out.kept K2 (by omega));refine hK.out _ _ (SU.out _ Bd.out) (λ_=>?_);clear hK K a1 a2 a3;refine wpAnyH_done (by kernel_rfl) ?_ _;go_simp;go_wp2_with fail
     go_meet
     exact⟨U.heap.size,U.heap.size+1,rfl,rfl,A1x.out,A2.out,BU.out.trans (Bd.out.mono BU.out.size)⟩
    ·refine AllReadyH.cons rfl (λK hK=>?_) AllReadyH.nil;have z1:=hid ((Blk.new U 106 [.int .i64 0,.int .i64 0,.slice none 0 0]).alloc (.cells #[.int .i64 0,.int .i64 0,.slice none 0 0] 106));have z2:=hid (Blk.new2 U (.cells #[.int .i64 0,.int .i64 0,.slice none 0 0] 106) 106 [.int .i64 0,.int .i64 0,.slice none 0 0]);have Ba:=hid ((Below.refl U.heap.size U).alloc (Nat.le_refl _) (.cells #[.int .i64 0,.int .i64 0,.slice none 0 0] 106));have Bb:=hid (Ba.out.alloc (by simp) (.cells #[.int .i64 0,.int .i64 0,.slice none 0 0] 106));go_simp;refine hK.out _ _ (SU.out _ Ba.out) (λ_=>?_);clear hK K;refine rdw9 10 λK hK=>?_
     go_simp;refine hK.out _ _ (SU.out _ Bb.out) (λ_=>?_);clear hK K;obtain⟨V,hV⟩:∃ V,(U.alloc (.cells #[.int .i64 0,.int .i64 0,.slice none 0 0] 106)).alloc (.cells #[.int .i64 0,.int .i64 0,.slice none 0 0] 106)=V:=⟨_,rfl⟩;rw[hV] at z1 z2 Bb ⊢;clear hV;refine rdw9 12 λK hK=>?_
     refine wstore_part 106 (.tmp 6) (.tmp 60) (U.heap.size+1) 0 106 [] [.int .i64 0,.int .i64 0,.slice none 0 0] [] (iv a) rfl (by rw[List.nil_append,List.append_nil];exact z2.out) rfl rfl FA.out (iv_oneA a) rfl rfl ?_;intro w3 a1 a2 a3;have A1:=hid (show Blk w3 (U.heap.size+1) 106 (iv a) by have:=a1.out;rwa [List.nil_append,List.append_nil] at this);have K1:=a2.out.keptOne rfl;have Bc:=hid (belk1 Bb.out (by omega) K1);have Zb:=hid (z1.out.kept K1 (by omega));refine hK.out _ _ (SU.out _ Bc.out) (λ_=>?_);clear hK K a1 a2 a3;refine rdw9 13 λK hK=>?_
     refine wstore_part 106 (.tmp 7) (.tmp 65) (U.heap.size) 0 106 [] [.int .i64 0,.int .i64 0,.slice none 0 0] [] (iv b) rfl (by rw[List.nil_append,List.append_nil];exact Zb.out) rfl rfl FB.out (iv_oneA b) rfl rfl ?_;intro w4 a1 a2 a3;have A2:=hid (show Blk w4 (U.heap.size) 106 (iv b) by have:=a1.out;rwa [List.nil_append,List.append_nil] at this);have K2:=a2.out.keptOne rfl;have Bd:=hid (belk1 Bc.out (by omega) K2);have A1x:=hid (A1.out.kept K2 (by omega));refine hK.out _ _ (SU.out _ Bd.out) (λ_=>?_);clear hK K a1 a2 a3;refine wpAnyH_done (by kernel_rfl) ?_ _;go_simp;go_wp2_with fail
     go_meet
     exact⟨U.heap.size+1,U.heap.size,rfl,rfl,A1x.out,A2.out,BU.out.trans (Bd.out.mono BU.out.size)⟩
   case rest=>
    obtain⟨g1,g2,rfl,rfl,i1,i2,bz⟩:=hcut;have S2:=hid (S1.out.below bz);have ST:=hid (show Calls _ _ _ _ λe w'=>e= .returned (.bool (sT a.i.t b.i.t))∧_ from refsame_t a.i.t.length a.c b.i.t.length b.c a.p b.p (gl a.i.t) (gl b.i.t) wc TA.out.n TB.out.n (TA.out.below bz).t (TB.out.below bz).t);obtain⟨p0,p1,p2⟩:=iv_cells i1;obtain⟨q0,q1,q2⟩:=iv_cells i2;have HE:=hid (show itS a.i b.i=((a.i.own == b.i.own) && ((a.i.un == b.i.un) && sT a.i.t b.i.t)) from rfl);have NO:=hid (λh:itS a.i b.i=false=>show sb=false from by rw[HS2.out,lsS_no SA.out SB_.out h,Bool.false_and]);obtain⟨st,hst⟩:∃ z,sT a.i.t b.i.t=z:=⟨_,rfl⟩;rw[hst] at ST HE;clear hst;obtain⟨a0,h_⟩:∃ z,a.i.own=z:=⟨_,rfl⟩;rw[h_] at p0 HE;clear h_;obtain⟨b0,h_⟩:∃ z,b.i.own=z:=⟨_,rfl⟩;rw[h_] at q0 HE;clear h_;obtain⟨a1,h_⟩:∃ z,a.i.un=z:=⟨_,rfl⟩;rw[h_] at p1 HE;clear h_;obtain⟨b1_,h_⟩:∃ z,b.i.un=z:=⟨_,rfl⟩;rw[h_] at q1 HE;clear h_;clear i1 i2 bz S1
    cases e0:(a0 == b0) with
    |false=>
     have e0':(a0 != b0)=true:=by rw[bne,e0];rfl
     have HF:=hid (NO.out (by rw[HE.out,e0,Bool.false_and]));go_wp2_with fail
     go_ret;exact⟨by rw[HF.out];try rfl,S2.out.bel⟩
    |true=>
    have e0':(a0 != b0)=false:=by rw[bne,e0];rfl
    cases e1:(a1 == b1_) with
    |false=>
     have e1':(a1 != b1_)=true:=by rw[bne,e1];rfl
     have HF:=hid (NO.out (by rw[HE.out,e0,e1,Bool.false_and,Bool.and_false]));go_wp2_with fail
     go_ret;exact⟨by rw[HF.out];try rfl,S2.out.bel⟩
    |true=>
    have e1':(a1 != b1_)=false:=by rw[bne,e1];rfl
    have HE2:=hid (show itS a.i b.i=st from by rw[HE.out,e0,e1];cases st<;>rfl);clear HE;go_wp2_with fail
    refine ST.out.mono ?_
    rintro e w2 ⟨rfl,b2w⟩
    have S3:=hid (S2.out.below b2w);clear b2w ST S2
    cases st with
    |false=>
     have HF:=hid (NO.out HE2.out);go_wp2_with fail
     go_ret;exact⟨by rw[HF.out];try rfl,S3.out.bel⟩
    |true=>
     have HB2:=hid (show ∀ (i:Nat) (a b:It),i<j+1→x.sp.its[i]? =some a→y.sp.its[i]? =some b→itS a b=true from λi a9 b9 hi h1 h2=>by
      rcases Nat.lt_or_ge i j with h |h
      ·exact HB.out i a9 b9 h h1 h2
      ·obtain rfl:i=j:=by omega
       obtain rfl:=Option.some.inj (SA.out.symm.trans h1);obtain rfl:=Option.some.inj (SB_.out.symm.trans h2);exact HE2.out)
     go_wp2_with fail
     go_roundw
     case rel=>exact⟨j+1,HLT.out,by go_num,S3.out,HB2.out⟩
     case measure=>have:=HLT.out;simp[intOf];omega
  ·obtain rfl:j=n:=by omega
   clear hlt;have c1:=(sv_cells S1.out.a).2.1;rw[HN.out] at c1;have HS3:=hid (show sb=(lsS wtS x.sp.wts y.sp.wts && lsS rpS x.sp.last y.sp.last) from by rw[HS2.out,lsS_all (by rw[LI.out,MI.out];exact N1.out) (λi a b h1 h2=>HB.out i a b (by have:=(List.getElem?_eq_some_iff.1 h1).1;rw[LI.out,HN.out] at this;exact this) h1 h2),Bool.true_and])
   go_upto_region 10 with(fail)
   have S0:=hid S1.out;clear c1 S1 HB HN HM nB hj HS2;obtain⟨n,hn⟩:∃ n,x.wts.length=n:=⟨_,rfl⟩;have HN:=hid hn;have HM:=hid (show y.wts.length=n from by rw[←hn];exact N2.out.symm);have nB:(n:Int)≤9223372036854775807:=by have:=NN.out.2;omega
   clear hn
   go_loopw [8] (λt wr=>∃ j:Nat,j≤n∧t= .int .i64 (j:Int)∧SS w wr x y∧∀ (i:Nat) (a b:Wt),i<j→x.sp.wts[i]? =some a→y.sp.wts[i]? =some b→wtS a b=true) (λt _=>n- (intOf t).toNat)
   case atStart=>exact⟨0,by omega,rfl,S0.out,λi a b hi=>absurd hi (by omega)⟩
   case round=>
    clear S0;obtain⟨j,hj,rfl,s0_,hb⟩:=hrel;have S1:=hid s0_;have HB:=hid hb;clear s0_ hb
    by_cases hlt:j<n
    ·obtain⟨a,ha⟩:∃ a,x.wts[j]? =some a:=⟨_,List.getElem?_eq_getElem (by rw[HN.out];exact hlt)⟩;obtain⟨b,hb⟩:∃ b,y.wts[j]? =some b:=⟨_,List.getElem?_eq_getElem (by rw[HM.out];exact hlt)⟩;obtain⟨b1,o1,hp1,l1,r1⟩:=S1.out.rx.wts j a ha;obtain⟨b2,o2,hp2,l2,r2⟩:=S1.out.ry.wts j b hb;have c1:=(sv_cells S1.out.a).2.2.1;rw[hp1,HN.out] at c1;have d1:=(sv_cells S1.out.b).2.2.1;rw[hp2,HM.out] at d1;have CA:=hid c1;have CB:=hid d1;have RA:=hid r1;have RB:=hid r2;have LA:=hid l1;have LB:=hid l2;have TA:=hid (S1.out.rx.wt a (List.mem_of_getElem? ha));have TB:=hid (S1.out.ry.wt b (List.mem_of_getElem? hb));have SA:=hid (show x.sp.wts[j]? =some a.x from by show(x.wts.map (·.x))[j]? =_;rw[List.getElem?_map,ha];rfl);have SB_:=hid (show y.sp.wts[j]? =some b.x from by show(y.wts.map (·.x))[j]? =_;rw[List.getElem?_map,hb];rfl);have FA:=hid (wv_size a);have FB:=hid (wv_size b);have j1:(j:Int)< (n:Int):=by omega
     have HLT:=hid hlt;clear ha hb hp1 hp2 l1 l2 r1 r2 hlt
     go_upto_region 12 with(fail)
     clear c1 d1
     go_cut [9,10] (λs6 s7 wx=>∃ g1 g2,s6= .pointer (some ⟨g1,0,none⟩)∧s7= .pointer (some ⟨g2,0,none⟩)∧Blk wx g1 109 (wv a)∧Blk wx g2 109 (wv b)∧Below wr.heap.size wr wx)
     case first=>
      obtain⟨U,hU⟩:∃ U,wr.drew=U:=⟨_,rfl⟩;have BU:=hid (show Below wr.heap.size wr U from by rw[←hU];exact(Below.refl _ _).drew);have SU:=hid (λ(Y:World) (hb:Below U.heap.size U Y)=>show Y.cell? ⟨w.heap.size,2,none⟩=some (.slice (some ⟨b1,o1,none⟩) n x.wc)∧Y.cell? ⟨w.heap.size+1,2,none⟩=some (.slice (some ⟨b2,o2,none⟩) n y.wc)∧Y.rangeAt b1 (o1+j * 4) (wv a)∧Y.rangeAt b2 (o2+j * 4) (wv b) from⟨(hb.cell (p:=⟨w.heap.size,2,none⟩) (Nat.lt_of_lt_of_le S1.out.a.lt BU.out.size)).trans ((BU.out.cell (p:=⟨w.heap.size,2,none⟩) S1.out.a.lt).trans CA.out),(hb.cell (p:=⟨w.heap.size+1,2,none⟩) (Nat.lt_of_lt_of_le S1.out.b.lt BU.out.size)).trans ((BU.out.cell (p:=⟨w.heap.size+1,2,none⟩) S1.out.b.lt).trans CB.out),rows_below (rows_below RA.out BU.out LA.out) hb (Nat.lt_of_lt_of_le LA.out BU.out.size),rows_below (rows_below RB.out BU.out LB.out) hb (Nat.lt_of_lt_of_le LB.out BU.out.size)⟩);have s0:=SU.out U (Below.refl _ _);refine wp_region_held (S:=λY=>Y.cell? ⟨w.heap.size,2,none⟩=some (.slice (some ⟨b1,o1,none⟩) n x.wc)∧Y.cell? ⟨w.heap.size+1,2,none⟩=some (.slice (some ⟨b2,o2,none⟩) n y.wc)∧Y.rangeAt b1 (o1+j * 4) (wv a)∧Y.rangeAt b2 (o2+j * 4) (wv b)) (by kernel_rfl) ?_;change wpAnyH _ _ _ _ _ _ _ _ wr.drew;rw[hU];clear hU;refine tka9 0 s0 ?_;refine tk9 1 ?_ ?_ s0 ?_;rotate_left 1
      ·(intro w hS;have hs:=hS.1;clear hS;go_simp;try (with_reducible rfl))
      refine tka9 2 s0 ?_;refine tka9 3 s0 ?_;refine tkg9 4 (v:= .agg (wv a).toArray) (yieldsIf_load_mid (by kernel_rfl) 109 (.tmp 96) rfl b1 (o1+j * 4) (by go_simp) (wv a) _ (λ_ h=>h.2.2.1) Tryz.underlying109 rfl (FA.out)) s0 ?_;refine tka9 5 s0 ?_;refine tk9 6 ?_ ?_ s0 ?_;rotate_left 1
      ·(intro w hS;have hs:=hS.2.1;clear hS;go_simp;try (with_reducible rfl))
      refine tka9 7 s0 ?_;refine tka9 8 s0 ?_;refine tkg9 9 (v:= .agg (wv b).toArray) (yieldsIf_load_mid (by kernel_rfl) 109 (.tmp 101) rfl b2 (o2+j * 4) (by go_simp) (wv b) _ (λ_ h=>h.2.2.2) Tryz.underlying109 rfl (FB.out)) s0 ?_;go_simp;refine wpAnyH_ready (rs:=[10,11]) (by kernel_rfl) (by simp) ?_;refine AllReadyH.cons rfl (λK hK=>?_) ?_
      ·skip
       have z1:=hid ((Blk.new U 109 [.int .i64 0,.int .i64 0,.bool false,.slice none 0 0]).alloc (.cells #[.int .i64 0,.int .i64 0,.bool false,.slice none 0 0] 109));have z2:=hid (Blk.new2 U (.cells #[.int .i64 0,.int .i64 0,.bool false,.slice none 0 0] 109) 109 [.int .i64 0,.int .i64 0,.bool false,.slice none 0 0]);have Ba:=hid ((Below.refl U.heap.size U).alloc (Nat.le_refl _) (.cells #[.int .i64 0,.int .i64 0,.bool false,.slice none 0 0] 109));have Bb:=hid (Ba.out.alloc (by simp) (.cells #[.int .i64 0,.int .i64 0,.bool false,.slice none 0 0] 109));go_simp;refine hK.out _ _ (SU.out _ Ba.out) (λ_=>?_);clear hK K;refine rdw9 11 λK hK=>?_
       go_simp;refine hK.out _ _ (SU.out _ Bb.out) (λ_=>?_);clear hK K;obtain⟨V,hV⟩:∃ V,(U.alloc (.cells #[.int .i64 0,.int .i64 0,.bool false,.slice none 0 0] 109)).alloc (.cells #[.int .i64 0,.int .i64 0,.bool false,.slice none 0 0] 109)=V:=⟨_,rfl⟩;rw[hV] at z1 z2 Bb ⊢;clear hV;refine rdw9 12 λK hK=>?_
       refine wstore_part 109 (.tmp 9) (.tmp 97) (U.heap.size) 0 109 [] [.int .i64 0,.int .i64 0,.bool false,.slice none 0 0] [] (wv a) rfl (by rw[List.nil_append,List.append_nil];exact z1.out) rfl rfl FA.out (wv_oneA a) rfl rfl ?_;intro w3 a1 a2 a3;have A1:=hid (show Blk w3 (U.heap.size) 109 (wv a) by have:=a1.out;rwa [List.nil_append,List.append_nil] at this);have K1:=a2.out.keptOne rfl;have Bc:=hid (belk1 Bb.out (by omega) K1);have Zb:=hid (z2.out.kept K1 (by omega));refine hK.out _ _ (SU.out _ Bc.out) (λ_=>?_);clear hK K a1 a2 a3;refine rdw9 13 λK hK=>?_
       refine wstore_part 109 (.tmp 10) (.tmp 102) (U.heap.size+1) 0 109 [] [.int .i64 0,.int .i64 0,.bool false,.slice none 0 0] [] (wv b) rfl (by rw[List.nil_append,List.append_nil];exact Zb.out) rfl rfl FB.out (wv_oneA b) rfl rfl ?_;intro w4 a1 a2 a3;have A2:=hid (show Blk w4 (U.heap.size+1) 109 (wv b) by have:=a1.out;rwa [List.nil_append,List.append_nil] at this);have K2:=a2.out.keptOne rfl;have Bd:=hid (belk1 Bc.out (by omega) K2);have A1x:=hid (A1.out.kept K2 (by omega));refine hK.out _ _ (SU.out _ Bd.out) (λ_=>?_);clear hK K a1 a2 a3;refine wpAnyH_done (by kernel_rfl) ?_ _;go_simp;go_wp2_with fail
       go_meet
       exact⟨U.heap.size,U.heap.size+1,rfl,rfl,A1x.out,A2.out,BU.out.trans (Bd.out.mono BU.out.size)⟩
      ·refine AllReadyH.cons rfl (λK hK=>?_) AllReadyH.nil;have z1:=hid ((Blk.new U 109 [.int .i64 0,.int .i64 0,.bool false,.slice none 0 0]).alloc (.cells #[.int .i64 0,.int .i64 0,.bool false,.slice none 0 0] 109));have z2:=hid (Blk.new2 U (.cells #[.int .i64 0,.int .i64 0,.bool false,.slice none 0 0] 109) 109 [.int .i64 0,.int .i64 0,.bool false,.slice none 0 0]);have Ba:=hid ((Below.refl U.heap.size U).alloc (Nat.le_refl _) (.cells #[.int .i64 0,.int .i64 0,.bool false,.slice none 0 0] 109));have Bb:=hid (Ba.out.alloc (by simp) (.cells #[.int .i64 0,.int .i64 0,.bool false,.slice none 0 0] 109));go_simp;refine hK.out _ _ (SU.out _ Ba.out) (λ_=>?_);clear hK K;refine rdw9 10 λK hK=>?_
       go_simp;refine hK.out _ _ (SU.out _ Bb.out) (λ_=>?_);clear hK K;obtain⟨V,hV⟩:∃ V,(U.alloc (.cells #[.int .i64 0,.int .i64 0,.bool false,.slice none 0 0] 109)).alloc (.cells #[.int .i64 0,.int .i64 0,.bool false,.slice none 0 0] 109)=V:=⟨_,rfl⟩;rw[hV] at z1 z2 Bb ⊢;clear hV;refine rdw9 12 λK hK=>?_
       refine wstore_part 109 (.tmp 9) (.tmp 97) (U.heap.size+1) 0 109 [] [.int .i64 0,.int .i64 0,.bool false,.slice none 0 0] [] (wv a) rfl (by rw[List.nil_append,List.append_nil];exact z2.out) rfl rfl FA.out (wv_oneA a) rfl rfl ?_;intro w3 a1 a2 a3;have A1:=hid (show Blk w3 (U.heap.size+1) 109 (wv a) by have:=a1.out;rwa [List.nil_append,List.append_nil] at this);have K1:=a2.out.keptOne rfl;have Bc:=hid (belk1 Bb.out (by omega) K1);have Zb:=hid (z1.out.kept K1 (by omega));refine hK.out _ _ (SU.out _ Bc.out) (λ_=>?_);clear hK K a1 a2 a3;refine rdw9 13 λK hK=>?_
       refine wstore_part 109 (.tmp 10) (.tmp 102) (U.heap.size) 0 109 [] [.int .i64 0,.int .i64 0,.bool false,.slice none 0 0] [] (wv b) rfl (by rw[List.nil_append,List.append_nil];exact Zb.out) rfl rfl FB.out (wv_oneA b) rfl rfl ?_;intro w4 a1 a2 a3;have A2:=hid (show Blk w4 (U.heap.size) 109 (wv b) by have:=a1.out;rwa [List.nil_append,List.append_nil] at this);have K2:=a2.out.keptOne rfl;have Bd:=hid (belk1 Bc.out (by omega) K2);have A1x:=hid (A1.out.kept K2 (by omega));refine hK.out _ _ (SU.out _ Bd.out) (λ_=>?_);clear hK K a1 a2 a3;refine wpAnyH_done (by kernel_rfl) ?_ _;go_simp;go_wp2_with fail
       go_meet
       exact⟨U.heap.size+1,U.heap.size,rfl,rfl,A1x.out,A2.out,BU.out.trans (Bd.out.mono BU.out.size)⟩
     case rest=>
      obtain⟨g1,g2,rfl,rfl,i1,i2,bz⟩:=hcut;have S2:=hid (S1.out.below bz);have ST:=hid (show Calls _ _ _ _ λe w'=>e= .returned (.bool (sT a.x.p b.x.p))∧_ from refsame_t a.x.p.length a.c b.x.p.length b.c a.p b.p (gl a.x.p) (gl b.x.p) wc TA.out.n TB.out.n (TA.out.below bz).t (TB.out.below bz).t);obtain⟨p0,p1,p2,p3⟩:=wv_cells i1;obtain⟨q0,q1,q2,q3⟩:=wv_cells i2;have HE:=hid (show wtS a.x b.x=((a.x.cl == b.x.cl) && ((a.x.sq == b.x.sq) && ((a.x.tk == b.x.tk) && sT a.x.p b.x.p))) from rfl);have NO:=hid (λh:wtS a.x b.x=false=>show sb=false from by rw[HS3.out,lsS_no SA.out SB_.out h,Bool.false_and]);obtain⟨st,hst⟩:∃ z,sT a.x.p b.x.p=z:=⟨_,rfl⟩;rw[hst] at ST HE;clear hst;obtain⟨a0,h_⟩:∃ z,a.x.cl=z:=⟨_,rfl⟩;rw[h_] at p0 HE;clear h_;obtain⟨b0,h_⟩:∃ z,b.x.cl=z:=⟨_,rfl⟩;rw[h_] at q0 HE;clear h_;obtain⟨a1,h_⟩:∃ z,a.x.sq=z:=⟨_,rfl⟩;rw[h_] at p1 HE;clear h_;obtain⟨b1_,h_⟩:∃ z,b.x.sq=z:=⟨_,rfl⟩;rw[h_] at q1 HE;clear h_;obtain⟨a2,h_⟩:∃ z,a.x.tk=z:=⟨_,rfl⟩;rw[h_] at p2 HE;clear h_;obtain⟨b2_,h_⟩:∃ z,b.x.tk=z:=⟨_,rfl⟩;rw[h_] at q2 HE;clear h_;clear i1 i2 bz S1
      cases e0:(a0 == b0) with
      |false=>
       have e0':(a0 != b0)=true:=by rw[bne,e0];rfl
       have HF:=hid (NO.out (by rw[HE.out,e0,Bool.false_and]));go_wp2_with fail
       go_ret;exact⟨by rw[HF.out];try rfl,S2.out.bel⟩
      |true=>
      have e0':(a0 != b0)=false:=by rw[bne,e0];rfl
      cases e1:(a1 == b1_) with
      |false=>
       have e1':(a1 != b1_)=true:=by rw[bne,e1];rfl
       have HF:=hid (NO.out (by rw[HE.out,e0,e1,Bool.false_and,Bool.and_false]));go_wp2_with fail
       go_ret;exact⟨by rw[HF.out];try rfl,S2.out.bel⟩
      |true=>
      have e1':(a1 != b1_)=false:=by rw[bne,e1];rfl
      cases e2:(a2 == b2_) with
      |false=>
       have HF:=hid (NO.out (by rw[HE.out,e0,e1,e2];rfl))
       cases a2<;>cases b2_<;>first |(exact absurd e2 (by decide)) |skip
       all_goals
        clear e2;go_wp2_with fail
        go_ret;exact⟨by rw[HF.out];try rfl,S2.out.bel⟩
      |true=>
      have e2':(a2 != b2_)=false:=by rw[bne,e2];rfl
      have HE2:=hid (show wtS a.x b.x=st from by rw[HE.out,e0,e1,e2];cases st<;>rfl);obtain rfl:a2=b2_:=by simpa using e2
      clear HE e2 e2'
      cases a2
      all_goals
       go_wp2_with fail
       refine ST.out.mono ?_
       rintro e w2 ⟨rfl,b2w⟩
       have S3:=hid (S2.out.below b2w);clear b2w ST S2
       cases st with
       |false=>
        have HF:=hid (NO.out HE2.out);go_wp2_with fail
        go_ret;exact⟨by rw[HF.out];try rfl,S3.out.bel⟩
       |true=>
        have HB2:=hid (show ∀ (i:Nat) (a b:Wt),i<j+1→x.sp.wts[i]? =some a→y.sp.wts[i]? =some b→wtS a b=true from λi a9 b9 hi h1 h2=>by
         rcases Nat.lt_or_ge i j with h |h
         ·exact HB.out i a9 b9 h h1 h2
         ·obtain rfl:i=j:=by omega
          obtain rfl:=Option.some.inj (SA.out.symm.trans h1);obtain rfl:=Option.some.inj (SB_.out.symm.trans h2);exact HE2.out)
        go_wp2_with fail
        go_roundw
        case rel=>exact⟨j+1,HLT.out,by go_num,S3.out,HB2.out⟩
        case measure=>have:=HLT.out;simp[intOf];omega
    ·obtain rfl:j=n:=by omega
     clear hlt;have c1:=(sv_cells S1.out.a).2.2.1;rw[HN.out] at c1;have HS4:=hid (show sb=lsS rpS x.sp.last y.sp.last from by rw[HS3.out,lsS_all (by rw[LW.out,MW.out];exact N2.out) (λi a b h1 h2=>HB.out i a b (by have:=(List.getElem?_eq_some_iff.1 h1).1;rw[LW.out,HN.out] at this;exact this) h1 h2),Bool.true_and])
     go_upto_region 16 with(fail)
     have S0:=hid S1.out;clear c1 S1 HB HN HM nB hj HS3
     go_loopw [11] (λt wr=>∃ j:Nat,j≤4∧t= .int .i64 (j:Int)∧SS w wr x y∧∀ (i:Nat) (a b:Rp),i<j→x.sp.last[i]? =some a→y.sp.last[i]? =some b→rpS a b=true) (λt _=>4- (intOf t).toNat)
     case atStart=>exact⟨0,by omega,rfl,S0.out,λi a b hi=>absurd hi (by omega)⟩
     case round=>
      clear S0;obtain⟨j,hj,rfl,s0_,hb⟩:=hrel;have S1:=hid s0_;have HB:=hid hb;clear s0_ hb
      by_cases hlt:j<4
      ·obtain⟨a,ha⟩:∃ a,x.last[j]? =some a:=⟨_,List.getElem?_eq_getElem (by rw[S1.out.rx.l4];exact hlt)⟩;obtain⟨b,hb⟩:∃ b,y.last[j]? =some b:=⟨_,List.getElem?_eq_getElem (by rw[S1.out.ry.l4];exact hlt)⟩;obtain⟨A1,C1,h1,k1⟩:=sv_cut ha;obtain⟨A2,C2,h2,k2⟩:=sv_cut hb;have RA:=hid (part_rng (W:=wr) (g:=w.heap.size) (T:=46) (A:=A1) (B:=pv a) (C:=C1) (by rw[←h1];exact S1.out.a) k1);have RB:=hid (part_rng (W:=wr) (g:=w.heap.size+1) (T:=46) (A:=A2) (B:=pv b) (C:=C2) (by rw[←h2];exact S1.out.b) k2);have SA:=hid (show x.sp.last[j]? =some a.r from by show(x.last.map (·.r))[j]? =_;rw[List.getElem?_map,ha];rfl);have SB_:=hid (show y.sp.last[j]? =some b.r from by show(y.last.map (·.r))[j]? =_;rw[List.getElem?_map,hb];rfl);have TA:=hid (S1.out.rx.la a (List.mem_of_getElem? ha));have TB:=hid (S1.out.ry.la b (List.mem_of_getElem? hb));have FA:=hid (pv_size a);have FB:=hid (pv_size b);have j0:(0:Int)≤(j:Int):=by omega
       have j1:(j:Int)<4:=by omega
       have HLT:=hid hlt;clear ha hb h1 h2 k1 k2 hlt
       go_upto_region 18 with(fail)
       obtain⟨U,hU⟩:∃ U,wr.drew=U:=⟨_,rfl⟩;have BU:=hid (show Below wr.heap.size wr U from by rw[←hU];exact(Below.refl _ _).drew);have S2:=hid (S1.out.below BU.out);have s0:U.rangeAt w.heap.size (5+j * 5) (pv a)∧U.rangeAt (w.heap.size+1) (5+j * 5) (pv b):=⟨rows_below RA.out BU.out S1.out.a.lt,rows_below RB.out BU.out S1.out.b.lt⟩;have SR:=hid (refSameReply_t a b U (TA.out.below BU.out) (TB.out.below BU.out));obtain⟨rb,hrb⟩:∃ z,rpS a.r b.r=z:=⟨_,rfl⟩;rw[hrb] at SR;have HRB:=hid hrb;clear hrb;refine wp_region_held (S:=λY=>Y.rangeAt w.heap.size (5+j * 5) (pv a)∧Y.rangeAt (w.heap.size+1) (5+j * 5) (pv b)) (by kernel_rfl) ?_;change wpAnyH _ _ _ _ _ _ _ _ wr.drew;rw[hU];clear hU;refine tka9 0 s0 ?_;refine tka9 1 s0 ?_;refine tka9 2 s0 ?_;refine tkg9 3 (v:= .agg (pv a).toArray) (yieldsIf_load_mid (by kernel_rfl) 43 (.tmp 136) rfl w.heap.size (5+j * 5) (by go_simp) (pv a) _ (λ_ h=>h.1) Tryz.underlying43 rfl (FA.out)) s0 ?_;refine tka9 4 s0 ?_;refine tka9 5 s0 ?_;refine tka9 6 s0 ?_;refine tkg9 7 (v:= .agg (pv b).toArray) (yieldsIf_load_mid (by kernel_rfl) 43 (.tmp 140) rfl (w.heap.size+1) (5+j * 5) (by go_simp) (pv b) _ (λ_ h=>h.2) Tryz.underlying43 rfl (FB.out)) s0 ?_;go_simp;refine rdw9 8 λK hK=>?_
       go_simp;refine SR.out.mono ?_
       rintro e w2 ⟨rfl,b2w⟩
       have S3:=hid (S2.out.below b2w);have s2:w2.rangeAt w.heap.size (5+j * 5) (pv a)∧w2.rangeAt (w.heap.size+1) (5+j * 5) (pv b):=⟨rows_below s0.1 b2w S2.out.a.lt,rows_below s0.2 b2w S2.out.b.lt⟩;refine hK.out _ _ s2 (λ_=>?_);clear hK K s0 b2w SR BU S1 S2;refine tka9 9 s2 ?_;refine wpAnyH_done (by kernel_rfl) ?_ _;go_simp
       cases rb with
       |false=>
        have HF:=hid (show sb=false from by rw[HS4.out];exact lsS_no SA.out SB_.out HRB.out);go_wp2_with fail
        go_ret;exact⟨by rw[HF.out];try rfl,S3.out.bel⟩
       |true=>
        have HB2:=hid (show ∀ (i:Nat) (a b:Rp),i<j+1→x.sp.last[i]? =some a→y.sp.last[i]? =some b→rpS a b=true from λi a9 b9 hi h1 h2=>by
         rcases Nat.lt_or_ge i j with h |h
         ·exact HB.out i a9 b9 h h1 h2
         ·obtain rfl:i=j:=by omega
          obtain rfl:=Option.some.inj (SA.out.symm.trans h1);obtain rfl:=Option.some.inj (SB_.out.symm.trans h2);exact HRB.out)
        go_wp2_with fail
        go_roundw
        case rel=>exact⟨j+1,HLT.out,by go_num,S3.out,HB2.out⟩
        case measure=>have:=HLT.out;simp[intOf];omega
      ·obtain rfl:j=4:=by omega
       clear hlt;have HF:=hid (show sb=true from by
        have lx:x.sp.last.length=4:=by rw[show x.sp.last.length=x.last.length from List.length_map _];exact S1.out.rx.l4
        have ly:y.sp.last.length=4:=by rw[show y.sp.last.length=y.last.length from List.length_map _];exact S1.out.ry.l4
        rw[HS4.out];exact lsS_all (by rw[lx,ly]) (λi a b h1 h2=>HB.out i a b (by have:=(List.getElem?_eq_some_iff.1 h1).1;rw[lx] at this;exact this) h1 h2))
       go_wp2_with fail
       go_ret;exact⟨by rw[HF.out];try rfl,S1.out.bel⟩
end Go.Proofs.YtlipjglehongeaaGreatDoor
