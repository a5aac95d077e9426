/-
  THE REFERENCE
  THE REFERENCE OF CHAPTER 10
  THE REFERENCE OF CHAPTER 10
  THE REFERENCE OF CHAPTER 10
-/
import Derived.Test.YtlipjglehongeaaGreatDoorGb38
import Derived.Test.YtlipjglehongeaaGreatDoorGb17
import Derived.Test.YtlipjglehongeaaGreatDoorGb37
import Derived.Test.YtlipjglehongeaaGreatDoorTk
open Go.Lib (hid)
set_option maxRecDepth 100000
namespace Go.Proofs.YtlipjglehongeaaGreatDoor
open Go Go.RowKit Sh
set_option maxHeartbeats 1000000 in
theorem refNew_t (rd wx:Int) (w:World):Calls Tryz.prog 28 #[.int .i64 rd,.int .i64 wx] w λe w'=>e= .returned (.agg (sv (nsp rd wx 0 1 2 3)).toArray)∧Below w.heap.size w w':=by
 have Y0:=hid (Blk.new2 w (.cells #[.int .i64 0,.slice none 0 0,.slice none 0 0,.int .i64 0,.int .i64 0,.int .i64 0,.int .i64 0,.int .i64 0,.slice none 0 0,.bool false,.int .i64 0,.int .i64 0,.int .i64 0,.slice none 0 0,.bool false,.int .i64 0,.int .i64 0,.int .i64 0,.slice none 0 0,.bool false,.int .i64 0,.int .i64 0,.int .i64 0,.slice none 0 0,.bool false] 46) 46 [.int .i64 0,.slice none 0 0,.slice none 0 0,.int .i64 0,.int .i64 0,.int .i64 0,.int .i64 0,.int .i64 0,.slice none 0 0,.bool false,.int .i64 0,.int .i64 0,.int .i64 0,.slice none 0 0,.bool false,.int .i64 0,.int .i64 0,.int .i64 0,.slice none 0 0,.bool false,.int .i64 0,.int .i64 0,.int .i64 0,.slice none 0 0,.bool false]);have S0:=hid (show NW w (((w.alloc (.cells #[.int .i64 0,.slice none 0 0,.slice none 0 0,.int .i64 0,.int .i64 0,.int .i64 0,.int .i64 0,.int .i64 0,.slice none 0 0,.bool false,.int .i64 0,.int .i64 0,.int .i64 0,.slice none 0 0,.bool false,.int .i64 0,.int .i64 0,.int .i64 0,.slice none 0 0,.bool false,.int .i64 0,.int .i64 0,.int .i64 0,.slice none 0 0,.bool false] 46)).alloc (.cells #[.int .i64 0,.slice none 0 0,.slice none 0 0,.int .i64 0,.int .i64 0,.int .i64 0,.int .i64 0,.int .i64 0,.slice none 0 0,.bool false,.int .i64 0,.int .i64 0,.int .i64 0,.slice none 0 0,.bool false,.int .i64 0,.int .i64 0,.int .i64 0,.slice none 0 0,.bool false,.int .i64 0,.int .i64 0,.int .i64 0,.slice none 0 0,.bool false] 46)).setRow (w.heap.size+1) (sv (nK rd wx 0)).toArray) rd wx 0 from by
  have b1:=(Below.refl w.heap.size w).alloc (Nat.le_refl _) (.cells #[.int .i64 0,.slice none 0 0,.slice none 0 0,.int .i64 0,.int .i64 0,.int .i64 0,.int .i64 0,.int .i64 0,.slice none 0 0,.bool false,.int .i64 0,.int .i64 0,.int .i64 0,.slice none 0 0,.bool false,.int .i64 0,.int .i64 0,.int .i64 0,.slice none 0 0,.bool false,.int .i64 0,.int .i64 0,.int .i64 0,.slice none 0 0,.bool false] 46);exact⟨(Blk.new2 w _ _ _).setRow _,((Blk.new w 46 [.int .i64 0,.slice none 0 0,.slice none 0 0,.int .i64 0,.int .i64 0,.int .i64 0,.int .i64 0,.int .i64 0,.slice none 0 0,.bool false,.int .i64 0,.int .i64 0,.int .i64 0,.slice none 0 0,.bool false,.int .i64 0,.int .i64 0,.int .i64 0,.slice none 0 0,.bool false,.int .i64 0,.int .i64 0,.int .i64 0,.slice none 0 0,.bool false]).alloc _).setRow_far (by omega) _,below_setRow (b1.alloc (by simp) _) (Nat.le_succ _) _⟩)
 have F0:=hid (sv_size (nK rd wx 0) rfl);have F10:=hid (sv_one (nK rd wx 0));have hl:sv (nK rd wx 0)=[.int .i64 0,.slice none 0 0,.slice none 0 0,.int .i64 (bits .and .i64 rd 15),.int .i64 (bits .and .i64 wx 15),.int .i64 0,.int .i64 0,.int .i64 0,.slice none 0 0,.bool false,.int .i64 0,.int .i64 0,.int .i64 0,.slice none 0 0,.bool false,.int .i64 0,.int .i64 0,.int .i64 0,.slice none 0 0,.bool false,.int .i64 0,.int .i64 0,.int .i64 0,.slice none 0 0,.bool false]:=rfl;rw[hl] at S0 F0 F10;clear hl
 go_enter Tryz.func28,Tryz.ntmps28
 go_upto_region 3 with(((with_reducible refine store_blk 46 (.tmp 5) (.tmp 11) (w.heap.size+1) 46 [.int .i64 0,.slice none 0 0,.slice none 0 0,.int .i64 0,.int .i64 0,.int .i64 0,.int .i64 0,.int .i64 0,.slice none 0 0,.bool false,.int .i64 0,.int .i64 0,.int .i64 0,.slice none 0 0,.bool false,.int .i64 0,.int .i64 0,.int .i64 0,.slice none 0 0,.bool false,.int .i64 0,.int .i64 0,.int .i64 0,.slice none 0 0,.bool false] [.int .i64 0,.slice none 0 0,.slice none 0 0,.int .i64 (bits .and .i64 rd 15),.int .i64 (bits .and .i64 wx 15),.int .i64 0,.int .i64 0,.int .i64 0,.slice none 0 0,.bool false,.int .i64 0,.int .i64 0,.int .i64 0,.slice none 0 0,.bool false,.int .i64 0,.int .i64 0,.int .i64 0,.slice none 0 0,.bool false,.int .i64 0,.int .i64 0,.int .i64 0,.slice none 0 0,.bool false] rfl rfl ?_ ?_ ?_ ?_ ?_ ?_ ?_);exact Y0.out;exact rfl;exact F0.out;exact F10.out;exact rfl;exact rfl))
 clear Y0 F0 F10
 go_loopw [6] (λx wr=>∃ j:Nat,j≤4∧x= .int .i64 (j:Int)∧NW w wr rd wx j) (λx _=>4- (intOf x).toNat)
 case atStart=>exact⟨0,by omega,rfl,S0.out⟩
 case round=>
  obtain⟨j,hj,rfl,hS⟩:=hrel;have S1:=hid hS;clear hS S0
  by_cases hlt:j<4
  ·have j1:(j:Int)<4:=by omega
   have ct:∃ v,wr.cell? ⟨w.heap.size+1,5+j * 5,none⟩=some v:=by
    rw[S1.out.a.cell];exact⟨_,List.getElem?_eq_getElem (by rw[sv_len _ rfl];omega)⟩
   obtain⟨v,ct⟩:=ct;have fz:=S1.out.a.frozen (5+j * 5);have S2:=hid (show NW w (wr.setCell ⟨w.heap.size+1,5+j * 5,none⟩ (.int .i64 (j:Int))) rd wx (j+1) from by
    refine⟨?_,S1.out.z.far (p:=⟨w.heap.size+1,5+j * 5,none⟩) (by show w.heap.size≠w.heap.size+1;omega) _,S1.out.bel.setCell (p:=⟨w.heap.size+1,5+j * 5,none⟩) (Nat.le_succ _) _⟩;rw[←nK_set rd wx j hlt];exact S1.out.a.store _ _)
   go_wp2_with fail
   go_roundw
   case rel=>exact⟨j+1,hlt,by go_num,S2.out⟩
   case measure=>simp[intOf];omega
  ·obtain rfl:j=4:=by omega
   clear hlt;have FS:=hid (sv_size (nK rd wx 4) rfl);have F1:=hid (sv_one (nK rd wx 4));have A1:=hid S1.out.a;have Z1:=hid S1.out.z;have Z2:=hid (S1.out.z.setRow (sv (nK rd wx 4)));have B2:=hid (below_setRow S1.out.bel (Nat.le_refl _) (sv (nK rd wx 4)).toArray)
   go_wp2_with (first
    |((with_reducible refine load_blk 46 (.tmp 5) (w.heap.size+1) 46 (sv (nK rd wx 4)) _ rfl rfl ?_ Tryz.underlying46 ?_ ?_ ?_ ?_);exact A1.out;exact rfl;exact FS.out;exact rfl)
    |((with_reducible refine store_blk 46 (.tmp 4) (.tmp 21) w.heap.size 46 [.int .i64 0,.slice none 0 0,.slice none 0 0,.int .i64 0,.int .i64 0,.int .i64 0,.int .i64 0,.int .i64 0,.slice none 0 0,.bool false,.int .i64 0,.int .i64 0,.int .i64 0,.slice none 0 0,.bool false,.int .i64 0,.int .i64 0,.int .i64 0,.slice none 0 0,.bool false,.int .i64 0,.int .i64 0,.int .i64 0,.slice none 0 0,.bool false] (sv (nK rd wx 4)) rfl rfl ?_ ?_ ?_ ?_ ?_ ?_ ?_);exact Z1.out;exact rfl;exact FS.out;exact F1.out;exact rfl;exact rfl))
   exact ret_blk (p:=4) (ty:=46) rfl rfl w.heap.size 46 _ _ rfl Z2.out Tryz.underlying46 rfl FS.out ⟨rfl,B2.out⟩
theorem rowl_take {α:Type} {w:World} {p:Option Addr} {sz:Nat} {f:α→List Value} {l:List α} (h:RowL w p sz f l) (k:Nat):RowL w p sz f (l.take k):=λj x hx=>h j x (by
 rw[List.getElem?_take] at hx
 split at hx
 ·exact hx
 ·cases hx)
theorem rowl_drop {α:Type} {w:World} {p p2:Option Addr} {sz n k:Nat} {f:α→List Value} {l:List α} (h:RowL w p sz f l) (hl:l.length=n) (hp:k<n→∀ g off,p=some ⟨g,off,none⟩→p2=some ⟨g,off+k * sz,none⟩):RowL w p2 sz f (l.drop k):=λj x hx=>by
 rw[List.getElem?_drop] at hx;obtain⟨b,o,e,hb,r⟩:=h (k+j) x hx;have hlt:=(List.getElem?_eq_some_iff.1 hx).1;refine⟨b,o+k * sz,hp (by omega) b o e,hb,?_⟩;rw[show o+k * sz+j * sz=o+(k+j) * sz by rw[Nat.add_mul,Nat.add_assoc]];exact r
theorem sizeI3:(Tryz.prog.info? 106).map (·.size)=some 3:=by kernel_rfl
set_option maxHeartbeats 1000000 in
theorem refwithout_t (l:List Itv) (p:Option Addr) (n c k:Nat) (w:World) (hl:l.length=n) (hnc:n≤c) (hn:n≤1000) (hk:k<n) (hp:RowL w p 3 iv l):
  Calls Tryz.prog 126 #[.slice p n c,.int .i64 (k:Int)] w λe w'=>∃ q d,e= .returned (.slice q (n-1) d)∧n-1≤d∧w'.ownsRow w.heap.size 106 3 (.slice q (n-1) d) (n-1) ((l.eraseIdx k).flatMap iv)∧Below w.heap.size w w':=by
 have hs1:=slice_highS (P:=Tryz.prog) (t:=39) (e:=106) Tryz.underlying39 sizeI3 p n c .i64 k (by omega);obtain⟨p2,hp2,hs2⟩:=slice_lowS (P:=Tryz.prog) (t:=39) (e:=106) Tryz.underlying39 sizeI3 p n c .i64 (k+1) (by omega) hnc;rw[show((k+1:Nat):Int)=IntKind.i64.wrap ((k:Int)+1) by rw[IntWalk.i64_in _ (by omega)];omega] at hs2;have kB:(k:Int)≤1000:=by omega
 obtain⟨m,hm⟩:∃ m,n- (k+1)=m:=⟨_,rfl⟩;obtain⟨c2,hc2⟩:∃ m,c- (k+1)=m:=⟨_,rfl⟩;rw[hm,hc2] at hs2;have R1:=hid (rowl_take hp k);have R2:=hid (rowl_drop (p2:=p2) hp hl hp2);have L1:=hid (show(l.take k).length=k by rw[List.length_take,hl];omega);have L2:=hid (show(l.drop (k+1)).length=m by rw[List.length_drop,hl];exact hm);have HE:=hid (show(l.take k).flatMap iv++(l.drop (k+1)).flatMap iv=(l.eraseIdx k).flatMap iv by rw[List.eraseIdx_eq_take_drop_succ,List.flatMap_append]);have HM:=hid (show k+m=n-1 by omega);have HN:=hid hn;clear hp hl hp2 hm hc2 hnc hk hn
 go_enter Tryz.func126,Tryz.ntmps126
 go_upto_region 1 with(fail)
 obtain⟨U,hU⟩:∃ U,w.drew=U:=⟨_,rfl⟩;have BU:=hid (show Below w.heap.size w U from by rw[←hU];exact(Below.refl _ _).drew);refine wp_region_E (λ_=>True) (λ_=>false) (by kernel_rfl) ?_;change wpAnyE _ _ _ _ _ _ _ _ _ w.drew;rw[hU];clear hU;have tt:=True.intro;refine tkea9 1 tt ?_;refine tkea9 2 tt ?_;refine tkea9 3 tt ?_;refine tkea9 5 tt ?_;refine tkea9 6 tt ?_;refine tkea9 7 tt ?_;refine tkea9 8 tt ?_;refine wpAnyE_one (i:=0) (by kernel_rfl) rfl (by kernel_rfl) (λK hK=>?_);go_simp;have BA:=hid ((Below.refl U.heap.size U).alloc (Nat.le_refl _) (.cells #[] 106));have EM:=hid (own_empty0 U 106 3 U.heap.size (Nat.le_refl _));refine hK.out _ _ (.inr trivial) ?_;clear hK K;have R1a:=hid ((R1.out.below BU.out).below BA.out);have R2a:=hid ((R2.out.below BU.out).below BA.out);have HB:=hid BA.out.size;refine wpAnyE_one (i:=4) (by kernel_rfl) rfl (by kernel_rfl) (λK hK=>?_);refine wp_append_rows (.tmp 5) (.tmp 8) 39 ?_ 106 Tryz.underlying39 infoI rfl (by decide) (by decide) iv_len iv_one U.heap.size (.slice (some ⟨U.heap.size,0,none⟩) 0 0) 0 [] ?_ EM.out p k c ?_ (l.take k) L1.out R1a.out (by have:=HM.out;have:=HN.out;omega) HB.out ?_
 ·rfl
 ·go_simp
 ·go_simp
 intro v1 w5 h2 h3 h5 h6;have O1:=hid (show w5.ownsRow U.heap.size 106 3 v1 k ((l.take k).flatMap iv) from by have:=h2.out;rwa [Nat.zero_add,List.nil_append] at this);have B5:=hid (BA.out.grown h3.out BA.out.size (λk e=>(EM.out.lt k e).1));have R2b:=hid ((R2.out.below BU.out).below B5.out);have HB5:=hid B5.out.size;refine hK.out _ _ (.inr trivial) ?_;clear hK K h2 h3 h5 h6 R1a R2a HB EM BA R1 R2;refine wpAnyE_one (i:=9) (by kernel_rfl) rfl (by kernel_rfl) (λK hK=>?_);refine wp_append_rows (.tmp 9) (.tmp 13) 39 ?_ 106 Tryz.underlying39 infoI rfl (by decide) (by decide) iv_len iv_one U.heap.size v1 k ((l.take k).flatMap iv) ?_ O1.out p2 m c2 ?_ (l.drop (k+1)) L2.out R2b.out (by have:=HM.out;have:=HN.out;omega) HB5.out ?_
 ·rfl
 ·go_simp
 ·go_simp
 intro v2 w6 h2 h3 h5 h6;have O2:=hid (show w6.ownsRow U.heap.size 106 3 v2 (n-1) ((l.eraseIdx k).flatMap iv) from by have:=h2.out;rwa [HE.out,HM.out] at this);have B6:=hid (B5.out.grown h3.out B5.out.size (λk e=>(O1.out.lt k e).1));obtain⟨q9,c9,hv,hc9⟩:=own_form O2.out;subst hv;have HC9:=hid hc9;refine hK.out _ _ (.inr trivial) ?_;clear hK K h2 h3 h5 h6 O1 B5 R2b HB5 hc9;refine wpAnyE_one (i:=10) (by kernel_rfl) rfl (by kernel_rfl) (λK hK=>?_);go_simp;refine hK.out _ _ (.inr trivial) ?_;clear hK K;refine wpAnyE_done (by kernel_rfl) ?_ _;go_simp;go_wp2_with fail
 go_ret;exact⟨q9,c9,rfl,HC9.out,own_base O2.out (λb hb=>Nat.le_trans BU.out.size (O2.out.lt b hb).1),BU.out.trans (B6.out.mono BU.out.size)⟩
set_option maxHeartbeats 2000000 in
theorem gFirstR_t (x:Gv) (w:World) (h:GvW w x) (hc:GvC x):
  Calls Tryz.prog 26 #[.agg (gv x).toArray] w λe w'=>∃ y:Spv,e= .returned (.agg (sv y).toArray)∧y.sp=begS x∧YS w.heap.size w' y∧Below w.heap.size w w':=by
 have S0:=hid (show BG9 w ((w.alloc (.cells (gv x).toArray 25)).alloc (.cells (sv (gsp 0 0 0)).toArray 46)) x from
  ⟨(GB9.new h).below ((Below.refl _ _).alloc (Nat.le_refl _) _),Blk.new2 w (.cells (gv x).toArray 25) 46 (sv (gsp 0 0 0))⟩)
 have HC:=hid hc;have FG:=hid (gv_size x);have FZ:=hid (sv_size (gsp 0 0 0) rfl);have FZO:=hid (sv_one (gsp 0 0 0));obtain⟨rb,hrb⟩:∃ b,begB x=b:=⟨_,rfl⟩;obtain⟨rs,hrs⟩:∃ b,begS x=b:=⟨_,rfl⟩;have RS:=hid (show rs=if rb then(if x.st.length=0 then newS x.rd x.wr else gotS x.st) else(gsp 0 0 0).sp from by rw[←hrs,←hrb];rfl);have HB:=hid hrb;rw[hrs];clear h hc hrs hrb
 go_enter Tryz.func26,Tryz.ntmps26
 go_upto_region 1 with(fail)
 refine world_at (λY=>BG9 w Y x) S0.out ?_
 rintro V s1
 have S1:=hid s1;clear s1 S0;have MT:=hid (gMayR_t x V S1.out.gb.rx HC.out);rw[HB.out] at MT;have GA:=hid S1.out.gb.a
 go_wp2_with ((with_reducible refine load_blk 25 (.tmp 1) w.heap.size 25 (gv x) _ rfl rfl ?_ Tryz.underlying25 ?_ ?_ ?_ ?_);exact GA.out;exact rfl;exact FG.out;exact rfl)
 refine MT.out.mono ?_
 rintro e w2 ⟨rfl,b1⟩
 have S2:=hid (S1.out.below b1);clear S1 MT b1 GA
 cases rb with
 |false=>
  have HRS:=hid (show(gsp 0 0 0).sp=rs from by rw[RS.out];rfl);have RES:=hid S2.out.res;have RZ:=hid (S2.out.res.setRow (sv (gsp 0 0 0)));have BF:=hid (below_setRow S2.out.gb.bel (g:=w.heap.size+1) (by omega) (sv (gsp 0 0 0)).toArray);have BZ:=built_zsp;clear RS
  go_wp2_with ((with_reducible refine at_op (.store 46 (.tmp 2) (.tmp 8)) rfl ?_);go_must (refine store_blk 46 (.tmp 2) (.tmp 8) (w.heap.size+1) 46 _ (sv (gsp 0 0 0)) rfl rfl RES.out rfl FZ.out FZO.out rfl rfl ?_))
  exact ret_blk (p:=2) (ty:=46) rfl rfl (w.heap.size+1) 46 _ _ rfl RZ.out Tryz.underlying46 rfl FZ.out ⟨gsp 0 0 0,rfl,HRS.out,ys_gz _ _,BF.out⟩
 |true=>
 obtain⟨_,c1,c2,_,c4⟩:=gv_cells S2.out.gb.a
 by_cases h0:x.st.length=0
 ·have e0:((x.st.length:Int) == 0)=true:=by rw[h0];rfl
  have HS:=hid (show newS x.rd x.wr=rs from by rw[RS.out,if_pos rfl,if_pos h0]);clear RS h0;go_wp2_with fail
  refine(refNew_t x.rd x.wr w2).mono ?_
  rintro e w3 ⟨rfl,bw3⟩
  have S3:=hid (S2.out.below bw3);clear S2 bw3 c1 c2 c4 e0;have RES:=hid S3.out.res;have RZ:=hid (S3.out.res.setRow (sv (nsp x.rd x.wr 0 1 2 3)));have BF:=hid (below_setRow S3.out.gb.bel (g:=w.heap.size+1) (by omega) (sv (nsp x.rd x.wr 0 1 2 3)).toArray);have FX:=hid (sv_size (nsp x.rd x.wr 0 1 2 3) rfl);have FXO:=hid (sv_one (nsp x.rd x.wr 0 1 2 3));have SLX:=hid (show(sv (gsp 0 0 0)).length=(sv (nsp x.rd x.wr 0 1 2 3)).length from(sv_len _ rfl).trans (sv_len (nsp x.rd x.wr 0 1 2 3) rfl).symm)
  go_wp2_with ((with_reducible refine at_op (.store 46 (.tmp 2) (.tmp 17)) rfl ?_);go_must (refine store_blk 46 (.tmp 2) (.tmp 17) (w.heap.size+1) 46 _ (sv (nsp x.rd x.wr 0 1 2 3)) rfl rfl RES.out SLX.out FX.out FXO.out rfl rfl ?_))
  exact ret_blk (p:=2) (ty:=46) rfl rfl (w.heap.size+1) 46 _ _ rfl RZ.out Tryz.underlying46 rfl FX.out ⟨nsp x.rd x.wr 0 1 2 3,rfl,(nsp_sp _ _).trans HS.out,ys_nz _ _ _ _,BF.out⟩
 ·have e0:((x.st.length:Int) == 0)=false:=by rw[beq_eq_false_iff_ne];omega
  have HLW:=hid S2.out.gb.bel.size;have HS:=hid (show gotS x.st=rs from by rw[RS.out,if_pos rfl,if_neg h0]);have OK:=hid (show okS x.st=true from by
   have h:stB x=true:=by
    have hb:=HB.out;unfold begB at hb;simp only[Bool.and_eq_true] at hb;exact hb.2.2.2.2
   unfold stB stQ at h;rw[decide_eq_false h0,Bool.false_or] at h;simp only[Bool.and_eq_true] at h;exact h.1)
  have SGT:=hid (refGetS_t x.st x.sp x.st.length x.sc w2 rfl S2.out.gb.rx.sc S2.out.gb.rx.st S2.out.gb.rx.sb S2.out.gb.rx.sl);clear RS h0;go_wp2_with fail
  refine SGT.out.mono ?_
  rintro e w3 ⟨bw3,hh⟩
  obtain⟨y,hy,rfl,yy⟩:∃ y:Spv,y.sp=gotS x.st∧e= .returned (.tuple #[.agg (sv y).toArray,.int .i64 0])∧YS w2.heap.size w3 y:=by
   rcases hh with⟨h1,_⟩ |⟨_,y,h1,h2,h3⟩
   ·rw[OK.out] at h1;cases h1
   ·exact⟨y,h1,h2,h3⟩
  have S3:=hid (S2.out.below bw3);have HY:=hid (hy.trans HS.out);have yy:=yy.low HLW.out;have wy:=yy.w;clear S2 bw3 SGT c1 c2 c4 e0 hh hy OK HS;have FX_y:=hid (sv_size y wy.l4);have FO_y:=hid (sv_one y);have SL_y:=hid (sv_len y wy.l4);have Z_y:=hid (Blk.new w3 46 [.int .i64 0,.slice none 0 0,.slice none 0 0,.int .i64 0,.int .i64 0,.int .i64 0,.int .i64 0,.int .i64 0,.slice none 0 0,.bool false,.int .i64 0,.int .i64 0,.int .i64 0,.slice none 0 0,.bool false,.int .i64 0,.int .i64 0,.int .i64 0,.slice none 0 0,.bool false,.int .i64 0,.int .i64 0,.int .i64 0,.slice none 0 0,.bool false]);have KN_y:=hid (KSp.new (w1:=w3) (x:=y) wy)
  go_upto_region 6 with((with_reducible refine at_op (.store 46 (.tmp 3) (.tmp 22)) rfl ?_);go_must (refine store_blk 46 (.tmp 3) (.tmp 22) (w3).heap.size 46 _ (sv y) rfl rfl Z_y.out SL_y.out.symm FX_y.out FO_y.out rfl rfl ?_))
  obtain⟨V3,hV3⟩:∃ V,((w3).alloc (.cells #[.int .i64 0,.slice none 0 0,.slice none 0 0,.int .i64 0,.int .i64 0,.int .i64 0,.int .i64 0,.int .i64 0,.slice none 0 0,.bool false,.int .i64 0,.int .i64 0,.int .i64 0,.slice none 0 0,.bool false,.int .i64 0,.int .i64 0,.int .i64 0,.slice none 0 0,.bool false,.int .i64 0,.int .i64 0,.int .i64 0,.slice none 0 0,.bool false] 46)).setRow (w3).heap.size (sv y).toArray=V:=⟨_,rfl⟩;rw[hV3] at KN_y ⊢;have K_y:=hid KN_y.out.1;have B_y:=hid KN_y.out.2;clear hV3 KN_y Z_y FO_y SL_y;have S4:=hid (S3.out.below B_y.out);have YY:=hid (yy.below B_y.out);obtain⟨g4,hg4⟩:∃ g,w3.heap.size=g:=⟨_,rfl⟩;rw[hg4] at K_y ⊢;clear S3 B_y wy yy hg4;have RES:=hid S4.out.res;have RZ:=hid (S4.out.res.setRow (sv y));have BF:=hid (below_setRow S4.out.gb.bel (g:=w.heap.size+1) (by omega) (sv y).toArray);have FX:=hid (sv_size y YY.out.l4);have FXO:=hid (sv_one y);have SLX:=hid (show(sv (gsp 0 0 0)).length=(sv y).length from(sv_len _ rfl).trans (sv_len y YY.out.l4).symm);have KW:=hid (YY.out.kept ((Kept.refl (λk=>k=w.heap.size+1) V3).setRowK (.inl rfl) (sv y).toArray) S4.out.res)
  go_wp2_with (first
   |((with_reducible refine load_blk 46 (.tmp 3) g4 46 (sv y) _ rfl rfl ?_ Tryz.underlying46 ?_ ?_ ?_ ?_);exact K_y.out.box;exact rfl;exact FX_y.out;exact rfl)
   |((with_reducible refine at_op (.store 46 (.tmp 2) (.tmp 24)) rfl ?_);go_must (refine store_blk 46 (.tmp 2) (.tmp 24) (w.heap.size+1) 46 _ (sv y) rfl rfl RES.out SLX.out FX.out FXO.out rfl rfl ?_)))
  exact ret_blk (p:=2) (ty:=46) rfl rfl (w.heap.size+1) 46 _ _ rfl RZ.out Tryz.underlying46 rfl FX.out ⟨y,rfl,HY.out,KW.out,BF.out⟩
set_option maxHeartbeats 1000000 in
theorem gLinkR_no (x:Gv) (w:World) (h:GvW w x) (hc:GvC x) (hm:begB x=false):
  Calls Tryz.prog 23 #[.agg (gv x).toArray] w λe w'=>e= .returned (.agg (u8s zH).toArray)∧Below w.heap.size w w':=by
 have S0:=hid (HG9.new h);have HC:=hid hc;have FG:=hid (gv_size x);have HM:=hid hm;clear h hc hm
 go_enter Tryz.func23,Tryz.ntmps23
 go_upto_region 1 with(fail)
 refine world_at (λY=>HG9 w Y x zH) S0.out ?_
 rintro V s1
 have S1:=hid s1;clear s1 S0;have MT:=hid (gMayR_t x V S1.out.gb.rx HC.out);rw[HM.out] at MT;have GA:=hid S1.out.gb.a
 go_wp2_with ((with_reducible refine load_blk 25 (.tmp 1) w.heap.size 25 (gv x) _ rfl rfl ?_ Tryz.underlying25 ?_ ?_ ?_ ?_);exact GA.out;exact rfl;exact FG.out;exact rfl)
 refine MT.out.mono ?_
 rintro e w1 ⟨rfl,b1⟩
 have S2:=hid (S1.out.below b1);clear S1 MT b1 GA;have RES:=hid S2.out.res;have RZ:=hid (S2.out.res.setRow (u8s zH));have BF:=hid (below_setRow S2.out.gb.bel (g:=w.heap.size+1) (by omega) (u8s zH).toArray);have BZ:=built_hz;have FZ:=hid (hash_size zH rfl)
 go_wp2_with ((with_reducible refine at_op (.store 36 (.tmp 2) (.tmp 8)) rfl ?_);go_must (refine store_blk 36 (.tmp 2) (.tmp 8) (w.heap.size+1) 36 (u8s zH) (u8s zH) rfl rfl RES.out rfl FZ.out (u8s_oneD _) rfl rfl ?_))
 exact ret_blk (p:=2) (ty:=36) rfl rfl (w.heap.size+1) 36 _ _ rfl RZ.out Tryz.underlying36 rfl FZ.out ⟨rfl,BF.out⟩
end Go.Proofs.YtlipjglehongeaaGreatDoor
