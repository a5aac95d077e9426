/-
  THE REFERENCE
-/
import Derived.Test.YtjlophplcmidlaaGreatDoorAd24
open Go.Lib (hid)
set_option maxRecDepth 100000
namespace Go.Proofs.YtjlophplcmidlaaGreatDoor
open Go Go.RowKit Sh
theorem reflast_t (x:Rpv) (c:Int) (w:World) (h:TR w x.p x.r.t):Calls Tryz.prog 130 #[.agg (pv x).toArray,.int .i64 c] w λe w'=>e= .returned (.bool ((x.r.cl == c) && rpB x.r))∧Below w.heap.size w w':=by
 obtain⟨⟨cl,sq,kd,t,lt⟩,p,cc⟩:=x;have B0:=hid (Blk.new w 77 (pv ⟨⟨cl,sq,kd,t,lt⟩,p,cc⟩));have BW:=hid ((Below.refl w.heap.size w).alloc (Nat.le_refl _) (.cells (pv ⟨⟨cl,sq,kd,t,lt⟩,p,cc⟩).toArray 77));have MT:=hid (refmayV_t t.length cc p (gl t) _ h.n (h.below BW.out).t);have hf:rpB ⟨cl,sq,kd,t,lt⟩=if sq=0 then(kd == 0) && (decide (t.length=0) && !lt) else if sq<0∨1073741824<sq then false else if kd=2 then vT t else decide (1≤kd) && (decide (kd≤6) && (decide (t.length=0) && !lt)):=by unfold rpB;simp only[isEmpty_dec]
 obtain⟨c0,c1,c2,c3,c4⟩:=pv_cells B0.out
 dsimp only at c0 c1 c2 c3 c4
 show Calls _ _ _ _ λe w'=>e= .returned (.bool ((cl == c) && rpB ⟨cl,sq,kd,t,lt⟩))∧Below w.heap.size w w'
 rw[hf];change Hid (Calls _ _ _ _ λe w'=>e= .returned (.bool (vT t))∧_) at MT;obtain⟨vb,hvb⟩:∃ b,vT t=b:=⟨_,rfl⟩;rw[hvb] at MT ⊢;obtain⟨n,hn⟩:∃ n,t.length=n:=⟨_,rfl⟩;rw[hn] at MT c3 ⊢;obtain⟨xs,hx⟩:∃ l,pv ⟨⟨cl,sq,kd,t,lt⟩,p,cc⟩=l:=⟨_,rfl⟩;rw[hx] at B0 BW MT c0 c1 c2 c3 c4 ⊢;clear hf hvb hn hx h B0
 cases hc:(cl == c) with
 |false=>
  rw[Bool.false_and];have e9:(cl != c)=true:=by rw[bne,hc];rfl
  clear MT
  go_enter Tryz.func130,Tryz.ntmps130
  go_wp2_with fail
  go_ret;exact⟨rfl,BW.out⟩
 |true=>
 rw[Bool.true_and];have e9:(cl != c)=false:=by rw[bne,hc];rfl
 clear hc
 by_cases s0:sq=0
 ·subst s0;rw[if_pos rfl];clear MT
  by_cases k0:kd=0
  ·subst k0
   by_cases n0:n=0
   ·subst n0
    go_enter Tryz.func130,Tryz.ntmps130
    go_wp2_with fail
    go_ret;exact⟨by simp,BW.out⟩
   ·have e1:((n:Int) == 0)=false:=by rw[beq_eq_false_iff_ne];omega
    go_enter Tryz.func130,Tryz.ntmps130
    go_wp2_with fail
    go_ret;exact⟨by simp[n0],BW.out⟩
  ·have e1:(kd == 0)=false:=by rw[beq_eq_false_iff_ne];exact k0
   go_enter Tryz.func130,Tryz.ntmps130
   go_wp2_with fail
   go_ret;exact⟨by simp[e1],BW.out⟩
 ·have e0:(sq == 0)=false:=by rw[beq_eq_false_iff_ne];exact s0
  rw[if_neg s0]
  by_cases s1:sq<0
  ·rw[if_pos (.inl s1)];clear MT
   go_enter Tryz.func130,Tryz.ntmps130
   go_wp2_with fail
   go_ret;exact⟨rfl,BW.out⟩
  ·by_cases s2:1073741824<sq
   ·rw[if_pos (.inr s2)];clear MT;have s3:0≤sq:=by omega
    go_enter Tryz.func130,Tryz.ntmps130
    go_wp2_with fail
    go_ret;exact⟨rfl,BW.out⟩
   ·rw[if_neg (by omega)];have s3:0≤sq:=by omega
    have s4:sq≤1073741824:=by omega
    clear s1 s2
    by_cases k2:kd=2
    ·subst k2;rw[if_pos rfl]
     go_enter Tryz.func130,Tryz.ntmps130
     go_wp2_with fail
     refine MT.out.mono ?_
     rintro e w2 ⟨rfl,b2⟩
     go_wp2_with fail
     go_ret;exact⟨rfl,BW.out.trans (b2.mono BW.out.size)⟩
    ·rw[if_neg k2];have e2:(kd == 2)=false:=by rw[beq_eq_false_iff_ne];exact k2
     clear MT
     by_cases k1:1≤kd
     ·by_cases k6:kd≤6
      ·rw[decide_eq_true k1,decide_eq_true k6,Bool.true_and,Bool.true_and]
       by_cases n0:n=0
       ·subst n0
        go_enter Tryz.func130,Tryz.ntmps130
        go_wp2_with fail
        go_ret;exact⟨by simp,BW.out⟩
       ·have e1:((n:Int) == 0)=false:=by rw[beq_eq_false_iff_ne];omega
        go_enter Tryz.func130,Tryz.ntmps130
        go_wp2_with fail
        go_ret;exact⟨by simp[n0],BW.out⟩
      ·rw[decide_eq_true k1,decide_eq_false k6,Bool.true_and,Bool.false_and];have k7:6<kd:=by omega
       go_enter Tryz.func130,Tryz.ntmps130
       go_wp2_with fail
       go_ret;exact⟨rfl,BW.out⟩
     ·rw[decide_eq_false k1,Bool.false_and];have k7:kd<1:=by omega
      go_enter Tryz.func130,Tryz.ntmps130
      go_wp2_with fail
      go_ret;exact⟨rfl,BW.out⟩
theorem may_no {s:Sp} (h:¬ MayS s):spMay s=false:=by
 cases e:spMay s with
 |false=>rfl
 |true=>exact absurd (mayS_iff.1 e) h
theorem MayS.of {s:Sp} (h0:0≤s.now) (h1:s.now≤1099511627776) (h2:0≤s.rd) (h3:s.rd≤15) (h4:0≤s.wr) (h5:s.wr≤15) (h6:s.its.length≤64) (h7:s.wts.length≤16)
  (hi:∀ y∈s.its,itB s.now y=true∧ownN y.own s.its≤24) (hw:∀ y∈s.wts,wtB y=true) (hl:∀ (j:Nat) (y:Rp),s.last[j]? =some y→y.cl=(j:Int)∧rpB y=true):MayS s:=
 ⟨h0,h1,by unfold alB;rw[decide_eq_true h2,decide_eq_true h3];rfl,by unfold alB;rw[decide_eq_true h4,decide_eq_true h5];rfl,h6,λy hy=>(hi y hy).1,few_own.1 (List.all_eq_true.2 λy hy=>decide_eq_true (hi y hy).2),h7,hw,hl⟩
theorem sv_cut {x:Spv} {j:Nat} {y:Rpv} (hy:x.last[j]? =some y):∃ A C,sv x=A++(pv y++C)∧A.length=5+j * 5:=by
 have hj:j<x.last.length:=(List.getElem?_eq_some_iff.1 hy).1;have e:x.last=x.last.take j++y::x.last.drop (j+1):=by
  have h1:x.last[j]=y:=(List.getElem?_eq_some_iff.1 hy).2;rw[←h1,←List.drop_eq_getElem_cons hj,List.take_append_drop]
 refine⟨svA x++(x.last.take j).flatMap pv,(x.last.drop (j+1)).flatMap pv,?_,?_⟩
 ·rw[sv_split,List.append_nil]
  conv=>lhs;rw[e]
  rw[List.flatMap_append,List.flatMap_cons];simp only[List.append_assoc]
 ·rw[List.length_append,flat_length pv_len,List.length_take,Nat.min_eq_left (by omega)];rfl
theorem alB_h {z:Int} (h:alB z=true):0≤z∧z≤15:=by simpa [alB] using h
set_option maxHeartbeats 4000000 in
theorem refMaySpace_t (x:Spv) (w:World) (hx:SpW w x):
  Calls Tryz.prog 91 #[.agg (sv x).toArray] w λe w'=>e= .returned (.bool (spMay x.sp))∧Below w.heap.size w w':=by
 have S0:=hid (SB.new hx);have NO:=hid (λh=>may_no (s:=x.sp) h);have YES:=hid (λh=>mayS_iff (s:=x.sp).2 h);obtain⟨r,hr⟩:∃ r,spMay x.sp=r:=⟨_,rfl⟩;rw[hr] at NO YES ⊢;have HN:=hid (And.intro hx.n hx.m);obtain⟨n,hn⟩:∃ n,x.its.length=n:=⟨_,rfl⟩;obtain⟨m,hm⟩:∃ n,x.wts.length=n:=⟨_,rfl⟩;have HI:=hid hn;have HW:=hid hm;clear hr hx hn hm
 by_cases h1:x.now<0
 ·skip
  have hR:=NO.out λh=>by have h1:=h.n0;have h2:=h.n1;have h3:=alB_h h.rd;have h4:=alB_h h.wr;have h5:=h.il;have h6:=h.wl;have h7:=HI.out;have h8:=HW.out;simp only[Spv.sp] at h1 h2 h3 h4 h5 h6;rw[List.length_map] at h5 h6;omega
  subst hR;clear NO YES
  go_enter Tryz.func91,Tryz.ntmps91
  go_upto_region 1 with(fail)
  change Code.wp _ _ _ _ (w.alloc (.cells (sv x).toArray 80));obtain⟨V,hV⟩:∃ V,w.alloc (.cells (sv x).toArray 80)=V:=⟨_,rfl⟩;rw[hV] at S0 ⊢;clear hV;obtain⟨c0,c1,c2,c3,c4⟩:=sv_cells S0.out.a;rw[HI.out] at c1;rw[HW.out] at c2;go_wp2_with fail
  go_ret;exact⟨rfl,S0.out.bel⟩
 by_cases h2:1099511627776<x.now
 ·have g1:0≤x.now:=by omega
  have hR:=NO.out λh=>by have h1:=h.n0;have h2:=h.n1;have h3:=alB_h h.rd;have h4:=alB_h h.wr;have h5:=h.il;have h6:=h.wl;have h7:=HI.out;have h8:=HW.out;simp only[Spv.sp] at h1 h2 h3 h4 h5 h6;rw[List.length_map] at h5 h6;omega
  subst hR;clear NO YES
  go_enter Tryz.func91,Tryz.ntmps91
  go_upto_region 1 with(fail)
  change Code.wp _ _ _ _ (w.alloc (.cells (sv x).toArray 80));obtain⟨V,hV⟩:∃ V,w.alloc (.cells (sv x).toArray 80)=V:=⟨_,rfl⟩;rw[hV] at S0 ⊢;clear hV;obtain⟨c0,c1,c2,c3,c4⟩:=sv_cells S0.out.a;rw[HI.out] at c1;rw[HW.out] at c2;go_wp2_with fail
  go_ret;exact⟨rfl,S0.out.bel⟩
 by_cases h3:(64:Int)< (n:Int)
 ·have g1:0≤x.now:=by omega
  have g2:x.now≤1099511627776:=by omega
  have hR:=NO.out λh=>by have h1:=h.n0;have h2:=h.n1;have h3:=alB_h h.rd;have h4:=alB_h h.wr;have h5:=h.il;have h6:=h.wl;have h7:=HI.out;have h8:=HW.out;simp only[Spv.sp] at h1 h2 h3 h4 h5 h6;rw[List.length_map] at h5 h6;omega
  subst hR;clear NO YES
  go_enter Tryz.func91,Tryz.ntmps91
  go_upto_region 1 with(fail)
  change Code.wp _ _ _ _ (w.alloc (.cells (sv x).toArray 80));obtain⟨V,hV⟩:∃ V,w.alloc (.cells (sv x).toArray 80)=V:=⟨_,rfl⟩;rw[hV] at S0 ⊢;clear hV;obtain⟨c0,c1,c2,c3,c4⟩:=sv_cells S0.out.a;rw[HI.out] at c1;rw[HW.out] at c2;go_wp2_with fail
  go_ret;exact⟨rfl,S0.out.bel⟩
 by_cases h4:(16:Int)< (m:Int)
 ·have g1:0≤x.now:=by omega
  have g2:x.now≤1099511627776:=by omega
  have g3:(n:Int)≤64:=by omega
  have hR:=NO.out λh=>by have h1:=h.n0;have h2:=h.n1;have h3:=alB_h h.rd;have h4:=alB_h h.wr;have h5:=h.il;have h6:=h.wl;have h7:=HI.out;have h8:=HW.out;simp only[Spv.sp] at h1 h2 h3 h4 h5 h6;rw[List.length_map] at h5 h6;omega
  subst hR;clear NO YES
  go_enter Tryz.func91,Tryz.ntmps91
  go_upto_region 1 with(fail)
  change Code.wp _ _ _ _ (w.alloc (.cells (sv x).toArray 80));obtain⟨V,hV⟩:∃ V,w.alloc (.cells (sv x).toArray 80)=V:=⟨_,rfl⟩;rw[hV] at S0 ⊢;clear hV;obtain⟨c0,c1,c2,c3,c4⟩:=sv_cells S0.out.a;rw[HI.out] at c1;rw[HW.out] at c2;go_wp2_with fail
  go_ret;exact⟨rfl,S0.out.bel⟩
 by_cases h5:x.rd<0
 ·have g1:0≤x.now:=by omega
  have g2:x.now≤1099511627776:=by omega
  have g3:(n:Int)≤64:=by omega
  have g4:(m:Int)≤16:=by omega
  have hR:=NO.out λh=>by have h1:=h.n0;have h2:=h.n1;have h3:=alB_h h.rd;have h4:=alB_h h.wr;have h5:=h.il;have h6:=h.wl;have h7:=HI.out;have h8:=HW.out;simp only[Spv.sp] at h1 h2 h3 h4 h5 h6;rw[List.length_map] at h5 h6;omega
  subst hR;clear NO YES
  go_enter Tryz.func91,Tryz.ntmps91
  go_upto_region 1 with(fail)
  change Code.wp _ _ _ _ (w.alloc (.cells (sv x).toArray 80));obtain⟨V,hV⟩:∃ V,w.alloc (.cells (sv x).toArray 80)=V:=⟨_,rfl⟩;rw[hV] at S0 ⊢;clear hV;obtain⟨c0,c1,c2,c3,c4⟩:=sv_cells S0.out.a;rw[HI.out] at c1;rw[HW.out] at c2;go_wp2_with fail
  go_ret;exact⟨rfl,S0.out.bel⟩
 by_cases h6:15<x.rd
 ·have g1:0≤x.now:=by omega
  have g2:x.now≤1099511627776:=by omega
  have g3:(n:Int)≤64:=by omega
  have g4:(m:Int)≤16:=by omega
  have g5:0≤x.rd:=by omega
  have hR:=NO.out λh=>by have h1:=h.n0;have h2:=h.n1;have h3:=alB_h h.rd;have h4:=alB_h h.wr;have h5:=h.il;have h6:=h.wl;have h7:=HI.out;have h8:=HW.out;simp only[Spv.sp] at h1 h2 h3 h4 h5 h6;rw[List.length_map] at h5 h6;omega
  subst hR;clear NO YES
  go_enter Tryz.func91,Tryz.ntmps91
  go_upto_region 1 with(fail)
  change Code.wp _ _ _ _ (w.alloc (.cells (sv x).toArray 80));obtain⟨V,hV⟩:∃ V,w.alloc (.cells (sv x).toArray 80)=V:=⟨_,rfl⟩;rw[hV] at S0 ⊢;clear hV;obtain⟨c0,c1,c2,c3,c4⟩:=sv_cells S0.out.a;rw[HI.out] at c1;rw[HW.out] at c2;go_wp2_with fail
  go_ret;exact⟨rfl,S0.out.bel⟩
 by_cases h7:x.wr<0
 ·have g1:0≤x.now:=by omega
  have g2:x.now≤1099511627776:=by omega
  have g3:(n:Int)≤64:=by omega
  have g4:(m:Int)≤16:=by omega
  have g5:0≤x.rd:=by omega
  have g6:x.rd≤15:=by omega
  have hR:=NO.out λh=>by have h1:=h.n0;have h2:=h.n1;have h3:=alB_h h.rd;have h4:=alB_h h.wr;have h5:=h.il;have h6:=h.wl;have h7:=HI.out;have h8:=HW.out;simp only[Spv.sp] at h1 h2 h3 h4 h5 h6;rw[List.length_map] at h5 h6;omega
  subst hR;clear NO YES
  go_enter Tryz.func91,Tryz.ntmps91
  go_upto_region 1 with(fail)
  change Code.wp _ _ _ _ (w.alloc (.cells (sv x).toArray 80));obtain⟨V,hV⟩:∃ V,w.alloc (.cells (sv x).toArray 80)=V:=⟨_,rfl⟩;rw[hV] at S0 ⊢;clear hV;obtain⟨c0,c1,c2,c3,c4⟩:=sv_cells S0.out.a;rw[HI.out] at c1;rw[HW.out] at c2;go_wp2_with fail
  go_ret;exact⟨rfl,S0.out.bel⟩
 by_cases h8:15<x.wr
 ·have g1:0≤x.now:=by omega
  have g2:x.now≤1099511627776:=by omega
  have g3:(n:Int)≤64:=by omega
  have g4:(m:Int)≤16:=by omega
  have g5:0≤x.rd:=by omega
  have g6:x.rd≤15:=by omega
  have g7:0≤x.wr:=by omega
  have hR:=NO.out λh=>by have h1:=h.n0;have h2:=h.n1;have h3:=alB_h h.rd;have h4:=alB_h h.wr;have h5:=h.il;have h6:=h.wl;have h7:=HI.out;have h8:=HW.out;simp only[Spv.sp] at h1 h2 h3 h4 h5 h6;rw[List.length_map] at h5 h6;omega
  subst hR;clear NO YES
  go_enter Tryz.func91,Tryz.ntmps91
  go_upto_region 1 with(fail)
  change Code.wp _ _ _ _ (w.alloc (.cells (sv x).toArray 80));obtain⟨V,hV⟩:∃ V,w.alloc (.cells (sv x).toArray 80)=V:=⟨_,rfl⟩;rw[hV] at S0 ⊢;clear hV;obtain⟨c0,c1,c2,c3,c4⟩:=sv_cells S0.out.a;rw[HI.out] at c1;rw[HW.out] at c2;go_wp2_with fail
  go_ret;exact⟨rfl,S0.out.bel⟩
 have g1:0≤x.now:=by omega
 have g2:x.now≤1099511627776:=by omega
 have g3:(n:Int)≤64:=by omega
 have g4:(m:Int)≤16:=by omega
 have g5:0≤x.rd:=by omega
 have g6:x.rd≤15:=by omega
 have g7:0≤x.wr:=by omega
 have g8:x.wr≤15:=by omega
 have GG:=hid (And.intro (And.intro g1 g2) (And.intro (And.intro g5 g6) (And.intro g7 g8)));have k1:decide (x.now<0)=false:=decide_eq_false h1;have k2:decide (1099511627776<x.now)=false:=decide_eq_false h2;have k3:decide ((64:Int)< (n:Int))=false:=decide_eq_false h3;have k4:decide ((16:Int)< (m:Int))=false:=decide_eq_false h4;have k5:decide (x.rd<0)=false:=decide_eq_false h5;have k6:decide (15<x.rd)=false:=decide_eq_false h6;have k7:decide (x.wr<0)=false:=decide_eq_false h7;have k8:decide (15<x.wr)=false:=decide_eq_false h8;clear g1 g2 g5 g6 g7 g8;clear h1 h2 h3 h4 h5 h6 h7 h8
 go_enter Tryz.func91,Tryz.ntmps91
 go_upto_region 1 with(fail)
 change Code.wp _ _ _ _ (w.alloc (.cells (sv x).toArray 80));obtain⟨V,hV⟩:∃ V,w.alloc (.cells (sv x).toArray 80)=V:=⟨_,rfl⟩;rw[hV] at S0 ⊢;clear hV;obtain⟨c0,c1,c2,c3,c4⟩:=sv_cells S0.out.a;rw[HI.out] at c1;rw[HW.out] at c2
 go_upto_region 4 with(fail)
 clear c0 c1 c2 c3 c4 k1 k2 k3 k4 k5 k6 k7 k8;obtain⟨ip,hip⟩:∃ p,x.ip=p:=⟨_,rfl⟩;obtain⟨wp,hwp⟩:∃ p,x.wp=p:=⟨_,rfl⟩;have HIP:=hid hip;have HWP:=hid hwp;clear hip hwp
 go_loopw [3] (λt wr=>∃ j:Nat,j≤n∧t= .int .i64 (j:Int)∧SB w wr x∧∀ (i:Nat) (y:Itv),i<j→x.its[i]? =some y→itB x.sp.now y.i=true∧ownN y.i.own x.sp.its≤24) (λt _=>n- (intOf t).toNat)
 case atStart=>exact⟨0,by omega,rfl,S0.out,λi y hi=>absurd hi (by omega)⟩
 case round=>
  clear S0;obtain⟨j,hj,rfl,s0,hb⟩:=hrel;have S0:=hid s0;have HB:=hid hb;clear s0 hb;have c1:=(sv_cells S0.out.a).2.1;rw[HIP.out,HI.out] at c1
  by_cases hlt:j<n
  ·obtain⟨y,hy⟩:∃ y,x.its[j]? =some y:=⟨_,List.getElem?_eq_getElem (by rw[HI.out];exact hlt)⟩;obtain⟨b,o,hpe,hbl,rg⟩:=S0.out.rx.its j y hy;obtain rfl:ip=some ⟨b,o,none⟩:=HIP.out.symm.trans hpe;have RG:=hid rg;have j1:(j:Int)< (n:Int):=by omega
   have FS:=hid (iv_size y);have F1:=hid (iv_oneA y);have A0:=hid (Blk.new wr 133 [.int .i64 0,.int .i64 0,.slice none 0 0]);have A1:=hid (A0.out.setRow (iv y));have W1:=hid (below_setRow ((Below.refl wr.heap.size wr).alloc (Nat.le_refl _) (.cells #[.int .i64 0,.int .i64 0,.slice none 0 0] 133)) (Nat.le_refl _) (iv y).toArray);have HY:=hid hy;have YH:=hid (λh:MayS x.sp=>And.intro (h.it y.i (List.mem_map_of_mem (List.mem_of_getElem? hy))) (h.io y.i.own));have YT:=hid (S0.out.rx.it y (List.mem_of_getElem? hy));clear rg hpe hbl hy
   go_upto_region 7 with(first
    |((with_reducible refine at_op (.load 133 (.tmp 58)) rfl ?_);go_must (refine wpList_load_mid rfl 133 (.tmp 58) rfl b (o+j * 3) rfl (iv y) _ RG.out Tryz.underlying133 rfl FS.out ?_))
    |((with_reducible refine store_blk 133 (.tmp 4) (.tmp 59) wr.heap.size 133 [.int .i64 0,.int .i64 0,.slice none 0 0] (iv y) rfl rfl ?_ ?_ ?_ ?_ ?_ ?_ ?_);exact A0.out;exact rfl;exact FS.out;exact F1.out;exact rfl;exact rfl))
   obtain⟨V2,hV⟩:∃ V,(wr.alloc (.cells #[.int .i64 0,.int .i64 0,.slice none 0 0] 133)).setRow wr.heap.size (iv y).toArray=V:=⟨_,rfl⟩;rw[hV] at A1 W1 ⊢;have S2:=hid (S0.out.below W1.out);have YT2:=hid (YT.out.below W1.out);have MT:=hid (show Calls _ _ _ _ λe w'=>e= .returned (.bool (vT y.i.t))∧_ from refmayV_t y.i.t.length y.c y.p (gl y.i.t) V2 YT2.out.n YT2.out.t);have HIT:=hid (show itB x.sp.now y.i=(clB y.i.own && (lastB y.i.un x.sp.now && vT y.i.t)) from rfl);clear hV A0 RG S0 YT YT2 W1 F1 FS c1;obtain⟨d0,d1,d2⟩:=iv_cells A1.out;obtain⟨c0,c1,c2,c3,c4⟩:=sv_cells S2.out.a;obtain⟨vb,hvb⟩:∃ z,vT y.i.t=z:=⟨_,rfl⟩;rw[hvb] at MT HIT;clear hvb;obtain⟨ow,how⟩:∃ z,y.i.own=z:=⟨_,rfl⟩;have HOW:=hid how;rw[how] at d0 HIT;obtain⟨un,hun⟩:∃ z,y.i.un=z:=⟨_,rfl⟩;rw[hun] at d1 HIT;clear how hun
   by_cases o1:ow<0
   ·have hR:=NO.out λh=>by have h1:=(YH.out h).1;rw[HIT.out] at h1;simp[clB] at h1;omega
    subst hR;clear NO YES;go_wp2_with fail
    go_ret;exact⟨rfl,S2.out.bel⟩
   have o2:0≤ow:=by omega
   by_cases o3:4≤ow
   ·have hR:=NO.out λh=>by have h1:=(YH.out h).1;rw[HIT.out] at h1;simp[clB] at h1;omega
    subst hR;clear NO YES;go_wp2_with fail
    go_ret;exact⟨rfl,S2.out.bel⟩
   have o4:ow<4:=by omega
   have hcl:clB ow=true:=by simp[clB,o2,o4]
   rw[hcl,Bool.true_and] at HIT;have q1:decide (ow<0)=false:=decide_eq_false o1;have q2:decide (4≤ow)=false:=decide_eq_false o3;clear o1 o2 o3 o4 hcl
   by_cases u0:un=0
   ·subst u0;rw[show lastB 0 x.sp.now=true from rfl,Bool.true_and] at HIT;go_wp2_with fail
    refine MT.out.mono ?_
    rintro e w3 ⟨rfl,b3⟩
    have S3:=hid (S2.out.below b3);have A3:=hid (A1.out.below b3 A1.out.lt);have BXS:=hid S3.out.a;have FXS:=hid (sv_size x S3.out.rx.l4);clear b3 MT c0 c1 c2 c3 c4 d0 d1 d2 S2 A1
    cases vb with
    |false=>
     have hR:=NO.out λh=>by have h1:=(YH.out h).1;rw[HIT.out] at h1;simp at h1
     subst hR;clear NO YES;go_wp2_with fail
     go_ret;exact⟨rfl,S3.out.bel⟩
    |true=>
     have OW:=hid (refOwn_t x ow w3 S3.out.rx);obtain⟨d0,d1,d2⟩:=iv_cells A3.out;rw[HOW.out] at d0;obtain⟨cn,hcn⟩:∃ z,ownN ow x.sp.its=z:=⟨_,rfl⟩;rw[hcn] at OW;have HCN:=hid hcn;clear hcn
     go_wp2_with ((with_reducible refine load_blk_gdO 92 80 (.tmp 1) w.heap.size 80 (sv x) _ ?_ ?_ rfl ?_ Tryz.underlying80 ?_ ?_ ?_ ?_);exact rfl;kernel_rfl;exact BXS.out;exact rfl;exact FXS.out;exact rfl)
     refine OW.out.mono ?_
     rintro e w4 ⟨rfl,b4⟩
     have S4:=hid (S3.out.below b4);clear b4 OW S3 A3 d0 d1 d2 BXS FXS
     by_cases hcn:cn≤24
     ·have hc2:decide (24< (cn:Int))=false:=decide_eq_false (by omega);have HB2:=hid (show ∀ (i:Nat) (y:Itv),i<j+1→x.its[i]? =some y→itB x.sp.now y.i=true∧ownN y.i.own x.sp.its≤24 from λi y hi hy=>by
       rcases Nat.lt_or_ge i j with h |h
       ·exact HB.out i y h hy
       ·obtain rfl:i=j:=by omega
        rw[HY.out] at hy;obtain rfl:=Option.some.inj hy;refine⟨by rw[HIT.out],?_⟩;rw[HOW.out,HCN.out];exact hcn)
      go_wp2_with fail
      go_roundw
      case rel=>exact⟨j+1,hlt,by go_num,S4.out,HB2.out⟩
      case measure=>simp[intOf];omega
     ·have hc2:(24:Int)< (cn:Int):=by omega
      have hR:=NO.out λh=>by have h1:=(YH.out h).2;rw[HOW.out,HCN.out] at h1;omega
      subst hR;clear NO YES;go_wp2_with fail
      go_ret;exact⟨rfl,S4.out.bel⟩
   have u1:(un != 0)=true:=by simpa using u0
   by_cases u2:un≤x.now
   ·have hR:=NO.out λh=>by
     have h1:=(YH.out h).1;rw[HIT.out,Bool.and_eq_true] at h1;have h2:=h1.1;have h3:x.sp.now=x.now:=rfl;simp[lastB] at h2;omega
    subst hR;clear NO YES;go_wp2_with fail
    go_ret;exact⟨rfl,S2.out.bel⟩
   have u3:x.now<un:=by omega
   by_cases u4:2199023255552<un
   ·have hR:=NO.out λh=>by
     have h1:=(YH.out h).1;rw[HIT.out,Bool.and_eq_true] at h1;have h2:=h1.1;simp[lastB] at h2;omega
    subst hR;clear NO YES;go_wp2_with fail
    go_ret;exact⟨rfl,S2.out.bel⟩
   have u5:un≤2199023255552:=by omega
   have hla:lastB un x.sp.now=true:=by have h3:x.sp.now=x.now:=rfl;simp[lastB,h3,u3,u5]
   rw[hla,Bool.true_and] at HIT;have q3:decide (un≤x.now)=false:=decide_eq_false u2;have q4:decide (2199023255552<un)=false:=decide_eq_false u4;clear u0 u2 u3 u4 u5 hla;go_wp2_with fail
   refine MT.out.mono ?_
   rintro e w3 ⟨rfl,b3⟩
   have S3:=hid (S2.out.below b3);have A3:=hid (A1.out.below b3 A1.out.lt);have BXS:=hid S3.out.a;have FXS:=hid (sv_size x S3.out.rx.l4);clear b3 MT c0 c1 c2 c3 c4 d0 d1 d2 S2 A1
   cases vb with
   |false=>
    have hR:=NO.out λh=>by have h1:=(YH.out h).1;rw[HIT.out] at h1;simp at h1
    subst hR;clear NO YES;go_wp2_with fail
    go_ret;exact⟨rfl,S3.out.bel⟩
   |true=>
    have OW:=hid (refOwn_t x ow w3 S3.out.rx);obtain⟨d0,d1,d2⟩:=iv_cells A3.out;rw[HOW.out] at d0;obtain⟨cn,hcn⟩:∃ z,ownN ow x.sp.its=z:=⟨_,rfl⟩;rw[hcn] at OW;have HCN:=hid hcn;clear hcn
    go_wp2_with ((with_reducible refine load_blk_gdO 92 80 (.tmp 1) w.heap.size 80 (sv x) _ ?_ ?_ rfl ?_ Tryz.underlying80 ?_ ?_ ?_ ?_);exact rfl;kernel_rfl;exact BXS.out;exact rfl;exact FXS.out;exact rfl)
    refine OW.out.mono ?_
    rintro e w4 ⟨rfl,b4⟩
    have S4:=hid (S3.out.below b4);clear b4 OW S3 A3 d0 d1 d2 BXS FXS
    by_cases hcn:cn≤24
    ·have hc2:decide (24< (cn:Int))=false:=decide_eq_false (by omega);have HB2:=hid (show ∀ (i:Nat) (y:Itv),i<j+1→x.its[i]? =some y→itB x.sp.now y.i=true∧ownN y.i.own x.sp.its≤24 from λi y hi hy=>by
      rcases Nat.lt_or_ge i j with h |h
      ·exact HB.out i y h hy
      ·obtain rfl:i=j:=by omega
       rw[HY.out] at hy;obtain rfl:=Option.some.inj hy;refine⟨by rw[HIT.out],?_⟩;rw[HOW.out,HCN.out];exact hcn)
     go_wp2_with fail
     go_roundw
     case rel=>exact⟨j+1,hlt,by go_num,S4.out,HB2.out⟩
     case measure=>simp[intOf];omega
    ·have hc2:(24:Int)< (cn:Int):=by omega
     have hR:=NO.out λh=>by have h1:=(YH.out h).2;rw[HOW.out,HCN.out] at h1;omega
     subst hR;clear NO YES;go_wp2_with fail
     go_ret;exact⟨rfl,S4.out.bel⟩
  ·obtain rfl:j=n:=by omega
   have HB1:=hid (show ∀ y∈x.sp.its,itB x.sp.now y=true∧ownN y.own x.sp.its≤24 from λy hy=>by
    obtain⟨z,hz,rfl⟩:=List.mem_map.1 hy;obtain⟨i,hi⟩:=List.getElem?_of_mem hz;exact HB.out i z (by have:=(List.getElem?_eq_some_iff.1 hi).1;rw[HI.out] at this;exact this) hi)
   clear HB hlt
   go_upto_region 10 with(fail)
   clear c1
   go_loopw [5] (λt wr=>∃ j:Nat,j≤m∧t= .int .i64 (j:Int)∧SB w wr x∧∀ (i:Nat) (y:Wtv),i<j→x.wts[i]? =some y→wtB y.x=true) (λt _=>m- (intOf t).toNat)
   case atStart=>exact⟨0,by omega,rfl,S0.out,λi y hi=>absurd hi (by omega)⟩
   case round=>
    clear S0;obtain⟨j,hj,rfl,s0,hb⟩:=hrel;have S0:=hid s0;have HB:=hid hb;clear s0 hb;have c2:=(sv_cells S0.out.a).2.2.1;rw[HWP.out,HW.out] at c2
    by_cases hlt:j<m
    ·obtain⟨y,hy⟩:∃ y,x.wts[j]? =some y:=⟨_,List.getElem?_eq_getElem (by rw[HW.out];exact hlt)⟩;obtain⟨b,o,hpe,hbl,rg⟩:=S0.out.rx.wts j y hy;obtain rfl:wp=some ⟨b,o,none⟩:=HWP.out.symm.trans hpe;have RG:=hid rg;have j1:(j:Int)< (m:Int):=by omega
     have FS:=hid (wv_size y);have F1:=hid (wv_oneA y);have A0:=hid (Blk.new wr 136 [.int .i64 0,.int .i64 0,.bool false,.slice none 0 0]);have A1:=hid (A0.out.setRow (wv y));have W1:=hid (below_setRow ((Below.refl wr.heap.size wr).alloc (Nat.le_refl _) (.cells #[.int .i64 0,.int .i64 0,.bool false,.slice none 0 0] 136)) (Nat.le_refl _) (wv y).toArray);have HY:=hid hy;have YH:=hid (λh:MayS x.sp=>h.wt y.x (List.mem_map_of_mem (List.mem_of_getElem? hy)));have YT:=hid (S0.out.rx.wt y (List.mem_of_getElem? hy));clear rg hpe hbl hy
     go_upto_region 13 with(first
      |((with_reducible refine at_op (.load 136 (.tmp 108)) rfl ?_);go_must (refine wpList_load_mid rfl 136 (.tmp 108) rfl b (o+j * 4) rfl (wv y) _ RG.out Tryz.underlying136 rfl FS.out ?_))
      |((with_reducible refine store_blk 136 (.tmp 6) (.tmp 109) wr.heap.size 136 [.int .i64 0,.int .i64 0,.bool false,.slice none 0 0] (wv y) rfl rfl ?_ ?_ ?_ ?_ ?_ ?_ ?_);exact A0.out;exact rfl;exact FS.out;exact F1.out;exact rfl;exact rfl))
     obtain⟨V2,hV⟩:∃ V,(wr.alloc (.cells #[.int .i64 0,.int .i64 0,.bool false,.slice none 0 0] 136)).setRow wr.heap.size (wv y).toArray=V:=⟨_,rfl⟩;rw[hV] at A1 W1 ⊢;have S2:=hid (S0.out.below W1.out);have YT2:=hid (YT.out.below W1.out);have MT:=hid (show Calls _ _ _ _ λe w'=>e= .returned (.bool (pT y.x.p))∧_ from refmayP_t y.x.p.length y.c y.p (gl y.x.p) V2 YT2.out.n YT2.out.t);have HWT:=hid (show wtB y.x=(clB y.x.cl && (decide (1≤y.x.sq) && (decide (y.x.sq≤1073741824) && pT y.x.p))) from rfl);clear hV A0 RG S0 YT YT2 W1 F1 FS c2;obtain⟨d0,d1,_,d3⟩:=wv_cells A1.out;obtain⟨vb,hvb⟩:∃ z,pT y.x.p=z:=⟨_,rfl⟩;rw[hvb] at MT HWT;clear hvb;obtain⟨ow,how⟩:∃ z,y.x.cl=z:=⟨_,rfl⟩;rw[how] at d0 HWT;obtain⟨sq,hsq⟩:∃ z,y.x.sq=z:=⟨_,rfl⟩;rw[hsq] at d1 HWT;clear how hsq
     by_cases o1:ow<0
     ·have hR:=NO.out λh=>by have h1:=YH.out h;rw[HWT.out] at h1;simp[clB] at h1;omega
      subst hR;clear NO YES;go_wp2_with fail
      go_ret;exact⟨rfl,S2.out.bel⟩
     by_cases o3:4≤ow
     ·have hR:=NO.out λh=>by have h1:=YH.out h;rw[HWT.out] at h1;simp[clB] at h1;omega
      have q1:decide (ow<0)=false:=decide_eq_false o1;subst hR;clear NO YES;go_wp2_with fail
      go_ret;exact⟨rfl,S2.out.bel⟩
     by_cases o5:sq<1
     ·have hR:=NO.out λh=>by have h1:=YH.out h;rw[HWT.out] at h1;simp[clB] at h1;omega
      have q1:decide (ow<0)=false:=decide_eq_false o1;have q2:decide (4≤ow)=false:=decide_eq_false o3;subst hR;clear NO YES;go_wp2_with fail
      go_ret;exact⟨rfl,S2.out.bel⟩
     by_cases o6:1073741824<sq
     ·have hR:=NO.out λh=>by have h1:=YH.out h;rw[HWT.out] at h1;simp[clB] at h1;omega
      have q1:decide (ow<0)=false:=decide_eq_false o1;have q2:decide (4≤ow)=false:=decide_eq_false o3;have q3:decide (sq<1)=false:=decide_eq_false o5;subst hR;clear NO YES;go_wp2_with fail
      go_ret;exact⟨rfl,S2.out.bel⟩
     have q1:decide (ow<0)=false:=decide_eq_false o1;have q2:decide (4≤ow)=false:=decide_eq_false o3;have q3:decide (sq<1)=false:=decide_eq_false o5;have q4:decide (1073741824<sq)=false:=decide_eq_false o6;have hwt:wtB y.x=vb:=by
      rw[HWT.out];have h2:clB ow=true:=by simp[clB];omega
      rw[h2,decide_eq_true (show 1≤sq by omega),decide_eq_true (show sq≤1073741824 by omega)];rfl
     have HWT:=hid hwt;clear o1 o3 o5 o6 hwt;go_wp2_with fail
     refine MT.out.mono ?_
     rintro e w3 ⟨rfl,b3⟩
     have S3:=hid (S2.out.below b3);clear b3 MT d0 d1 d3 S2 A1
     cases vb with
     |false=>
      have hR:=NO.out λh=>by have h1:=YH.out h;rw[HWT.out] at h1;exact absurd h1 (by decide)
      subst hR;clear NO YES;go_wp2_with fail
      go_ret;exact⟨rfl,S3.out.bel⟩
     |true=>
      have HB2:=hid (show ∀ (i:Nat) (y:Wtv),i<j+1→x.wts[i]? =some y→wtB y.x=true from λi y hi hy=>by
       rcases Nat.lt_or_ge i j with h |h
       ·exact HB.out i y h hy
       ·obtain rfl:i=j:=by omega
        rw[HY.out] at hy;obtain rfl:=Option.some.inj hy;exact HWT.out)
      go_wp2_with fail
      go_roundw
      case rel=>exact⟨j+1,hlt,by go_num,S3.out,HB2.out⟩
      case measure=>simp[intOf];omega
    ·obtain rfl:j=m:=by omega
     have HB3:=hid (show ∀ y∈x.sp.wts,wtB y=true from λy hy=>by
      obtain⟨z,hz,rfl⟩:=List.mem_map.1 hy;obtain⟨i,hi⟩:=List.getElem?_of_mem hz;exact HB.out i z (by have:=(List.getElem?_eq_some_iff.1 hi).1;rw[HW.out] at this;exact this) hi)
     clear HB hlt
     go_upto_region 16 with(fail)
     clear c2
     go_loopw [7] (λt wr=>∃ j:Nat,j≤4∧t= .int .i64 (j:Int)∧SB w wr x∧∀ (i:Nat) (y:Rpv),i<j→x.last[i]? =some y→y.r.cl=(i:Int)∧rpB y.r=true) (λt _=>4- (intOf t).toNat)
     case atStart=>exact⟨0,by omega,rfl,S0.out,λi y hi=>absurd hi (by omega)⟩
     case round=>
      clear S0;obtain⟨j,hj,rfl,s0,hb⟩:=hrel;have S0:=hid s0;have HB:=hid hb;clear s0 hb
      by_cases hlt:j<4
      ·obtain⟨y,hy⟩:∃ y,x.last[j]? =some y:=⟨_,List.getElem?_eq_getElem (by rw[S0.out.rx.l4];exact hlt)⟩;obtain⟨A,C,hsp,hAl⟩:=sv_cut hy;have GX:=hid (show Blk wr w.heap.size 80 (A++(pv y++C)) from by rw[←hsp];exact S0.out.a);have HAL:=hid hAl;have FS:=hid (pv_size y);have j1:(j:Int)<4:=by omega
       have HY:=hid hy;have LT:=hid (reflast_t y (j:Int) wr (S0.out.rx.la y (List.mem_of_getElem? hy)));have YH:=hid (λh:MayS x.sp=>h.la j y.r (by show(x.last.map (·.r))[j]? =_;rw[List.getElem?_map,hy];rfl));clear hy hsp hAl;obtain⟨bb,hbb⟩:∃ z,((y.r.cl == (j:Int)) && rpB y.r)=z:=⟨_,rfl⟩;rw[hbb] at LT;have HBB:=hid hbb;clear hbb
       go_wp2_with ((with_reducible refine load_part_gdO 141 77 (.tmp 140) w.heap.size (5+j * 5) 80 A (pv y) C _ ?_ ?_ rfl ?_ ?_ Tryz.underlying77 ?_ ?_ ?_ ?_);exact rfl;kernel_rfl;exact GX.out;exact HAL.out.symm;exact rfl;exact FS.out;exact rfl)
       refine LT.out.mono ?_
       rintro e w2 ⟨rfl,b2⟩
       have S2:=hid (S0.out.below b2);clear b2 LT S0 GX
       cases bb with
       |false=>
        have hR:=NO.out λh=>by have h1:=YH.out h;have h2:=HBB.out;rw[h1.1,h1.2] at h2;simp at h2
        subst hR;clear NO YES;go_wp2_with fail
        go_ret;exact⟨rfl,S2.out.bel⟩
       |true=>
        have HB2:=hid (show ∀ (i:Nat) (y:Rpv),i<j+1→x.last[i]? =some y→y.r.cl=(i:Int)∧rpB y.r=true from λi y hi hy=>by
         rcases Nat.lt_or_ge i j with h |h
         ·exact HB.out i y h hy
         ·obtain rfl:i=j:=by omega
          rw[HY.out] at hy;obtain rfl:=Option.some.inj hy;have h2:=HBB.out;rw[Bool.and_eq_true,beq_iff_eq] at h2;exact h2)
        go_wp2_with fail
        go_roundw
        case rel=>exact⟨j+1,hlt,by go_num,S2.out,HB2.out⟩
        case measure=>simp[intOf];omega
      ·obtain rfl:j=4:=by omega
       have hR:=YES.out (MayS.of GG.out.1.1 GG.out.1.2 GG.out.2.1.1 GG.out.2.1.2 GG.out.2.2.1 GG.out.2.2.2 (by show(x.its.map (·.i)).length≤64;rw[List.length_map,HI.out];omega) (by show(x.wts.map (·.x)).length≤16;rw[List.length_map,HW.out];omega) HB1.out HB3.out (λi y hy=>by
        have hy':(x.last.map (·.r))[i]? =some y:=hy;rw[List.getElem?_map] at hy';obtain⟨z,hz,rfl⟩:=Option.map_eq_some_iff.1 hy';exact HB.out i z (by have:=(List.getElem?_eq_some_iff.1 hz).1;rw[S0.out.rx.l4] at this;exact this) hz))
       subst hR;clear hlt;go_wp2_with fail
       go_ret;exact⟨rfl,S0.out.bel⟩
end Go.Proofs.YtjlophplcmidlaaGreatDoor
