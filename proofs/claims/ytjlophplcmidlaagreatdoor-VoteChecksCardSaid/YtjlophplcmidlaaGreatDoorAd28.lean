/-
  THE REFERENCE OF CHAPTER 4
  THE REFERENCE OF CHAPTER 10
  OtsArgs walked
-/
import Derived.Test.YtjlophplcmidlaaGreatDoorAd21
import Derived.Test.YtjlophplcmidlaaGreatDoorAd27
import Derived.Deep.DeepCutAuto
import Derived.Test.YtjlophplcmidlaaGreatDoorAd7
import Derived.Test.YtjlophplcmidlaaGreatDoorTk
open Go.Lib (hid)
set_option maxRecDepth 100000
namespace Go.Proofs.YtjlophplcmidlaaGreatDoor
open Go Go.RowKit Sh
theorem slice_midQ {P:Program} {t e:TypeId} (hu:P.underlying t=some (.slice e)) (hs:(P.info? e).map (·.size)=some 1) (p:Option Addr) (n c l h:Nat) (h1:l≤h) (hc:h≤c):
  ∃ p2,(l<c→∀ g off,p=some ⟨g,off,none⟩→p2=some ⟨g,off+l,none⟩)∧∀ W,(Instr.slice t (.slice p n c) (some (.int .i64 (l:Int))) (some (.int .i64 (h:Int))) none).run P W= .ok (.slice p2 (h-l) (c-l)) W:=by
 have hz:∀ W,(sizeOf e).run P W= .ok 1 W:=by
  cases hq:P.info? e with
  |none=>simp[hq] at hs
  |some i=>simp[hq] at hs;intro W;simp[sizeOf,typeInfo,hq,hs]
 have e1:∀ W,(Instr.sliceBound (.int .i64 (l:Int)) h .sliceB).run P W= .ok l W:=λW=>by
  simp[Instr.sliceBound,asIntOf,h1]
 have e2:∀ W,(Instr.sliceBound (.int .i64 (h:Int)) c .sliceAcap).run P W= .ok h W:=λW=>by
  simp[Instr.sliceBound,asIntOf,hc]
 refine⟨if c=l then p else p.map (·.add l),λhl g off hp=>?_,λW=>?_⟩
 ·rw[if_neg (by omega),hp];simp[Addr.add_mid]
 ·simp[Instr.slice,run_underlying hu,Instr.sliceBounds,e1,e2,hz,Result.andThen]
theorem fresh_opQ {w w':World} {v:Value} {l:List Nat} (h:Fresh 5 w w' v l):∃ A c,v= .slice A l.length c∧l.length≤c∧Sr w' A l∧Below w.heap.size w w':=by
 obtain⟨A,c,rfl,hc⟩:=own_form h.1;exact⟨A,c,rfl,hc,Sr.of_own h.1,h.2⟩
theorem refcode_tQ (i:Nat) (hi:i<4) (w:World):Calls Tryz.prog 35 #[.int .i64 ((kd i).w:Int)] w λe w'=>e= .returned (.int .u64 ((kd i).code:Int))∧w=w':=by
 have:i=0∨i=1∨i=2∨i=3:=by omega
 rcases this with rfl |rfl |rfl |rfl
 ·change Calls Tryz.prog 35 #[.int .i64 1] w _
  go_enter Tryz.func35,Tryz.ntmps35
  go_wp2
  go_ret;exact⟨rfl,rfl⟩
 ·change Calls Tryz.prog 35 #[.int .i64 2] w _
  go_enter Tryz.func35,Tryz.ntmps35
  go_wp2
  go_ret;exact⟨rfl,rfl⟩
 ·change Calls Tryz.prog 35 #[.int .i64 4] w _
  go_enter Tryz.func35,Tryz.ntmps35
  go_wp2
  go_ret;exact⟨rfl,rfl⟩
 ·change Calls Tryz.prog 35 #[.int .i64 8] w _
  go_enter Tryz.func35,Tryz.ntmps35
  go_wp2
  go_ret;exact⟨rfl,rfl⟩
theorem kd_w8bQ (i:Nat):(kd i).w≤8∧1≤(kd i).w:=by
 rcases i with _ |_ |_ |i<;>simp[kd]
theorem beN_valQ:∀ (n:Nat) (l:List Nat),l.length=n→Bytes l→beN (val l) n=l
 |0,l,h,_=>by obtain rfl:=List.eq_nil_of_length_eq_zero h;rfl
 |n+1,l,h,hb=>by
  have hne:l≠[]:=λe=>by rw[e] at h;simp at h
  obtain⟨l',b,rfl⟩:∃ l' b,l=l'++[b]:=⟨l.dropLast,l.getLast hne,(List.dropLast_concat_getLast hne).symm⟩;have hb1:b<256:=by
   have:=hb l'.length;rw[gt_app_right (Nat.le_refl _)] at this
   simpa [gt] using this
  have hl':l'.length=n:=by simpa using h
  have hb':Bytes l':=λj=>by
   rcases Nat.lt_or_ge j l'.length with hj |hj
   ·have:=hb j;rwa [gt_app_left hj] at this
   ·rw[gt_out hj];decide
  rw[beN_snoc,val_snoc,show(val l' * 256+b) / 256=val l' from by omega,show(val l' * 256+b) % 256=b from by omega,beN_valQ n l' hl' hb']
theorem code_eqQ (xs:List Nat) (c:Nat) (hl:4≤xs.length) (hb:Bytes xs) (hc:c<4294967296):(xs.take 4=beN c 4)↔val (xs.take 4)=c:=by
 constructor
 ·intro h;rw[h,val_beN];omega
 ·intro h;rw[←h,beN_valQ 4 _ (by rw[List.length_take];omega) (bytes_take hb 4)]
def widNQ (b:List Nat):Nat:=if 1≤val b∧val b≤4 then(kd (val b-1)).w else 0
theorem kd_powQ:∀ j:Nat,j<4→(kd j).w=2 ^ j:=by decide
theorem kd_codeBQ:∀ j:Nat,j<4→(kd j).code=j+1:=by decide
theorem pow_le8Q:∀ j:Nat,j<4→2 ^ j≤8∧2 * 2 ^ j=2 ^ (j+1)∧1≤2 ^ j:=by decide
set_option maxHeartbeats 2000000 in
theorem refwidth_tQ (xs:List Nat) (A:Option Addr) (c:Nat) (w:World) (hx:xs.length=4) (hp:Sr w A xs) (hb:Bytes xs):
  Calls Tryz.prog 56 #[.slice A 4 c] w λe w'=>e= .returned (.int .i64 (widNQ xs:Nat))∧Below w.heap.size w w':=by
 have HX:=hid hx;have HP:=hid hp;have HB:=hid hb;have CO:=hid (λj (hj:j<4) W=>show Calls Tryz.prog 35 #[.int .i64 ((2 ^ j:Nat):Int)] W λe w'=>e= .returned (.int .u64 ((j+1:Nat):Int))∧W=w' by
  have h:=refcode_tQ j hj W;rw[kd_powQ j hj,kd_codeBQ j hj] at h;exact h)
 have SAME:=hid (λj (hj:j<4)=>show decide (xs=beN (j+1) 4)=decide (val xs=j+1) by
  have h:=code_eqQ xs (j+1) (by omega) hb (by omega);rw[List.take_of_length_le (by omega)] at h;exact decide_eq_decide.2 h)
 clear hx hp hb
 go_enter Tryz.func56,Tryz.ntmps56
 go_upto_region 2 with(fail)
 go_loopw [3] (λs wr=>∃ j:Nat,j≤4∧s= .int .i64 ((2 ^ j:Nat):Int)∧(∀ k,k<j→val xs≠k+1)∧Below w.heap.size w wr) (λs _=>17- (intOf s).toNat)
 case atStart=>exact⟨0,by omega,rfl,λk hk=>by omega,Below.refl _ _⟩
 case round=>
  obtain⟨j,hj,rfl,hno,b0⟩:=hrel;have B0:=hid b0;have HNO:=hid hno;clear b0 hno
  by_cases hlt:j<4
  ·have hpw:=pow_le8Q j hlt;have COj:=hid (CO.out j hlt);have SMj:=hid (SAME.out j hlt);have HNX:=hid (show((2 ^ (j+1):Nat):Int)=2 * ((2 ^ j:Nat):Int) by rw[←hpw.2.1];omega);have hkw:=hid (kd_powQ j hlt);obtain⟨v,hv⟩:∃ x,2 ^ j=x:=⟨_,rfl⟩;rw[hv] at COj HNX hkw hpw ⊢;have v8:(v:Int)≤8:=by omega
   have v1:(1:Int)≤(v:Int):=by omega
   have e1:IntKind.i64.wrap (2 * (v:Int))=2 * (v:Int):=IntWalk.i64_in _ (by omega);clear hv hpw;go_wp2_with fail
   refine(COj.out _).mono ?_
   rintro e w1 ⟨rfl,rfl⟩
   go_wp2_with fail
   refine(refnum_t (j+1) 4 _ (by decide) (by decide)).mono ?_
   rintro e w2 ⟨u,rfl,f2⟩
   obtain⟨A2,c2,rfl,hc2,s2,b2⟩:=fresh_opQ f2;rw[beN_length] at hc2 ⊢;have B2:=hid (B0.out.trans (b2.mono B0.out.size));have S2:=hid s2;clear f2 hc2 s2 b2 B0;go_wp2_with fail
   refine(same_textsTX xs (beN (j+1) 4) A A2 4 4 c c2 w2 HX.out (beN_length _ _) (HP.out.below B2.out) S2.out HB.out (beN_bytes _ _)).mono ?_
   rintro e w3 ⟨rfl,rfl⟩
   rw[SMj.out]
   by_cases hc:val xs=j+1
   ·rw[decide_eq_true hc];have HE:=hid (show widNQ xs=v by unfold widNQ;rw[if_pos (by omega),hc,Nat.add_sub_cancel];exact hkw.out);clear e1;go_wp2_with fail
    go_ret;exact⟨by rw[HE.out];rfl,B2.out⟩
   ·rw[decide_eq_false hc];have HC:=hid hc;clear hc;go_wp2_with fail
    go_roundw
    case rel=>
     refine⟨j+1,by omega,by rw[HNX.out],λk hk=>?_,B2.out⟩;rcases Nat.lt_or_ge k j with h |h
     ·exact HNO.out k h
     ·obtain rfl:k=j:=by omega
      exact HC.out
    case measure=>simp[intOf];omega
  ·obtain rfl:j=4:=by omega
   have HE:=hid (show widNQ xs=0 by unfold widNQ;rw[if_neg (λh=>HNO.out (val xs-1) (by omega) (by omega))]);go_wp2_with fail
   go_ret;exact⟨by rw[HE.out];rfl,B0.out⟩
set_option maxHeartbeats 2000000 in
theorem refform_noQ (xs:List Nat) (A:Option Addr) (m c:Nat) (w:World) (hx:xs.length=m) (_:m≤9223372036854775807) (h56:m≠56):
  Calls Tryz.prog 54 #[.slice A m c] w λe w'=>e= .returned (.bool (formN xs))∧Below w.heap.size w w':=by
 have HX:=hid hx;have hne:((m:Int) == 56)=false:=by rw[beq_eq_false_iff_ne];omega
 clear hx;have B0:=hid ((Below.refl w.heap.size w).drew)
 go_enter Tryz.func54,Tryz.ntmps54
 go_upto_region 1 with(fail)
 refine wp_region_held (S:=λ_=>True) (by kernel_rfl) ?_;change wpAnyH _ _ _ _ _ _ _ _ w.drew;obtain⟨V,hV⟩:∃ V,w.drew=V:=⟨_,rfl⟩;rw[hV] at B0 ⊢;clear hV;refine tka9 0 trivial ?_;refine tka9 1 trivial ?_;refine tka9 2 trivial ?_;refine tka9 3 trivial ?_;refine tku9 4 trivial ?_;refine tku9 5 trivial ?_;refine tku9 6 trivial ?_;refine tku9 7 trivial ?_;refine tka9 8 trivial ?_;refine tka9 9 trivial ?_;refine tku9 10 trivial ?_;refine tku9 11 trivial ?_;refine tku9 12 trivial ?_;refine tku9 13 trivial ?_;refine tka9 14 trivial ?_;refine tka9 15 trivial ?_;refine wpAnyH_done (by kernel_rfl) ?_ _;go_simp;go_wp2_with fail
 go_ret;exact⟨by rw[show formN xs=false from decide_eq_false (λh=>h56 (by rw[←HX.out];exact h.1))];rfl,B0.out⟩
set_option maxHeartbeats 2000000 in
theorem refform_yesQ (xs:List Nat) (A:Option Addr) (c:Nat) (w:World) (hx:xs.length=56) (hp:Sr w A xs) (hb:Bytes xs) (hc:56≤c):
  Calls Tryz.prog 54 #[.slice A 56 c] w λe w'=>e= .returned (.bool (formN xs))∧Below w.heap.size w w':=by
 have HX:=hid hx;have HP:=hid hp;have HB:=hid hb;have HT4:=hid (show(xs.take 4).length=4∧Bytes (xs.take 4) from⟨by rw[List.length_take];omega,bytes_take hb 4⟩);have HT8:=hid (show((xs.drop 4).take 4).length=4∧Bytes ((xs.drop 4).take 4) from⟨by rw[List.length_take,List.length_drop];omega,bytes_take (bytes_drop hb 4) 4⟩);have HC5:=hid (code_eqQ xs 5 (by omega) hb (by omega));have hs4:=slice_high (P:=Tryz.prog) (t:=25) (e:=5) Tryz.underlying25 byte_size A 56 c .i64 4 (by omega);rw[show((4:Nat):Int)=4 from rfl] at hs4;obtain⟨p2,hp2,hs8⟩:=slice_midQ (P:=Tryz.prog) (t:=25) (e:=5) Tryz.underlying25 byte_size A 56 c 4 8 (by omega) (by omega);rw[show((4:Nat):Int)=4 from rfl,show((8:Nat):Int)=8 from rfl,show 8-4=4 from rfl] at hs8;have SP:=hid (λW (h:Sr W A xs)=>show Sr W p2 ((xs.drop 4).take 4) from(h.drop (p2:=p2) (n:=4) (λ_=>hp2 (by omega))).take 4);obtain⟨c8,hc8⟩:∃ x,c-4=x:=⟨_,rfl⟩;rw[hc8] at hs8;clear hx hp hb hp2 hc8;have B0:=hid ((Below.refl w.heap.size w).drew)
 go_enter Tryz.func54,Tryz.ntmps54
 go_upto_region 1 with(fail)
 refine wp_region_held (S:=λ_=>True) (by kernel_rfl) ?_;change wpAnyH _ _ _ _ _ _ _ _ w.drew;obtain⟨V,hV⟩:∃ V,w.drew=V:=⟨_,rfl⟩;rw[hV] at B0 ⊢;clear hV;refine tka9 0 trivial ?_;refine tka9 1 trivial ?_;refine tka9 2 trivial ?_;refine tka9 3 trivial ?_;refine tka9 4 trivial ?_;refine tka9 5 trivial ?_
 by_cases h5:val (xs.take 4)=5
 ·skip
  refine rd9 6 λK hK=>?_
  go_simp;refine(refnum_t 5 4 V (by decide) (by decide)).mono ?_
  rintro e w5 ⟨u,rfl,f5⟩
  obtain⟨A5,c5,rfl,hc5,s5,b5⟩:=fresh_opQ f5;rw[beN_length] at hc5 ⊢;have B5:=hid (B0.out.trans (b5.mono B0.out.size));have S5:=hid s5;clear f5 hc5 s5 b5 B0;refine hK.out _ _ trivial (λ_=>?_);clear hK K;refine rd9 7 λK hK=>?_
  go_simp;refine(same_textsTX (xs.take 4) (beN 5 4) A A5 4 4 c c5 w5 HT4.out.1 (beN_length _ _) ((HP.out.below B5.out).take 4) S5.out HT4.out.2 (beN_bytes _ _)).mono ?_
  rintro e w6 ⟨rfl,rfl⟩
  rw[show decide (xs.take 4=beN 5 4)=true from decide_eq_true (HC5.out.2 h5)];refine hK.out _ _ trivial (λ_=>?_);clear hK K;refine tka9 8 trivial ?_;refine tka9 9 trivial ?_;refine tka9 10 trivial ?_;refine tka9 11 trivial ?_;refine rd9 12 λK hK=>?_
  go_simp;refine(refwidth_tQ ((xs.drop 4).take 4) p2 c8 w5 HT8.out.1 (SP.out _ (HP.out.below B5.out)) HT8.out.2).mono ?_
  rintro e w6 ⟨rfl,b6⟩
  have B6:=hid (B5.out.trans (b6.mono B5.out.size));have HF:=hid (show decide (0<widNQ ((xs.drop 4).take 4))=formN xs from by
   unfold formN widNQ;refine decide_eq_decide.2 ?_;have h8:=HX.out
   by_cases hv:1≤val ((xs.drop 4).take 4)∧val ((xs.drop 4).take 4)≤4
   ·rw[if_pos hv];have:=(kd_w8bQ (val ((xs.drop 4).take 4) -1)).2;exact⟨λ_=>⟨h8,h5,hv⟩,λ_=>by omega⟩
   ·rw[if_neg hv];exact⟨λh=>absurd h (by decide),λh=>absurd h.2.2 hv⟩)
  obtain⟨u,hu⟩:∃ x,widNQ ((xs.drop 4).take 4)=x:=⟨_,rfl⟩;rw[hu] at HF ⊢;clear b6 B5 hu;refine hK.out _ _ trivial (λ_=>?_);clear hK K;refine tka9 13 trivial ?_;refine tka9 14 trivial ?_;refine tka9 15 trivial ?_;refine wpAnyH_done (by kernel_rfl) ?_ _;go_simp;go_wp2_with fail
  go_ret;exact⟨by rw[←HF.out];rfl,B6.out⟩
 ·skip
  refine rd9 6 λK hK=>?_
  go_simp;refine(refnum_t 5 4 V (by decide) (by decide)).mono ?_
  rintro e w5 ⟨u,rfl,f5⟩
  obtain⟨A5,c5,rfl,hc5,s5,b5⟩:=fresh_opQ f5;rw[beN_length] at hc5 ⊢;have B5:=hid (B0.out.trans (b5.mono B0.out.size));have S5:=hid s5;clear f5 hc5 s5 b5 B0;refine hK.out _ _ trivial (λ_=>?_);clear hK K;refine rd9 7 λK hK=>?_
  go_simp;refine(same_textsTX (xs.take 4) (beN 5 4) A A5 4 4 c c5 w5 HT4.out.1 (beN_length _ _) ((HP.out.below B5.out).take 4) S5.out HT4.out.2 (beN_bytes _ _)).mono ?_
  rintro e w6 ⟨rfl,rfl⟩
  rw[show decide (xs.take 4=beN 5 4)=false from decide_eq_false (λh=>h5 (HC5.out.1 h))];refine hK.out _ _ trivial (λ_=>?_);clear hK K;refine tka9 8 trivial ?_;refine tka9 9 trivial ?_;refine tku9 10 trivial ?_;refine tku9 11 trivial ?_;refine tku9 12 trivial ?_;refine tku9 13 trivial ?_;refine tka9 14 trivial ?_;refine tka9 15 trivial ?_;refine wpAnyH_done (by kernel_rfl) ?_ _;go_simp;go_wp2_with fail
  go_ret;exact⟨by rw[show formN xs=false from decide_eq_false (λh=>h5 h.2.1)];rfl,B5.out⟩
theorem refform_tQ (xs:List Nat) (A:Option Addr) (m c:Nat) (w:World) (hx:xs.length=m) (hp:Sr w A xs) (hb:Bytes xs) (hml:m≤9223372036854775807) (hc:m≤c):
  Calls Tryz.prog 54 #[.slice A m c] w λe w'=>e= .returned (.bool (formN xs))∧Below w.heap.size w w':=by
 by_cases h56:m=56
 ·subst h56;exact refform_yesQ xs A c w hx hp hb hc
 ·exact refform_noQ xs A m c w hx hml h56
def GvC (x:Gv):Prop:=∀ y∈x.ks,y.X.length≤y.c
def frB (x:Gv):Bool:=fltB x.f && (alB x.rd && (alB x.wr && decide ((x.ks.length:Int)=3 * x.f+1)))
theorem begB_fr (x:Gv):begB x=(frB x && ((x.ks.all λy=>formN y.X) && stB x)):=by
 unfold begB frB mayK;rw[List.length_map,List.all_map];simp only[Bool.and_assoc];rfl
set_option maxHeartbeats 4000000 in
theorem gMayR_t (x:Gv) (w:World) (h:GvW w x) (hc:GvC x):
  Calls Tryz.prog 25 #[.agg (gv x).toArray] w λe w'=>e= .returned (.bool (begB x))∧Below w.heap.size w w':=by
 have S0:=hid (GB9.new h);have HC:=hid hc;obtain⟨n,hn⟩:∃ n,x.ks.length=n:=⟨_,rfl⟩;obtain⟨kp,hkp⟩:∃ p,x.kp=p:=⟨_,rfl⟩;have HN:=hid hn;have HKP:=hid hkp;have hnl:n≤9223372036854775807:=by rw[←hn];exact h.kl
 have CELL:=hid (λ(W:World) (h:GB9 w W x)=>show W.cell? ⟨w.heap.size,0,none⟩=some (.int .i64 x.f)∧W.cell? ⟨w.heap.size,1,none⟩=some (.int .i64 x.rd)∧W.cell? ⟨w.heap.size,2,none⟩=some (.int .i64 x.wr)∧W.cell? ⟨w.heap.size,3,none⟩=some (.slice kp n x.kc)∧W.cell? ⟨w.heap.size,4,none⟩=some (.slice x.sp x.st.length x.sc) from by
  have:=gv_cells h.a;rw[hn,hkp] at this;exact this)
 obtain⟨r,hr⟩:∃ r,begB x=r:=⟨_,rfl⟩;have HR:=hid (show r=(frB x && ((x.ks.all λy=>formN y.X) && stB x)) from hr.symm.trans (begB_fr x));rw[hr];obtain⟨q,hq⟩:∃ q,frB x=q:=⟨_,rfl⟩;have HQ:=hid hq;rw[hq] at HR;clear h hc hn hkp hr hq
 go_enter Tryz.func25,Tryz.ntmps25
 go_upto_region 1 with(fail)
 refine world_at (λY=>GB9 w Y x) S0.out ?_
 rintro V s1
 have S1:=hid s1;clear s1 S0;obtain⟨c0,c1,c2,c3,c4⟩:=CELL.out V S1.out
 go_cut [43] (λs43 wx=>s43= .bool (!q)∧wx=V)
 case first=>
  have qf:∀ b,frB x=b→q=b:=λb e=>HQ.out.symm.trans e
  by_cases f0:x.f<0
  ·have hq:=qf false (by unfold frB fltB;rw[decide_eq_false (by omega:¬ (0≤x.f))];rfl);clear qf;go_wp2_with fail
   go_meet
   exact⟨by rw[hq];rfl,rfl⟩
  by_cases f2:2<x.f
  ·have hq:=qf false (by unfold frB fltB;rw[decide_eq_false (by omega:¬ (x.f≤2)),Bool.and_false];rfl);clear qf;go_wp2_with fail
   go_meet
   exact⟨by rw[hq];rfl,rfl⟩
  have w3:wrap64 (3 * x.f)=3 * x.f:=by unfold wrap64;omega
  have w4:wrap64 (3 * x.f+1)=3 * x.f+1:=by unfold wrap64;omega
  by_cases r0:x.rd<0
  ·have hq:=qf false (by unfold frB alB;rw[decide_eq_false (by omega:¬ (0≤x.rd)),Bool.false_and,Bool.false_and,Bool.and_false]);clear qf;go_wp2_with fail
   go_meet
   exact⟨by rw[hq];rfl,rfl⟩
  by_cases r1:15<x.rd
  ·have hq:=qf false (by unfold frB alB;rw[decide_eq_false (by omega:¬ (x.rd≤15)),Bool.and_false,Bool.false_and,Bool.and_false]);clear qf;go_wp2_with fail
   go_meet
   exact⟨by rw[hq];rfl,rfl⟩
  by_cases k0:x.wr<0
  ·have hq:=qf false (by unfold frB alB;rw[decide_eq_false (by omega:¬ (0≤x.wr)),Bool.false_and,Bool.false_and,Bool.and_false,Bool.and_false]);clear qf;go_wp2_with fail
   go_meet
   exact⟨by rw[hq];rfl,rfl⟩
  by_cases k1:15<x.wr
  ·have hq:=qf false (by unfold frB alB;rw[decide_eq_false (by omega:¬ (x.wr≤15)),Bool.and_false,Bool.false_and,Bool.and_false,Bool.and_false]);clear qf;go_wp2_with fail
   go_meet
   exact⟨by rw[hq];rfl,rfl⟩
  have hq:=qf (decide ((n:Int)=3 * x.f+1)) (by
   unfold frB fltB alB;rw[decide_eq_true (by omega:0≤x.f),decide_eq_true (by omega:x.f≤2),decide_eq_true (by omega:0≤x.rd),decide_eq_true (by omega:x.rd≤15),decide_eq_true (by omega:0≤x.wr),decide_eq_true (by omega:x.wr≤15),HN.out];rfl)
  have t3:((n:Int) != 3 * x.f+1)= !q:=by rw[hq,Bool.eq_iff_iff,bne_iff_ne];simp
  clear qf hq;go_wp2_with fail
  go_meet
  exact⟨rfl,rfl⟩
 case rest=>
 obtain⟨rfl,rfl⟩:=hcut;clear c0 c1 c2 c3 c4
 cases q with
 |false=>
  obtain rfl:r=false:=HR.out;go_wp2_with fail
  go_ret;exact⟨rfl,S1.out.bel⟩
 |true=>
 have HR2:=hid (show r=((x.ks.all λy=>formN y.X) && stB x) from HR.out);clear HR;go_wp2_with fail
 go_loopw [3] (λt wr=>∃ j:Nat,j≤n∧t= .int .i64 (j:Int)∧GB9 w wr x∧∀ (i:Nat) (y:Ky),i<j→x.ks[i]? =some y→formN y.X=true) (λt _=>n- (intOf t).toNat)
 case atStart=>exact⟨0,by omega,rfl,S1.out,λi y hi=>absurd hi (by omega)⟩
 case round=>
  clear S1;obtain⟨j,hj,rfl,s0,hb⟩:=hrel;have S0:=hid s0;have HB:=hid hb;clear s0 hb;obtain⟨_,_,_,c3,c4⟩:=CELL.out wr S0.out
  by_cases hlt:j<n
  ·obtain⟨y,hy⟩:∃ y,x.ks[j]? =some y:=⟨_,List.getElem?_eq_getElem (by rw[HN.out];exact hlt)⟩;obtain⟨b,o,hpe,hbl,rg⟩:=S0.out.rx.ks j y hy;obtain rfl:kp=some ⟨b,o,none⟩:=HKP.out.symm.trans hpe;have c1:wr.cell? ⟨b,o+j,none⟩=some (.slice y.A y.X.length y.c):=by have:=rg 0 _ rfl;rw[Nat.mul_one,Nat.add_zero] at this;exact this
   have j1:(j:Int)< (n:Int):=by omega
   have HM:=List.mem_of_getElem? hy;have FT_:=hid (refform_tQ y.X y.A y.X.length y.c wr rfl (S0.out.rx.k y HM) (S0.out.rx.kb y HM) (S0.out.rx.kn y HM) (HC.out y HM));have HY:=hid hy;obtain⟨fb,hfb⟩:∃ b,formN y.X=b:=⟨_,rfl⟩;rw[hfb] at FT_;have HFB:=hid hfb;clear hfb rg hpe hbl hy HM c4;go_wp2_with fail
   refine FT_.out.mono ?_
   rintro e w3 ⟨rfl,b3⟩
   have S3:=hid (S0.out.below b3);clear b3 FT_ S0 c1 c3
   cases fb with
   |false=>
    have hR:(x.ks.all λy=>formN y.X)=false:=by
     cases hq:(x.ks.all λy=>formN y.X) with
     |false=>rfl
     |true=>
      have:=List.all_eq_true.1 hq y (List.mem_of_getElem? HY.out);rw[HFB.out] at this
      cases this
    obtain rfl:r=false:=by rw[HR2.out,hR];rfl
    go_wp2_with fail
    go_ret;exact⟨rfl,S3.out.bel⟩
   |true=>
    have HB2:=hid (show ∀ (i:Nat) (y:Ky),i<j+1→x.ks[i]? =some y→formN y.X=true from λi y hi hy=>by
     rcases Nat.lt_or_ge i j with h |h
     ·exact HB.out i y h hy
     ·obtain rfl:i=j:=by omega
      rw[HY.out] at hy;obtain rfl:=Option.some.inj hy;exact HFB.out)
    go_wp2_with fail
    go_roundw
    case rel=>
     exact⟨_,.int .i64 ((j:Int)+1),_,_,_,_,_,_,_,_,_,_,_,_,_,_,⟨j+1,hlt,by go_num,S3.out,HB2.out⟩,rfl⟩
    case measure=>simp[intOf];omega
  ·obtain rfl:j=n:=by omega
   have hR:(x.ks.all λy=>formN y.X)=true:=List.all_eq_true.2 λy hy=>by
    obtain⟨i,hi⟩:=List.getElem?_of_mem hy;exact HB.out i y (by have:=(List.getElem?_eq_some_iff.1 hi).1;rw[HN.out] at this;exact this) hi
   have HRS:=hid (show r=stB x from by rw[HR2.out,hR];rfl);clear HR2 hR HB hlt
   by_cases h0:x.st.length=0
   ·have e0:((x.st.length:Int) == 0)=true:=by rw[h0];rfl
    obtain rfl:r=true:=by rw[HRS.out];unfold stB stQ;rw[decide_eq_true h0];rfl
    clear h0;go_wp2_with fail
    go_ret;exact⟨rfl,S0.out.bel⟩
   ·have e0:((x.st.length:Int) == 0)=false:=by rw[beq_eq_false_iff_ne];omega
    have SGT:=hid (refGetS_t x.st x.sp x.st.length x.sc wr rfl S0.out.rx.sc S0.out.rx.st S0.out.rx.sb S0.out.rx.sl);have HB0:=hid (show stB x=(okS x.st && (((gotS x.st).rd == x.rd) && ((gotS x.st).wr == x.wr))) from by unfold stB stQ;rw[decide_eq_false h0,Bool.false_or]);clear h0;go_wp2_with fail
    refine SGT.out.mono ?_
    rintro e w3 ⟨bw3,hh⟩
    have S3:=hid (S0.out.below bw3);clear S0 bw3 SGT c3 c4 e0;rcases hh with⟨hno,rfl⟩ |⟨hyes,y,hy,rfl,yy⟩
    ·obtain rfl:r=false:=by rw[HRS.out,HB0.out,hno];rfl
     clear hno HB0 HRS;obtain⟨y,hy⟩:∃ y,gsp 0 0 0=y:=⟨_,rfl⟩;have wy:=gsp_w 0 0 0 w3;rw[hy] at wy ⊢;have FX_y:=hid (sv_size y wy.l4);have FO_y:=hid (sv_one y);have SL_y:=hid (sv_len y wy.l4);have Z_y:=hid (Blk.new w3 80 [.int .i64 0,.slice none 0 0,.slice none 0 0,.int .i64 0,.int .i64 0,.int .i64 0,.int .i64 0,.int .i64 0,.slice none 0 0,.bool false,.int .i64 0,.int .i64 0,.int .i64 0,.slice none 0 0,.bool false,.int .i64 0,.int .i64 0,.int .i64 0,.slice none 0 0,.bool false,.int .i64 0,.int .i64 0,.int .i64 0,.slice none 0 0,.bool false]);have KN_y:=hid (KSp.new (w1:=w3) (x:=y) wy)
     go_upto_region 11 with((with_reducible refine at_op (.store 80 (.tmp 4) (.tmp 66)) rfl ?_);go_must (refine store_blk 80 (.tmp 4) (.tmp 66) (w3).heap.size 80 _ (sv y) rfl rfl Z_y.out SL_y.out.symm FX_y.out FO_y.out rfl rfl ?_))
     obtain⟨V3,hV3⟩:∃ V,((w3).alloc (.cells #[.int .i64 0,.slice none 0 0,.slice none 0 0,.int .i64 0,.int .i64 0,.int .i64 0,.int .i64 0,.int .i64 0,.slice none 0 0,.bool false,.int .i64 0,.int .i64 0,.int .i64 0,.slice none 0 0,.bool false,.int .i64 0,.int .i64 0,.int .i64 0,.slice none 0 0,.bool false,.int .i64 0,.int .i64 0,.int .i64 0,.slice none 0 0,.bool false] 80)).setRow (w3).heap.size (sv y).toArray=V:=⟨_,rfl⟩;rw[hV3] at KN_y ⊢;have K_y:=hid KN_y.out.1;have B_y:=hid KN_y.out.2;clear hV3 KN_y Z_y FO_y SL_y;have S4:=hid (S3.out.below B_y.out);clear S3 B_y wy K_y FX_y hy;go_wp2_with fail
     go_ret;exact⟨rfl,S4.out.bel⟩
    ·have HEB:=hid (show r=((y.rd == x.rd) && (y.wr == x.wr)) from by rw[HRS.out,HB0.out,hyes,←hy];rfl);have wy:=yy.w;clear hyes HB0 hy yy HRS;have FX_y:=hid (sv_size y wy.l4);have FO_y:=hid (sv_one y);have SL_y:=hid (sv_len y wy.l4);have Z_y:=hid (Blk.new w3 80 [.int .i64 0,.slice none 0 0,.slice none 0 0,.int .i64 0,.int .i64 0,.int .i64 0,.int .i64 0,.int .i64 0,.slice none 0 0,.bool false,.int .i64 0,.int .i64 0,.int .i64 0,.slice none 0 0,.bool false,.int .i64 0,.int .i64 0,.int .i64 0,.slice none 0 0,.bool false,.int .i64 0,.int .i64 0,.int .i64 0,.slice none 0 0,.bool false]);have KN_y:=hid (KSp.new (w1:=w3) (x:=y) wy)
     go_upto_region 11 with((with_reducible refine at_op (.store 80 (.tmp 4) (.tmp 66)) rfl ?_);go_must (refine store_blk 80 (.tmp 4) (.tmp 66) (w3).heap.size 80 _ (sv y) rfl rfl Z_y.out SL_y.out.symm FX_y.out FO_y.out rfl rfl ?_))
     obtain⟨V3,hV3⟩:∃ V,((w3).alloc (.cells #[.int .i64 0,.slice none 0 0,.slice none 0 0,.int .i64 0,.int .i64 0,.int .i64 0,.int .i64 0,.int .i64 0,.slice none 0 0,.bool false,.int .i64 0,.int .i64 0,.int .i64 0,.slice none 0 0,.bool false,.int .i64 0,.int .i64 0,.int .i64 0,.slice none 0 0,.bool false,.int .i64 0,.int .i64 0,.int .i64 0,.slice none 0 0,.bool false] 80)).setRow (w3).heap.size (sv y).toArray=V:=⟨_,rfl⟩;rw[hV3] at KN_y ⊢;have K_y:=hid KN_y.out.1;have B_y:=hid KN_y.out.2;clear hV3 KN_y Z_y FO_y SL_y;have S4:=hid (S3.out.below B_y.out);obtain⟨g4,hg4⟩:∃ g,w3.heap.size=g:=⟨_,rfl⟩;rw[hg4] at K_y ⊢;clear S3 B_y wy hg4 FX_y;obtain⟨_,c1,c2,_,_⟩:=CELL.out V3 S4.out;obtain⟨_,_,_,d3,d4⟩:=sv_cells K_y.out.box;obtain⟨b5,hb5⟩:∃ b,(y.rd == x.rd)=b:=⟨_,rfl⟩;obtain⟨b6,hb6⟩:∃ b,(y.wr == x.wr)=b:=⟨_,rfl⟩;rw[hb5,hb6] at HEB;obtain rfl:=HEB.out
     cases b5 with
     |false=>
      go_wp2_with fail
      go_ret;exact⟨rfl,S4.out.bel⟩
     |true=>
      go_wp2_with fail
      go_ret;exact⟨rfl,S4.out.bel⟩
theorem size48 (l:List Nat) (h:l.length=48):(Tryz.prog.info? 46).map (·.size)=some (u8s l).length:=by
 rw[u8s_length,h]
 kernel_rfl
theorem size16 (l:List Nat) (h:l.length=16):(Tryz.prog.info? 44).map (·.size)=some (u8s l).length:=by
 rw[u8s_length,h]
 kernel_rfl
end Go.Proofs.YtjlophplcmidlaaGreatDoor
