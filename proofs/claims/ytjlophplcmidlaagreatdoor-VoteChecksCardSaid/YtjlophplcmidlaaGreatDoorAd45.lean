/-
  THE REFERENCE OF CHAPTER 13
  LAYER 13's laws
-/
import Derived.Test.YtjlophplcmidlaaGreatDoorAd43
import Derived.Test.YtjlophplcmidlaaGreatDoorAd38
import Derived.Test.YtjlophplcmidlaaGreatDoorAd39
import Derived.Test.YtjlophplcmidlaaGreatDoorAd44
import Derived.Test.YtjlophplcmidlaaGreatDoorAd41
import Derived.Test.YtjlophplcmidlaaGreatDoorTk
open Go.Lib (hid)
set_option maxRecDepth 100000
namespace Go.Proofs.YtjlophplcmidlaaGreatDoor
open Go Go.RowKit Sh
set_option maxHeartbeats 1000000 in
theorem refChk_no (x:Gv) (v:Vv) (w:World) (hx:GvW w x) (hc:GvC x) (hv:VvW w v) (hm:begB x=false):
  Calls Tryz.prog 9 #[.agg (gv x).toArray,.agg (vv v).toArray] w λe w'=>e= .returned (.int .i64 1)∧Below w.heap.size w w':=by
 have S0:=hid (CK.new hx hv);have FG:=hid (gv_size x);have HM:=hid hm;have HC:=hid hc;clear hx hv hm hc
 go_enter Tryz.func9,Tryz.ntmps9
 go_upto_region 1 with(fail)
 refine world_at (λY=>CK w Y x v) S0.out ?_
 rintro V s1
 have S1:=hid s1;clear s1 S0;have MT:=hid (gMayR_t x V S1.out.rx HC.out);rw[HM.out] at MT;have GA:=hid S1.out.a
 go_wp2_with ((with_reducible refine load_blk 27 (.tmp 2) w.heap.size 27 (gv x) _ rfl rfl ?_ Tryz.underlying27 ?_ ?_ ?_ ?_);exact GA.out;exact rfl;exact FG.out;exact rfl)
 refine MT.out.mono ?_
 rintro e w1 ⟨rfl,b1⟩
 have S2:=hid (S1.out.below b1);clear S1 MT b1 GA;go_wp2_with fail
 go_ret;exact⟨rfl,S2.out.bel⟩
set_option maxHeartbeats 2000000 in
theorem refChk_bad (x:Gv) (v:Vv) (n:Nat) (w:World) (hx:GvW w x) (hc:GvC x) (hv:VvW w v) (hm:begB x=true) (hn:x.ks.length=n) (hb:v.f<0∨(n:Int)≤v.f∨v.p<1∨1048576<v.p):
  Calls Tryz.prog 9 #[.agg (gv x).toArray,.agg (vv v).toArray] w λe w'=>e= .returned (.int .i64 1)∧Below w.heap.size w w':=by
 have S0:=hid (CK.new hx hv);have FG:=hid (gv_size x);have HM:=hid hm;have HC:=hid hc;obtain⟨kp,hkp⟩:∃ p,x.kp=p:=⟨_,rfl⟩;obtain⟨fr,hfr⟩:∃ p,v.f=p:=⟨_,rfl⟩;obtain⟨pl,hpl⟩:∃ p,v.p=p:=⟨_,rfl⟩;have CELL:=hid (λ(W:World) (h:CK w W x v)=>show W.cell? ⟨w.heap.size,3,none⟩=some (.slice kp n x.kc)∧W.cell? ⟨w.heap.size+1,0,none⟩=some (.int .i64 pl)∧W.cell? ⟨w.heap.size+1,1,none⟩=some (.int .i64 fr) from by
  have h1:=(gv_cells h.a).2.2.2.1;have h2:=vv_cells h.b h.rv.ll;rw[hn,hkp] at h1;rw[hpl,hfr] at h2;exact⟨h1,h2.1,h2.2.1⟩)
 rw[hfr,hpl] at hb;clear hx hv hm hn hkp hfr hpl hc
 go_enter Tryz.func9,Tryz.ntmps9
 go_upto_region 1 with(fail)
 refine world_at (λY=>CK w Y x v) S0.out ?_
 rintro V s1
 have S1:=hid s1;clear s1 S0;have MT:=hid (gMayR_t x V S1.out.rx HC.out);rw[HM.out] at MT;have GA:=hid S1.out.a
 go_wp2_with ((with_reducible refine load_blk 27 (.tmp 2) w.heap.size 27 (gv x) _ rfl rfl ?_ Tryz.underlying27 ?_ ?_ ?_ ?_);exact GA.out;exact rfl;exact FG.out;exact rfl)
 refine MT.out.mono ?_
 rintro e w1 ⟨rfl,b1⟩
 have S2:=hid (S1.out.below b1);clear S1 MT b1 GA;obtain⟨c3,d0,d1⟩:=CELL.out w1 S2.out;clear CELL
 by_cases h1:fr<0
 ·clear hb;go_wp2_with fail
  go_ret;exact⟨rfl,S2.out.bel⟩
 ·have g1:(0:Int)≤fr:=by omega
  by_cases h2:(n:Int)≤fr
  ·clear hb h1;go_wp2_with fail
   go_ret;exact⟨rfl,S2.out.bel⟩
  ·have g2:fr< (n:Int):=by omega
   by_cases h3:pl<1
   ·clear hb h1 h2;go_wp2_with fail
    go_ret;exact⟨rfl,S2.out.bel⟩
   ·have g3:(1:Int)≤pl:=by omega
    have g4:(1048576:Int)<pl:=by omega
    clear hb h1 h2 h3;go_wp2_with fail
    go_ret;exact⟨rfl,S2.out.bel⟩
structure C8 (Y:World) (g0 g1 bk ok j q n:Nat) (kc:Nat) (x:Gv) (v:Vv) (y:Ky):Prop where
 k:Y.cell? ⟨g0,3,none⟩=some (.slice (some ⟨bk,ok,none⟩) n kc)
 f:Y.cell? ⟨g1,1,none⟩=some (.int .i64 (j:Int))
 y:Y.cell? ⟨bk,ok+j,none⟩=some (.slice y.A y.X.length y.c)
 g:Y.rangeAt g0 0 (gv x)
 p:Y.cell? ⟨g1,0,none⟩=some (.int .i64 (q:Int))
 l:Y.rangeAt g1 2 (u8s v.l)
 s:Y.cell? ⟨g1,34,none⟩=some (.slice v.A v.s.length v.c)
set_option maxHeartbeats 3000000 in
theorem refChk_yes (x:Gv) (v:Vv) (n j q:Nat) (y:Ky) (w:World) (hx:GvW w x) (hc:GvC x) (hst:x.st.length≤900000) (hv:VvW w v) (hm:begB x=true) (hn:x.ks.length=n) (hf:v.f=(j:Int)) (hj:j<n) (hp:v.p=(q:Int)) (q1:1≤q) (q2:q≤1048576) (hy:x.ks[j]? =some y) (hs:v.s.length≤100000) (hsc:v.s.length≤v.c):
  Calls Tryz.prog 9 #[.agg (gv x).toArray,.agg (vv v).toArray] w λe w'=>e= .returned (.int .i64 (if verN y.X (textV (anE x) q v.l) v.s=0 then 0 else 3))∧Below w.heap.size w w':=by
 have S0:=hid (CK.new hx hv);have FG:=hid (gv_size x);have HM:=hid hm;have HC:=hid hc;have HY:=hid hy;have HS:=hid hs;have LL:=hid hv.ll;have HSC:=hid hsc;have HYC:=hid (hc y (List.mem_of_getElem? hy));have FY:=hid (show y.X.length≤1000 from by rw[formN_len ((begB_h hm).k y (List.mem_of_getElem? hy))];decide);have AN:=hid (λ(W:World) (h:CK w W x v)=>gAnchorR_yes x W h.rx hc hm hst);have AL:=hid (show(anE x).length=32 from rfl);have TXT:=hid (λ(W:World)=>show Calls Tryz.prog 16 #[.agg (u8s (anE x)).toArray,.int .i64 (q:Int),.agg (u8s v.l).toArray] W λe w'=>∃ u,e= .returned u∧Fresh 5 W w' u (textV (anE x) q v.l) from refText_t (anE x) v.l q W AL.out LL.out q2);have TB:=hid (textV_bytes (q:=q) (anE_bytes x) hv.lb);have TL:=hid (textV_len (q:=q) AL.out LL.out);obtain⟨kp,hkp⟩:∃ p,x.kp=p:=⟨_,rfl⟩;have CELL:=hid (λ(W:World) (h:CK w W x v)=>show W.cell? ⟨w.heap.size,3,none⟩=some (.slice kp n x.kc)∧W.cell? ⟨w.heap.size+1,0,none⟩=some (.int .i64 (q:Int))∧W.cell? ⟨w.heap.size+1,1,none⟩=some (.int .i64 (j:Int))∧W.cell? ⟨w.heap.size+1,34,none⟩=some (.slice v.A v.s.length v.c) from by
  have h1:=(gv_cells h.a).2.2.2.1;have h2:=vv_cells h.b h.rv.ll;rw[hn,hkp] at h1;rw[hp,hf] at h2;exact⟨h1,h2.1,h2.2.1,h2.2.2⟩)
 obtain⟨bk,ok,hke,_,_⟩:=hx.ks j y hy;have hke2:kp=some ⟨bk,ok,none⟩:=hkp.symm.trans hke;subst hke2;have CS:=hid (λ(W:World) (h:CK w W x v)=>show C8 W w.heap.size (w.heap.size+1) bk ok j q n x.kc x v y from by
  obtain⟨c3,d0,d1,d34⟩:=CELL.out W h;obtain⟨b',o',e',_,rg⟩:=h.rx.ks j y HY.out;have e2:=hkp.symm.trans e'
  injection e2 with e2
  injection e2 with h1 h2 _
  subst h1;subst h2;have ck:=rg 0 _ rfl;rw[Nat.mul_one,Nat.add_zero] at ck;exact⟨c3,d1,ck,rows_of_blk h.a,d0,vv_range h.b,d34⟩)
 obtain⟨AE,hAE⟩:∃ l,anE x=l:=⟨_,rfl⟩;rw[hAE] at AN AL TXT TB TL ⊢;obtain⟨E,hE⟩:∃ z,verN y.X (textV AE q v.l) v.s=z:=⟨_,rfl⟩;rw[hE];have HEE:=hid hE;obtain⟨R,hR⟩:∃ z:Int,(if E=0 then(0:Int) else 3)=z:=⟨_,rfl⟩;rw[hR];have HR0:=hid (λ(h:E=0)=>show R=0 from by rw[←hR,if_pos h]);have HR3:=hid (λ(h:¬ E=0)=>show R=3 from by rw[←hR,if_neg h]);have j1:(j:Int)< (n:Int):=by omega
 have q1':¬ ((q:Int)<1):=by omega
 have q2':¬ ((1048576:Int)< (q:Int)):=by omega
 have ZL:=hid (hash_size v.l LL.out);clear hx hv hm hn hf hp hy hs hsc hke hkp hAE hE hR hc hst
 go_enter Tryz.func9,Tryz.ntmps9
 go_upto_region 1 with(fail)
 refine world_at (λY=>CK w Y x v) S0.out ?_
 rintro V s1
 have S1:=hid s1;clear s1 S0;have MT:=hid (gMayR_t x V S1.out.rx HC.out);rw[HM.out] at MT;have GA:=hid S1.out.a
 go_wp2_with ((with_reducible refine load_blk 27 (.tmp 2) w.heap.size 27 (gv x) _ rfl rfl ?_ Tryz.underlying27 ?_ ?_ ?_ ?_);exact GA.out;exact rfl;exact FG.out;exact rfl)
 refine MT.out.mono ?_
 rintro e w1 ⟨rfl,b1⟩
 have S2:=hid (S1.out.below b1);clear S1 MT b1 GA;obtain⟨c3,d0,d1,d34⟩:=CELL.out w1 S2.out
 go_upto_region 3 with(fail)
 clear c3 d0 d1 d34;obtain⟨U,hU⟩:∃ U,w1.drew=U:=⟨_,rfl⟩;have S3:=hid (S2.out.below (show Below w1.heap.size w1 U from by rw[←hU];exact(Below.refl _ _).drew));clear S2 CELL;refine wp_region_held (S:=λY=>C8 Y w.heap.size (w.heap.size+1) bk ok j q n x.kc x v y) (by kernel_rfl) ?_;change wpAnyH _ _ _ _ _ _ _ _ w1.drew;rw[hU];clear hU;have s0:=CS.out U S3.out;refine tka9 0 s0 ?_;refine tk9 1 ?_ ?_ s0 ?_;rotate_left 1
 ·(intro w hS;have hs:=hS.k;clear hS;go_simp;try (with_reducible rfl))
 refine tka9 2 s0 ?_;refine tk9 3 ?_ ?_ s0 ?_;rotate_left 1
 ·(intro w hS;have hs:=hS.f;clear hS;go_simp;try (with_reducible rfl))
 refine tka9 4 s0 ?_;refine tk9 5 ?_ ?_ s0 ?_;rotate_left 1
 ·(intro w hS;have hs:=hS.y;clear hS;go_simp;try (with_reducible rfl))
 refine tkg9 6 (v:= .agg (gv x).toArray) (yieldsIf_load_mid (by kernel_rfl) 27 (.tmp 2) rfl w.heap.size 0 (by go_simp) (gv x) _ (λ_ h=>h.g) Tryz.underlying27 rfl (FG.out)) s0 ?_;refine tka9 8 s0 ?_;refine tk9 9 ?_ ?_ s0 ?_;rotate_left 1
 ·(intro w hS;have hs:=hS.p;clear hS;go_simp;try (with_reducible rfl))
 refine tka9 10 s0 ?_;refine tkg9 11 (v:= .agg (u8s v.l).toArray) (yieldsIf_load_mid (by kernel_rfl) 23 (.tmp 41) rfl (w.heap.size+1) 2 (by go_simp) (u8s v.l) _ (λ_ h=>h.l) Tryz.underlying23 rfl (ZL.out)) s0 ?_;refine tka9 13 s0 ?_;refine tk9 14 ?_ ?_ s0 ?_;rotate_left 1
 ·(intro w hS;have hs:=hS.s;clear hS;go_simp;try (with_reducible rfl))
 refine rd9 7 λK hK=>?_
 go_simp;refine(AN.out U S3.out).mono ?_
 rintro e w3 ⟨rfl,b3⟩
 have S4:=hid (S3.out.below b3);refine hK.out _ _ (CS.out w3 S4.out) (λ_=>?_);clear hK K b3 S3 s0 AN;refine rd9 12 λK hK=>?_
 go_simp;refine(TXT.out w3).mono ?_
 rintro e w4 ⟨u,rfl,fr⟩
 obtain⟨At,ct,hu,hct⟩:=own_form fr.1;subst hu;have ST:=hid (Sr.of_own fr.1);have HCT:=hid hct;have S5:=hid (S4.out.below fr.2);refine hK.out _ _ (CS.out w4 S5.out) (λ_=>?_);clear hK K fr S4 TXT hct;have VT:=hid (refver_any y.X (textV AE q v.l) v.s y.A At v.A y.X.length y.c (textV AE q v.l).length ct v.s.length v.c w4 rfl (S5.out.rx.k y (List.mem_of_getElem? HY.out)) (S5.out.rx.kb y (List.mem_of_getElem? HY.out)) HYC.out (by have:=FY.out;omega) rfl ST.out TB.out (by rw[TL.out];decide) rfl S5.out.rv.s S5.out.rv.sb HSC.out (by have:=HS.out;omega));rw[HEE.out] at VT;refine rd9 15 λK hK=>?_
 go_simp;refine VT.out.mono ?_
 rintro e w7 ⟨rfl,b7⟩
 have S7:=hid (S5.out.below b7);have s3:=CS.out w7 S7.out;refine hK.out _ _ s3 (λ_=>?_);clear hK K b7 VT ST
 by_cases h0:E=0
 ·have e0:((E:Int) != 0)=false:=by rw[bne_eq_false_iff_eq];omega
  have HR:=hid (HR0.out h0);clear h0;refine tka9 16 s3 ?_;refine wpAnyH_done (by kernel_rfl) ?_ _;go_simp;go_wp2_with fail
  go_ret;exact⟨by rw[HR.out];rfl,S7.out.bel⟩
 ·have e0:((E:Int) != 0)=true:=by rw[bne_iff_ne];omega
  have HR:=hid (HR3.out h0);clear h0;refine tka9 16 s3 ?_;refine wpAnyH_done (by kernel_rfl) ?_ _;go_simp;go_wp2_with fail
  go_ret;exact⟨by rw[HR.out];rfl,S7.out.bel⟩
def keyAt (x:Gv) (j:Nat):List Nat:=match x.ks[j]? with
 |some y=>y.X
 |none=>[]
def chkV (x:Gv) (v:Vv):Int:=if begB x=false∨v.f<0∨(x.ks.length:Int)≤v.f∨v.p<1∨1048576<v.p then 1 else if verN (keyAt x v.f.toNat) (textV (anE x) v.p.toNat v.l) v.s=0 then 0 else 3
theorem chk_in {x:Gv} {v:Vv} (h:¬ (begB x=false∨v.f<0∨(x.ks.length:Int)≤v.f∨v.p<1∨1048576<v.p)):∃ (j q:Nat) (y:Ky),begB x=true∧v.f=(j:Int)∧j<x.ks.length∧v.p=(q:Int)∧1≤q∧q≤1048576∧x.ks[j]? =some y∧keyAt x v.f.toNat=y.X∧v.p.toNat=q:=by
 have hm:begB x=true:=by
  cases hb:begB x with
  |false=>exact absurd (Or.inl hb) h
  |true=>rfl
 have h1:0≤v.f∧v.f< (x.ks.length:Int)∧1≤v.p∧v.p≤1048576:=by
  refine⟨?_,?_,?_,?_⟩<;>(refine Classical.byContradiction λhn=>h ?_)
  ·exact .inr (.inl (by omega))
  ·exact .inr (.inr (.inl (by omega)))
  ·exact .inr (.inr (.inr (.inl (by omega))))
  ·exact .inr (.inr (.inr (.inr (by omega))))
 have hl:v.f.toNat<x.ks.length:=by omega
 refine⟨v.f.toNat,v.p.toNat,x.ks[v.f.toNat],hm,by omega,hl,by omega,by omega,by omega,List.getElem?_eq_getElem hl,?_,rfl⟩;unfold keyAt;rw[List.getElem?_eq_getElem hl]
theorem vCheck_any (x:Gv) (v:Vv) (w:World) (hx:GvW w x) (hv:VvW w v) (hi:KI w) (hk:KAt w) (hs:v.s.length≤100000):
  Calls Tryz.prog 7 #[.agg (gv x).toArray,.agg (vv v).toArray] w λe w'=>e= .returned (.int .i64 (chkV x v))∧Below w.heap.size w w':=by
 by_cases h:begB x=false∨v.f<0∨(x.ks.length:Int)≤v.f∨v.p<1∨1048576<v.p
 ·rw[show chkV x v=1 by unfold chkV;rw[if_pos h]]
  cases hm:begB x with
  |false=>exact vCheck_no x v w hx hv hi hm
  |true=>exact vCheck_bad x v _ w hx hv hi hm rfl (by
    rcases h with h |h
    ·rw[hm] at h;cases h
    ·exact h)
 ·obtain⟨j,q,y,hm,hf,hj,hp,q1,q2,hy,hkk,hqq⟩:=chk_in h;rw[show chkV x v=if verN y.X (textV (anE x) q v.l) v.s=0 then 0 else 3 by unfold chkV;rw[if_neg h,hkk,hqq]];exact vCheck_yes x v _ j q y w hx hv hi hk hm rfl hf hj hp q1 q2 hy hs
theorem refChk_any (x:Gv) (v:Vv) (w:World) (hx:GvW w x) (hc:GvC x) (hst:x.st.length≤900000) (hv:VvW w v) (hs:v.s.length≤100000) (hsc:v.s.length≤v.c):
  Calls Tryz.prog 9 #[.agg (gv x).toArray,.agg (vv v).toArray] w λe w'=>e= .returned (.int .i64 (chkV x v))∧Below w.heap.size w w':=by
 by_cases h:begB x=false∨v.f<0∨(x.ks.length:Int)≤v.f∨v.p<1∨1048576<v.p
 ·rw[show chkV x v=1 by unfold chkV;rw[if_pos h]]
  cases hm:begB x with
  |false=>exact refChk_no x v w hx hc hv hm
  |true=>exact refChk_bad x v _ w hx hc hv hm rfl (by
    rcases h with h |h
    ·rw[hm] at h;cases h
    ·exact h)
 ·obtain⟨j,q,y,hm,hf,hj,hp,q1,q2,hy,hkk,hqq⟩:=chk_in h;rw[show chkV x v=if verN y.X (textV (anE x) q v.l) v.s=0 then 0 else 3 by unfold chkV;rw[if_neg h,hkk,hqq]];exact refChk_yes x v _ j q y w hx hc hst hv hm rfl hf hj hp q1 q2 hy hs hsc
structure TV (w0 W:World) (g1 g4:Nat) (x y:Vv):Prop where
 a:Blk W g1 33 (vv x)
 b:Blk W g4 33 (vv y)
 rx:VvW W x
 ry:VvW W y
 bel:Below w0.heap.size w0 W
theorem TV.below {w0 W W':World} {g1 g4:Nat} {x y:Vv} (h:TV w0 W g1 g4 x y) (hb:Below W.heap.size W W'):TV w0 W' g1 g4 x y:=⟨h.a.below hb h.a.lt,h.b.below hb h.b.lt,h.rx.below hb,h.ry.below hb,h.bel.trans (hb.mono h.bel.size)⟩
def z7v:Vv:=⟨0,7,List.replicate 32 0,none,0,[]⟩
theorem z7v_w (W:World):VvW W z7v:=⟨rfl,zerosV 32,Sr.nil,nil_bytes,Nat.zero_le _⟩
theorem z7v_lit:vv z7v=[.int .i64 0,.int .i64 7,.int .u8 0,.int .u8 0,.int .u8 0,.int .u8 0,.int .u8 0,.int .u8 0,.int .u8 0,.int .u8 0,.int .u8 0,.int .u8 0,.int .u8 0,.int .u8 0,.int .u8 0,.int .u8 0,.int .u8 0,.int .u8 0,.int .u8 0,.int .u8 0,.int .u8 0,.int .u8 0,.int .u8 0,.int .u8 0,.int .u8 0,.int .u8 0,.int .u8 0,.int .u8 0,.int .u8 0,.int .u8 0,.int .u8 0,.int .u8 0,.int .u8 0,.int .u8 0,.slice none 0 0]:=rfl
theorem one_bytesV (x:Nat) (hx:x<256):Bytes [x]:=sl_bytes (λy hy=>by obtain rfl:=List.mem_singleton.1 hy;exact hx)
set_option maxHeartbeats 4000000 in
theorem told13_t (w:World) (hi:KI w) (hk:KAt w):Calls Tryz.prog 8 #[] w λe w'=>e= .returned (.bool true)∧Below w.heap.size w w':=by
 have HI:=hid hi;have HK:=hid hk;have HG:=hid hk.lt;clear hi hk;obtain⟨w1,hw1⟩:∃ V,w.alloc (.cells (u8s [115]).toArray 5 (1,2))=V:=⟨_,rfl⟩;have B1:=hid (show Below w.heap.size w w1 from by rw[←hw1];exact(Below.refl _ _).alloc (Nat.le_refl _) _);have S1:=hid (show Sr w1 (some ⟨w.heap.size,0,none⟩) [115] from by rw[←hw1];exact Sr.made [115] w 5 (1,2));obtain⟨x,hx⟩:∃ q:Vv,(⟨3,2,List.replicate 32 0,some ⟨w.heap.size,0,none⟩,1,[115]⟩:Vv)=q:=⟨_,rfl⟩;have WX:=hid (show VvW w1 x from by rw[←hx];exact⟨rfl,zerosV 32,S1.out,one_bytesV 115 (by decide),by show(1:Nat)≤_;decide⟩);have HXV:=hid (show vv x=[.int .i64 3,.int .i64 2,.int .u8 0,.int .u8 0,.int .u8 0,.int .u8 0,.int .u8 0,.int .u8 0,.int .u8 0,.int .u8 0,.int .u8 0,.int .u8 0,.int .u8 0,.int .u8 0,.int .u8 0,.int .u8 0,.int .u8 0,.int .u8 0,.int .u8 0,.int .u8 0,.int .u8 0,.int .u8 0,.int .u8 0,.int .u8 0,.int .u8 0,.int .u8 0,.int .u8 0,.int .u8 0,.int .u8 0,.int .u8 0,.int .u8 0,.int .u8 0,.int .u8 0,.int .u8 0,.slice (some ⟨w.heap.size,0,none⟩) 1 1] from by rw[←hx];rfl);have HVT:=hid (show x.p=3∧x.f=2∧x.s=[115]∧mayVo x.vt=true from by rw[←hx];exact⟨rfl,rfl,rfl,rfl⟩);have kc:=λ(w:World) (C:Array Value) (n c:Nat)=>Lib.run_convert_bytes_const (P:=Tryz.prog) w 25 5 C n c Tryz.underlying25 Tryz.underlying5
 have hw1':w.alloc (.cells #[.int .u8 115] 5 (1,2))=w1:=hw1;clear hx S1 hw1
 go_enter Tryz.func8,Tryz.ntmps8
 go_upto_region 1 with(fail)
 have FX_x:=hid (vv_size (x:=x) WX.out.ll);have FO_x:=hid (vv_one x);have L_x:=hid (show(vv zVv).length=(vv x).length from by rw[vv_len WX.out.ll,vv_len (x:=zVv) rfl]);have Z_x:=hid (Blk.new w1 33 (vv zVv));have K_x:=hid (Z_x.out.setRow (vv x));have B_x:=hid (below_setRow ((Below.refl (w1).heap.size w1).alloc (Nat.le_refl _) (.cells (vv zVv).toArray 33)) (Nat.le_refl _) (vv x).toArray)
 go_upto_region 2 with((with_reducible refine at_op (.store 33 (.tmp 1) (.tmp 10)) rfl ?_);go_must (refine store_blk 33 (.tmp 1) (.tmp 10) (w1).heap.size 33 (vv zVv) (vv x) rfl rfl Z_x.out L_x.out FX_x.out FO_x.out rfl (by rw[HXV.out];rfl) ?_))
 obtain⟨V1,hV1⟩:∃ V,((w1).alloc (.cells (vv zVv).toArray 33)).setRow (w1).heap.size (vv x).toArray=V:=⟨_,rfl⟩;change Code.wp _ _ _ _ (((w1).alloc (.cells (vv zVv).toArray 33)).setRow (w1).heap.size (vv x).toArray);rw[hV1] at K_x B_x ⊢;clear hV1 Z_x FO_x L_x;clear kc hw1' HXV;obtain⟨g1,hg1⟩:∃ g,w1.heap.size=g:=⟨_,rfl⟩;rw[hg1] at K_x ⊢;have BX:=hid (B1.out.trans (B_x.out.mono B1.out.size));have WX1:=hid (WX.out.below B_x.out);clear hg1 B_x B1 WX;have PT:=hid (vPut_t x V1 WX1.out);unfold erV byV at PT;rw[HVT.out.2.2.2,if_pos rfl,if_pos rfl] at PT
 go_wp2_with ((with_reducible refine load_blk 33 (.tmp 1) g1 33 (vv x) _ rfl rfl ?_ Tryz.underlying33 ?_ ?_ ?_ ?_);exact K_x.out;exact rfl;exact FX_x.out;exact rfl)
 refine PT.out.mono ?_
 rintro e w2 ⟨u,rfl,fr⟩
 have PL:=hid (show(putV x.vt).length=42 from by rw[putV_le WX1.out.ll];show 41+x.s.length=42;rw[HVT.out.2.2.1];rfl);have PB:=hid (show Bytes (putV x.vt) from app_bytes (beN_bytes _ _) (app_bytes (beN_bytes _ _) (app_bytes WX1.out.lb (app_bytes (beN_bytes _ _) WX1.out.sb))));have FO:=hid (frontV_ok HVT.out.2.2.2 (show x.vt.l.length=32 from WX1.out.ll));obtain⟨xs,hxs⟩:∃ l,putV x.vt=l:=⟨_,rfl⟩;rw[hxs] at fr PL PB FO;have fr1:=fr.1;rw[PL.out] at fr1;obtain⟨Ab,cb,hu,_⟩:=own_form fr1;subst hu;have S2:=hid (Sr.of_own fr1);have K2:=hid (K_x.out.below fr.2 K_x.out.lt);have W2:=hid (WX1.out.below fr.2);have B2:=hid (BX.out.trans (fr.2.mono BX.out.size));clear fr fr1 PT K_x WX1 BX hxs;have GT:=hid (vGet_t xs Ab 42 cb w2 PL.out S2.out PB.out (by decide));go_wp2_with fail
 refine GT.out.mono ?_
 rintro e w3 ⟨b3,hh⟩
 obtain⟨y,hy,rfl,wy⟩:∃ y:Vv,y.vt=x.vt∧e= .returned (.tuple #[.agg (vv y).toArray,.int .i64 0])∧VvW w3 y:=by
  rcases hh with⟨h1,_⟩ |⟨_,y,h1,h2,h3⟩
  ·rw[FO.out.2] at h1;cases h1
  ·exact⟨y,h1.trans FO.out.1,h2,h3⟩
 have K3:=hid (K2.out.below b3 K2.out.lt);have W3:=hid (W2.out.below b3);have B3:=hid (B2.out.trans (b3.mono B2.out.size));have HY:=hid hy;have WY:=hid wy;clear hh GT b3 hy wy K2 W2 B2 S2 FO PL PB;have FX_y:=hid (vv_size (x:=y) WY.out.ll);have FO_y:=hid (vv_one y);have L_y:=hid (show(vv zVv).length=(vv y).length from by rw[vv_len WY.out.ll,vv_len (x:=zVv) rfl]);have Z_y:=hid (Blk.new w3 33 (vv zVv));have K_y:=hid (Z_y.out.setRow (vv y));have B_y:=hid (below_setRow ((Below.refl (w3).heap.size w3).alloc (Nat.le_refl _) (.cells (vv zVv).toArray 33)) (Nat.le_refl _) (vv y).toArray)
 go_upto_region 4 with((with_reducible refine at_op (.store 33 (.tmp 4) (.tmp 19)) rfl ?_);go_must (refine store_blk 33 (.tmp 4) (.tmp 19) (w3).heap.size 33 (vv zVv) (vv y) rfl rfl Z_y.out L_y.out FX_y.out FO_y.out rfl rfl ?_))
 obtain⟨V3,hV3⟩:∃ V,((w3).alloc (.cells (vv zVv).toArray 33)).setRow (w3).heap.size (vv y).toArray=V:=⟨_,rfl⟩;change Code.wp _ _ _ _ (((w3).alloc (.cells (vv zVv).toArray 33)).setRow (w3).heap.size (vv y).toArray);rw[hV3] at K_y B_y ⊢;clear hV3 Z_y FO_y L_y;obtain⟨g4,hg4⟩:∃ g,w3.heap.size=g:=⟨_,rfl⟩;rw[hg4] at K_y ⊢;have T4:=hid (show TV w V3 g1 g4 x y from⟨K3.out.below B_y.out K3.out.lt,K_y.out,W3.out.below B_y.out,WY.out.below B_y.out,B3.out.trans (B_y.out.mono B3.out.size)⟩);clear hg4 B_y K_y K3 W3 WY B3;have PZ:=hid (vPut_t z7v V3 (z7v_w V3));rw[z7v_lit,show erV z7v=1 from rfl] at PZ;go_wp2_with fail
 refine PZ.out.mono ?_
 rintro e w5 ⟨u,rfl,fr⟩
 have T5:=hid (T4.out.below fr.2);clear fr PZ T4
 go_upto_region 5 with(fail)
 obtain⟨U,hU⟩:∃ U,w5.drew=U:=⟨_,rfl⟩;have TU:=hid (T5.out.below (show Below w5.heap.size w5 U from by rw[←hU];exact(Below.refl _ _).drew));clear T5;have SU:=hid (λ(Y:World) (h:TV w Y g1 g4 x y)=>show Blk Y g1 33 (vv x)∧Blk Y g4 33 (vv y) from⟨h.a,h.b⟩);have SM:=hid (λ(Y:World) (h:TV w Y g1 g4 x y)=>vSame_t y x Y h.ry h.rx);rw[HY.out,sameV_iff.2 rfl] at SM;have BZ:=built_hz;have BGZ:=built_gz;have s0:=SU.out U TU.out;refine wp_region_held (S:=λY=>Blk Y g1 33 (vv x)∧Blk Y g4 33 (vv y)) (by kernel_rfl) ?_;change wpAnyH _ _ _ _ _ _ _ _ w5.drew;rw[hU];clear hU;refine tka9 0 s0 ?_;refine tka9 1 s0 ?_;have TX:=hid (vText_t zH zH 3 U rfl rfl (by decide));refine rdw9 2 λK hK=>?_
 go_simp;refine TX.out.mono ?_
 rintro e w6 ⟨u,rfl,fr⟩
 have fr1:=fr.1;rw[textV_len (a:=zH) (l:=zH) (q:=3) rfl rfl] at fr1;obtain⟨At,ct,hu,_⟩:=own_form fr1;subst hu;have T6:=hid (TU.out.below fr.2);have s0:=SU.out _ T6.out;refine hK.out _ _ s0 (λ_=>?_);clear hK K fr fr1 TX TU;refine tka9 3 s0 ?_;refine tka9 4 s0 ?_;refine tka9 5 s0 ?_;refine tka9 6 s0 ?_;refine tka9 7 s0 ?_;refine tka9 8 s0 ?_;refine tka9 9 s0 ?_;refine tka9 10 s0 ?_;refine tka9 11 s0 ?_;refine tka9 12 s0 ?_;refine tka9 13 s0 ?_;refine tkg9 14 (v:= .agg (vv y).toArray) (yieldsIf_load_mid (by kernel_rfl) 33 (.tmp 4) rfl g4 0 (by go_simp) (vv y) _ (λ_ h=>rows_of_blk h.2) Tryz.underlying33 rfl (FX_y.out)) s0 ?_;refine tkg9 15 (v:= .agg (vv x).toArray) (yieldsIf_load_mid (by kernel_rfl) 33 (.tmp 1) rfl g1 0 (by go_simp) (vv x) _ (λ_ h=>rows_of_blk h.1) Tryz.underlying33 rfl (FX_x.out)) s0 ?_
 try go_simp
 refine rdw9 16 λK hK=>?_
 go_simp;refine(SM.out w6 T6.out).mono ?_
 rintro e w7 ⟨rfl,b_⟩
 have T7:=hid (T6.out.below b_);have s0:=SU.out _ T7.out;refine hK.out _ _ s0 (λ_=>?_);clear hK K b_;refine tka9 17 s0 ?_;refine tka9 18 s0 ?_;refine tka9 19 s0 ?_;refine tka9 20 s0 ?_;refine tka9 21 s0 ?_;refine tka9 22 s0 ?_;refine tka9 23 s0 ?_;refine tkg9 24 (v:= .agg (vv x).toArray) (yieldsIf_load_mid (by kernel_rfl) 33 (.tmp 1) rfl g1 0 (by go_simp) (vv x) _ (λ_ h=>rows_of_blk h.1) Tryz.underlying33 rfl (FX_x.out)) s0 ?_
 try go_simp
 refine rdw9 25 λK hK=>?_
 go_simp;refine(vCheck_no zGv x w7 (zGv_w w7) T7.out.rx (HI.out.kept T7.out.bel) zG_no).mono ?_
 rintro e w8 ⟨rfl,b_⟩
 have T8:=hid (T7.out.below b_);have s0:=SU.out _ T8.out;refine hK.out _ _ s0 (λ_=>?_);clear hK K b_;refine tka9 26 s0 ?_;refine tka9 27 s0 ?_;refine tka9 28 s0 ?_;refine tkg9 30 (v:= .agg (vv x).toArray) (yieldsIf_load_mid (by kernel_rfl) 33 (.tmp 1) rfl g1 0 (by go_simp) (vv x) _ (λ_ h=>rows_of_blk h.1) Tryz.underlying33 rfl (FX_x.out)) s0 ?_;have FK:=hid (fake_t 1 0 0 (by decide) w8);refine rdw9 29 λK hK=>?_
 go_simp;refine FK.out.mono ?_
 rintro e w9 ⟨gk,hgk,rfl,wgk,b9⟩
 have T9:=hid (T8.out.below b9);have WG:=hid wgk;have HGK:=hid (show gk.ge=fakeE 1 0 0 from hgk);have s0:=SU.out _ T9.out;refine hK.out _ _ s0 (λ_=>?_);clear hK K b9 FK hgk wgk T8;have MB:=hid (show begB gk=true from by rw[begB_Q,HGK.out];exact fakeE_ok 1 0 0 (by decide) rfl rfl);have KL:=hid (show gk.ks.length=4 from by
  have h:=congrArg (λe=>e.ks.length) HGK.out
  simpa [Gv.ge,fakeE] using h)
 obtain⟨ky,hky⟩:∃ z,gk.ks[2]? =some z:=⟨_,List.getElem?_eq_getElem (by rw[KL.out];decide)⟩
 try go_simp
 refine rdw9 31 λK hK=>?_
 go_simp;refine(vCheck_short gk x 4 2 3 ky w9 WG.out T9.out.rx (HI.out.kept T9.out.bel) (HK.out.below T9.out.bel HG.out) MB.out KL.out HVT.out.2.1 (by decide) HVT.out.1 (by decide) (by decide) hky (by rw[HVT.out.2.2.1];decide)).mono ?_
 rintro e wA ⟨rfl,b_⟩
 have TA:=hid (T9.out.below b_);have s0:=SU.out _ TA.out;refine hK.out _ _ s0 (λ_=>?_);clear hK K b_;refine tka9 32 s0 ?_;refine tka9 33 s0 ?_;refine tka9 34 s0 ?_;refine wpAnyH_done (by kernel_rfl) ?_ _;go_simp;go_wp2_with fail
 go_ret;exact⟨rfl,TA.out.bel⟩
end Go.Proofs.YtjlophplcmidlaaGreatDoor
