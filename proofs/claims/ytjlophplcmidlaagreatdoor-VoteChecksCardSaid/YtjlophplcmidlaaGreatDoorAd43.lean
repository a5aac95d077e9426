/-
  PACKAGE vote
-/
import Derived.Test.YtjlophplcmidlaaGreatDoorAd41
import Derived.Test.YtjlophplcmidlaaGreatDoorAd39
import Derived.Test.YtjlophplcmidlaaGreatDoorAd42
import Derived.Test.YtjlophplcmidlaaGreatDoorTk
open Go.Lib (hid)
set_option maxRecDepth 100000
namespace Go.Proofs.YtjlophplcmidlaaGreatDoor
open Go Go.RowKit Sh
theorem sum_any (l:List Nat):Bytes (sum l):=by
 have hok:∀ s:S8,s.ok→Bytes (out s):=λs hs=>by
  rw[bytes_mem];intro x hx;obtain⟨v,hv,hx⟩:=List.mem_flatMap.1 hx;have hvl:v<4294967296:=by
   obtain⟨i,hi,rfl⟩:=List.mem_iff_getElem.1 hv;have:=list_lt hs i
   rwa [gt_of_lt hi] at this
  unfold bytes4 at hx;simp at hx;omega
 exact hok _ (run_ok _ _)
theorem anE_bytes (x:Gv):Bytes (anE x):=by
 unfold anE;exact sum_any _
theorem textV_bytes {a l:List Nat} {q:Nat} (ha:Bytes a) (hl:Bytes l):Bytes (textV a q l):=by
 unfold textV;exact app_bytes (app_bytes (app_bytes (sl_bytes (by decide)) ha) (beN_bytes _ _)) hl
set_option maxHeartbeats 2000000 in
theorem vCheck_yes (x:Gv) (v:Vv) (n j q:Nat) (y:Ky) (w:World) (hx:GvW w x) (hv:VvW w v) (hi:KI w) (hk:KAt w) (hm:begB x=true) (hn:x.ks.length=n) (hf:v.f=(j:Int)) (hj:j<n) (hp:v.p=(q:Int)) (q1:1≤q) (q2:q≤1048576) (hy:x.ks[j]? =some y) (hs:v.s.length≤100000):
  Calls Tryz.prog 7 #[.agg (gv x).toArray,.agg (vv v).toArray] w λe w'=>e= .returned (.int .i64 (if verN y.X (textV (anE x) q v.l) v.s=0 then 0 else 3))∧Below w.heap.size w w':=by
 have S0:=hid (CK.new hx hv);have HI:=hid hi;have FG:=hid (gv_size x);have HM:=hid hm;have HK:=hid hk;have HG:=hid hk.lt;have HY:=hid hy;have HS:=hid hs;have LL:=hid hv.ll;have FY:=hid (show formN y.X=true∧y.X.length≤1000 from by
  have h:=(begB_h hm).k y (List.mem_of_getElem? hy);exact⟨h,by rw[formN_len h];decide⟩)
 have AN:=hid (λ(W:World) (h:CK w W x v)=>gAnchor_yes x W h.rx (HI.out.kept h.bel) hm (HK.out.below h.bel HG.out));have AL:=hid (show(anE x).length=32 from rfl);have TXT:=hid (λ(W:World)=>vText_t (anE x) v.l q W AL.out LL.out q2);obtain⟨kp,hkp⟩:∃ p,x.kp=p:=⟨_,rfl⟩;have CELL:=hid (λ(W:World) (h:CK w W x v)=>show W.cell? ⟨w.heap.size,3,none⟩=some (.slice kp n x.kc)∧W.cell? ⟨w.heap.size+1,0,none⟩=some (.int .i64 (q:Int))∧W.cell? ⟨w.heap.size+1,1,none⟩=some (.int .i64 (j:Int))∧W.cell? ⟨w.heap.size+1,34,none⟩=some (.slice v.A v.s.length v.c) from by
  have h1:=(gv_cells h.a).2.2.2.1;have h2:=vv_cells h.b h.rv.ll;rw[hn,hkp] at h1;rw[hp,hf] at h2;exact⟨h1,h2.1,h2.2.1,h2.2.2⟩)
 have KROW:=hid (λ(W:World) (h:CK w W x v)=>show ∃ b o,kp=some ⟨b,o,none⟩∧W.cell? ⟨b,o+j,none⟩=some (.slice y.A y.X.length y.c) from by
  obtain⟨b,o,e,_,rg⟩:=h.rx.ks j y HY.out;refine⟨b,o,hkp.symm.trans e,?_⟩;have:=rg 0 _ rfl
  rwa [Nat.mul_one,Nat.add_zero] at this)
 have TB:=hid (textV_bytes (q:=q) (anE_bytes x) hv.lb);have TL:=hid (textV_len (q:=q) AL.out LL.out);obtain⟨AE,hAE⟩:∃ l,anE x=l:=⟨_,rfl⟩;rw[hAE] at AN AL TXT TB TL ⊢;obtain⟨E,hE⟩:∃ z,verN y.X (textV AE q v.l) v.s=z:=⟨_,rfl⟩;rw[hE];have HEE:=hid hE;obtain⟨R,hR⟩:∃ z:Int,(if E=0 then(0:Int) else 3)=z:=⟨_,rfl⟩;rw[hR];have HR0:=hid (λ(h:E=0)=>show R=0 from by rw[←hR,if_pos h]);have HR3:=hid (λ(h:¬ E=0)=>show R=3 from by rw[←hR,if_neg h]);clear hE hR;have j1:(j:Int)< (n:Int):=by omega
 have q1':¬ ((q:Int)<1):=by omega
 have q2':¬ ((1048576:Int)< (q:Int)):=by omega
 clear hx hv hi hk hm hn hf hp hy hs hkp hAE
 go_enter Tryz.func7,Tryz.ntmps7
 go_upto_region 1 with(fail)
 refine world_at (λY=>CK w Y x v) S0.out ?_
 rintro V s1
 have S1:=hid s1;clear s1 S0;have MT:=hid (gMay_t x V S1.out.rx (HI.out.kept S1.out.bel));rw[HM.out] at MT;have GA:=hid S1.out.a
 go_wp2_with ((with_reducible refine load_blk 27 (.tmp 2) w.heap.size 27 (gv x) _ rfl rfl ?_ Tryz.underlying27 ?_ ?_ ?_ ?_);exact GA.out;exact rfl;exact FG.out;exact rfl)
 refine MT.out.mono ?_
 rintro e w1 ⟨rfl,b1⟩
 have S2:=hid (S1.out.below b1);clear S1 MT b1 GA;obtain⟨c3,d0,d1,d34⟩:=CELL.out w1 S2.out
 go_upto_region 3 with(fail)
 clear c3 d0 d1 d34;obtain⟨U,hU⟩:∃ U,w1.drew=U:=⟨_,rfl⟩;have S3:=hid (S2.out.below (show Below w1.heap.size w1 U from by rw[←hU];exact(Below.refl _ _).drew));clear S2;have SS:=hid (λ(W:World) (h:CK w W x v)=>show Blk W w.heap.size 27 (gv x)∧W.cell? ⟨w.heap.size+1,0,none⟩=some (.int .i64 (q:Int))∧W.rangeAt (w.heap.size+1) 2 (u8s v.l) from⟨h.a,(CELL.out W h).2.1,vv_range h.b⟩);have ZL:=hid (hash_size v.l LL.out);refine wp_region_held (S:=λY=>Blk Y w.heap.size 27 (gv x)∧Y.cell? ⟨w.heap.size+1,0,none⟩=some (.int .i64 (q:Int))∧Y.rangeAt (w.heap.size+1) 2 (u8s v.l)) (by kernel_rfl) ?_;change wpAnyH _ _ _ _ _ _ _ _ w1.drew;rw[hU];clear hU;have s0:=SS.out U S3.out;refine tkg9 0 (v:= .agg (gv x).toArray) (yieldsIf_load_mid (by kernel_rfl) 27 (.tmp 2) rfl w.heap.size 0 (by go_simp) (gv x) _ (λ_ h=>rows_of_blk h.1) Tryz.underlying27 rfl (FG.out)) s0 ?_;refine tka9 2 s0 ?_;refine tk9 3 ?_ ?_ s0 ?_;rotate_left 1
 ·(intro w hS;have hs:=hS.2.1;clear hS;go_simp;try (with_reducible rfl))
 refine tka9 4 s0 ?_;refine tkg9 5 (v:= .agg (u8s v.l).toArray) (yieldsIf_load_mid (by kernel_rfl) 23 (.tmp 36) rfl (w.heap.size+1) 2 (by go_simp) (u8s v.l) _ (λ_ h=>h.2.2) Tryz.underlying23 rfl (ZL.out)) s0 ?_;refine rdw9 1 λK hK=>?_
 go_simp;refine(AN.out U S3.out).mono ?_
 rintro e w3 ⟨rfl,b3⟩
 have S4:=hid (S3.out.below b3);have s1:=SS.out w3 S4.out;refine hK.out _ _ s1 (λ_=>?_);clear hK K b3 S3 s0 AN;refine rdw9 6 λK hK=>?_
 go_simp;refine(TXT.out w3).mono ?_
 rintro e w4 ⟨u,rfl,fr⟩
 obtain⟨At,ct,hu,hct⟩:=own_form fr.1;subst hu;have ST:=hid (Sr.of_own fr.1);have HCT:=hid hct;have S5:=hid (S4.out.below fr.2);have s2:=SS.out w4 S5.out;refine hK.out _ _ s2 (λ_=>?_);clear hK K fr S4 s1 TXT hct;refine tka9 7 s2 ?_;refine wpAnyH_done (by kernel_rfl) ?_ _;go_simp;clear s2
 go_upto_region 4 with(fail)
 obtain⟨U2,hU⟩:∃ U,w4.drew=U:=⟨_,rfl⟩;have bU:Below w4.heap.size w4 U2:=by rw[←hU];exact(Below.refl _ _).drew
 have S6:=hid (S5.out.below bU);have ST6:=hid (ST.out.below bU);clear bU ST;clear S5;obtain⟨bk,ok,hke,ck⟩:=KROW.out U2 S6.out;subst hke;obtain⟨c3,d0,d1,d34⟩:=CELL.out U2 S6.out;have VT:=hid (verify_t y.X (textV AE q v.l) v.s y.A At v.A y.X.length y.c (textV AE q v.l).length ct v.s.length v.c U2 rfl (S6.out.rx.k y (List.mem_of_getElem? HY.out)) (S6.out.rx.kb y (List.mem_of_getElem? HY.out)) (by have:=FY.out.2;omega) rfl ST6.out TB.out HCT.out (by rw[TL.out];decide) rfl S6.out.rv.s S6.out.rv.sb (by have:=HS.out;omega) (HK.out.below S6.out.bel HG.out) (HI.out.kept S6.out.bel));rw[HEE.out] at VT;clear ST6;refine wp_region_held (S:=λY=>Y.cell? ⟨w.heap.size,3,none⟩=some (.slice (some ⟨bk,ok,none⟩) n x.kc)∧Y.cell? ⟨w.heap.size+1,1,none⟩=some (.int .i64 (j:Int))∧Y.cell? ⟨w.heap.size+1,34,none⟩=some (.slice v.A v.s.length v.c)∧Y.cell? ⟨bk,ok+j,none⟩=some (.slice y.A y.X.length y.c)) (by kernel_rfl) ?_;change wpAnyH _ _ _ _ _ _ _ _ w4.drew;rw[hU];clear hU;have s0:U2.cell? ⟨w.heap.size,3,none⟩=some (.slice (some ⟨bk,ok,none⟩) n x.kc)∧U2.cell? ⟨w.heap.size+1,1,none⟩=some (.int .i64 (j:Int))∧U2.cell? ⟨w.heap.size+1,34,none⟩=some (.slice v.A v.s.length v.c)∧U2.cell? ⟨bk,ok+j,none⟩=some (.slice y.A y.X.length y.c):=⟨c3,d1,d34,ck⟩;refine tka9 0 s0 ?_;refine tk9 1 ?_ ?_ s0 ?_;rotate_left 1
 ·(intro w hS;have hs:=hS.1;clear hS;go_simp;try (with_reducible rfl))
 refine tka9 2 s0 ?_;refine tk9 3 ?_ ?_ s0 ?_;rotate_left 1
 ·(intro w hS;have hs:=hS.2.1;clear hS;go_simp;try (with_reducible rfl))
 refine tka9 4 s0 ?_;refine tk9 5 ?_ ?_ s0 ?_;rotate_left 1
 ·(intro w hS;have hs:=hS.2.2.2;clear hS;go_simp;try (with_reducible rfl))
 refine tka9 6 s0 ?_;refine tka9 7 s0 ?_;refine tk9 8 ?_ ?_ s0 ?_;rotate_left 1
 ·(intro w hS;have hs:=hS.2.2.1;clear hS;go_simp;try (with_reducible rfl))
 refine rdw9 9 λK hK=>?_
 go_simp;refine VT.out.mono ?_
 rintro e w7 ⟨rfl,b7⟩
 have B7:=hid (S6.out.bel.trans (b7.mono S6.out.bel.size));have S7:=hid (S6.out.below b7);have s3:w7.cell? ⟨w.heap.size,3,none⟩=some (.slice (some ⟨bk,ok,none⟩) n x.kc)∧w7.cell? ⟨w.heap.size+1,1,none⟩=some (.int .i64 (j:Int))∧w7.cell? ⟨w.heap.size+1,34,none⟩=some (.slice v.A v.s.length v.c)∧w7.cell? ⟨bk,ok+j,none⟩=some (.slice y.A y.X.length y.c):=by
  obtain⟨e3,_,e1,e34⟩:=CELL.out w7 S7.out;obtain⟨b',o',he,hc⟩:=KROW.out w7 S7.out
  injection he with he
  injection he with h1 h2
  subst h1;subst h2;exact⟨e3,e1,e34,hc⟩
 refine hK.out _ _ s3 (λ_=>?_);clear hK K b7 s0 VT c3 d0 d1 d34 ck;refine tka9 10 s3 ?_;refine wpAnyH_done (by kernel_rfl) ?_ _;go_simp
 by_cases h0:E=0
 ·have e0:((E:Int) != 0)=false:=by rw[bne_eq_false_iff_eq];omega
  have HR:=hid (HR0.out h0);clear h0;go_wp2_with fail
  go_ret;exact⟨by rw[HR.out];rfl,B7.out⟩
 ·have e0:((E:Int) != 0)=true:=by rw[bne_iff_ne];omega
  have HR:=hid (HR3.out h0);clear h0;go_wp2_with fail
  go_ret;exact⟨by rw[HR.out];rfl,B7.out⟩
set_option maxHeartbeats 2000000 in
theorem vCheck_bad (x:Gv) (v:Vv) (n:Nat) (w:World) (hx:GvW w x) (hv:VvW w v) (hi:KI w) (hm:begB x=true) (hn:x.ks.length=n) (hb:v.f<0∨(n:Int)≤v.f∨v.p<1∨1048576<v.p):
  Calls Tryz.prog 7 #[.agg (gv x).toArray,.agg (vv v).toArray] w λe w'=>e= .returned (.int .i64 1)∧Below w.heap.size w w':=by
 have S0:=hid (CK.new hx hv);have HI:=hid hi;have FG:=hid (gv_size x);have HM:=hid hm;obtain⟨kp,hkp⟩:∃ p,x.kp=p:=⟨_,rfl⟩;obtain⟨fr,hfr⟩:∃ p,v.f=p:=⟨_,rfl⟩;obtain⟨pl,hpl⟩:∃ p,v.p=p:=⟨_,rfl⟩;have CELL:=hid (λ(W:World) (h:CK w W x v)=>show W.cell? ⟨w.heap.size,3,none⟩=some (.slice kp n x.kc)∧W.cell? ⟨w.heap.size+1,0,none⟩=some (.int .i64 pl)∧W.cell? ⟨w.heap.size+1,1,none⟩=some (.int .i64 fr) from by
  have h1:=(gv_cells h.a).2.2.2.1;have h2:=vv_cells h.b h.rv.ll;rw[hn,hkp] at h1;rw[hpl,hfr] at h2;exact⟨h1,h2.1,h2.2.1⟩)
 rw[hfr,hpl] at hb;clear hx hv hi hm hn hkp hfr hpl
 go_enter Tryz.func7,Tryz.ntmps7
 go_upto_region 1 with(fail)
 refine world_at (λY=>CK w Y x v) S0.out ?_
 rintro V s1
 have S1:=hid s1;clear s1 S0;have MT:=hid (gMay_t x V S1.out.rx (HI.out.kept S1.out.bel));rw[HM.out] at MT;have GA:=hid S1.out.a
 go_wp2_with ((with_reducible refine load_blk 27 (.tmp 2) w.heap.size 27 (gv x) _ rfl rfl ?_ Tryz.underlying27 ?_ ?_ ?_ ?_);exact GA.out;exact rfl;exact FG.out;exact rfl)
 refine MT.out.mono ?_
 rintro e w1 ⟨rfl,b1⟩
 have S2:=hid (S1.out.below b1);clear S1 MT b1 GA;obtain⟨c3,d0,d1⟩:=CELL.out w1 S2.out;clear CELL
 by_cases h1:fr<0
 ·clear hb;go_wp2_with fail
  go_ret;exact⟨rfl,S2.out.bel⟩
 ·have g1:(0:Int)≤fr:=by omega
  by_cases h2:(n:Int)≤fr
  ·clear hb h1;go_wp2_with fail
   go_ret;exact⟨rfl,S2.out.bel⟩
  ·have g2:fr< (n:Int):=by omega
   by_cases h3:pl<1
   ·clear hb h1 h2;go_wp2_with fail
    go_ret;exact⟨rfl,S2.out.bel⟩
   ·have g3:(1:Int)≤pl:=by omega
    have g4:(1048576:Int)<pl:=by omega
    clear hb h1 h2 h3;go_wp2_with fail
    go_ret;exact⟨rfl,S2.out.bel⟩
end Go.Proofs.YtjlophplcmidlaaGreatDoor
