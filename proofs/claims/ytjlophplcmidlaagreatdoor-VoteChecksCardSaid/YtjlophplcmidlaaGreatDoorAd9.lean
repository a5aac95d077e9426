/-
  PACKAGE lms
  PACKAGE lms, Form
  PACKAGE tuple
  PACKAGE tuple
  PACKAGE tuple
  PACKAGE tuple
  PACKAGE tuple
  LAYERS 6, 7 as layer 8 wants them
-/
import Derived.Test.YtjlophplcmidlaaGreatDoorAd8
import Derived.Test.YtjlophplcmidlaaGreatDoorAd2
import Derived.Test.YtjlophplcmidlaaGreatDoorAd7
import Derived.Deep.DeepCutAuto
import Derived.Laws.ResultCell
import Derived.Deep.RegionHeld3
import Derived.WalkSpells
import Derived.Test.YtjlophplcmidlaaGreatDoorAd1
import Derived.Laws.StructEq
import Derived.StillTailTactics
import Derived.LoopTactic
import Derived.WalkKit
import Derived.Deep.DeepMust
import Derived.Shelf.Abstract
import Derived.Laws.IdiomStrings
open Go.Lib (hid)
set_option maxRecDepth 100000
namespace Go.Proofs.YtjlophplcmidlaaGreatDoor
open Go Go.RowKit Sh
theorem readKey_any (xs:List Nat) (A:Option Addr) (m c:Nat) (w:World) (hx:xs.length=m) (hp:Sr w A xs) (hb:Bytes xs) (hml:m≤9223372036854775807) (hk:KI w):
  Calls Tryz.prog 44 #[.slice A m c] w λe w'=>∃ v J,J.length=48∧e= .returned (.tuple #[.agg (pkv v J).toArray,.bool (formN xs)])∧(formN xs=true→∃ i,i<4∧v=(kd i).w∧val ((xs.drop 4).take 4)=i+1∧J=xs.drop 8)∧Below w.heap.size w w':=by
 cases hf:formN xs with
 |false=>
  by_cases h56:m=56
  ·subst h56;refine(readKey_bad xs A c w hx hp hb hk hf).mono ?_
   rintro e w' ⟨rfl,b⟩
   exact⟨0,List.replicate 48 0,List.length_replicate,rfl,(λh=>by cases h),b⟩
  ·refine(readKey_len A m c w h56 hml).mono ?_
   rintro e w' ⟨rfl,b⟩
   exact⟨0,List.replicate 48 0,List.length_replicate,rfl,(λh=>by cases h),b⟩
 |true=>
  have hf':=hf;unfold formN at hf';rw[decide_eq_true_iff] at hf';obtain⟨h1,h2,h3,h4⟩:=hf';obtain rfl:m=56:=by omega
  obtain⟨i,hi⟩:∃ i,val ((xs.drop 4).take 4)=i+1:=⟨val ((xs.drop 4).take 4) -1,by omega⟩;refine(readKey_ok xs A i c w h1 hp hb hk (by omega) h2 hi).mono ?_
  rintro e w' ⟨rfl,b⟩
  exact⟨_,xs.drop 8,by rw[List.length_drop,h1],rfl,λ_=>⟨i,by omega,rfl,hi,rfl⟩,b⟩
theorem pk_len (v:Nat) (J:List Nat) (h:J.length=48):pkz.length=(pkv v J).length:=by rw[pkv_length v J h];rfl
theorem form_t (xs:List Nat) (A:Option Addr) (m c:Nat) (w:World) (hx:xs.length=m) (hp:Sr w A xs) (hb:Bytes xs) (hml:m≤9223372036854775807) (hk:KI w):
  Calls Tryz.prog 96 #[.slice A m c] w λe w'=>e= .returned (.bool (formN xs))∧Below w.heap.size w w':=by
 have RK:=hid (readKey_any xs A m c w hx hp hb hml hk);clear hx hp hb hml hk
 go_enter Tryz.func96,Tryz.ntmps96
 go_wp2_with fail
 refine RK.out.mono ?_
 rintro e w1 ⟨v,J,hJ,rfl, -,b1⟩
 have HJ:=hid hJ;have B1:=hid b1;have R1:=hid (Blk.new w1 89 pkz);obtain⟨f,hf⟩:∃ f,formN xs=f:=⟨_,rfl⟩;rw[hf];have HF:=hid hf;clear hJ b1 hf RK
 go_wp2_with ((with_reducible refine store_blk 89 (.tmp 3) (.tmp 8) w1.heap.size 89 pkz (pkv v J) rfl rfl ?_ ?_ ?_ ?_ ?_ ?_ ?_);exact R1.out;exact pk_len _ _ HJ.out;exact pkv_size _ _ HJ.out;exact pkv_one _ _;exact rfl;exact rfl)
 go_ret;exact⟨by rw[HF.out];rfl,below_setRow (B1.out.alloc B1.out.size _) B1.out.size _⟩
theorem verify_bad (xs:List Nat) (A B C:Option Addr) (m c m1 c1 m2 c2:Nat) (w:World) (hx:xs.length=m) (hp:Sr w A xs) (hb:Bytes xs) (hml:m≤9223372036854775807) (hk:KI w) (hf:formN xs=false):
  Calls Tryz.prog 21 #[.slice A m c,.slice B m1 c1,.slice C m2 c2] w λe w'=>e= .returned (.int .i64 2)∧Below w.heap.size w w':=by
 have RK:=hid (readKey_any xs A m c w hx hp hb hml hk);have HF:=hid hf;clear hx hp hb hml hk hf
 go_enter Tryz.func21,Tryz.ntmps21
 go_wp2_with fail
 refine RK.out.mono ?_
 rintro e w1 ⟨v,J,hJ,rfl, -,b1⟩
 rw[HF.out];have HJ:=hid hJ;have B1:=hid b1;have R1:=hid (Blk.new w1 89 pkz);clear hJ b1 RK
 go_wp2_with ((with_reducible refine store_blk 89 (.tmp 7) (.tmp 13) w1.heap.size 89 pkz (pkv v J) rfl rfl ?_ ?_ ?_ ?_ ?_ ?_ ?_);exact R1.out;exact pk_len _ _ HJ.out;exact pkv_size _ _ HJ.out;exact pkv_one _ _;exact rfl;exact rfl)
 go_ret;exact⟨rfl,below_setRow (B1.out.alloc B1.out.size _) B1.out.size _⟩
theorem lcand_short (i:Nat) (J:List Nat) (B C:Option Addr) (m1 c1 m2 c2:Nat) (w:World) (hi:i<4) (hk:KI w) (hm:m2≠lszN i) (_:m2≤9223372036854775807):
  Calls Tryz.prog 45 #[.agg (pkv (kd i).w J).toArray,.slice B m1 c1,.slice C m2 c2] w λe w'=>e= .returned (.tuple #[.agg (u8s z32).toArray,.bool false])∧Below w.heap.size w w':=by
 have HK:=hid hk;have SZ:=hid (λW hW=>size_yes i hi W hW);have K0:=hid ((Blk.new w 89 (pkv (kd i).w J)).alloc (.cells (u8s z32).toArray 23));have R0:=hid (Blk.new2 w (.cells (pkv (kd i).w J).toArray 89) 23 (u8s z32));have B0:=hid (((Below.refl w.heap.size w).alloc (Nat.le_refl _) (.cells (pkv (kd i).w J).toArray 89)).alloc (by simp) (.cells (u8s z32).toArray 23));obtain⟨z,hz⟩:∃ z,lszN i=z:=⟨_,rfl⟩;obtain⟨v,hv⟩:∃ v,(kd i).w=v:=⟨_,rfl⟩;rw[hz] at hm SZ;rw[hv] at SZ K0 R0 B0;rw[hv];have t0:((m2:Int) != (z:Int))=true:=by rw[bne_iff_ne];omega
 clear hk hm hz hv
 go_enter Tryz.func45,Tryz.ntmps45
 go_upto_region 1 with(fail)
 refine world_is (λX=>Blk X w.heap.size 89 (pkv v J)∧Blk X (w.heap.size+1) 23 (u8s z32)∧Below w.heap.size w X) ⟨K0.out,R0.out,B0.out⟩ ?_;clear K0 R0 B0
 rintro X ⟨k0,r0,b0⟩
 have c0:X.cell? ⟨w.heap.size,0,none⟩=some (.int .i64 (v:Int)):=k0.cell 0;have R0:=hid r0;have B0:=hid b0;clear k0 r0 b0;go_wp2_with fail
 refine(SZ.out _ (HK.out.kept B0.out)).mono ?_
 rintro e w1 ⟨rfl,b1⟩
 have B1:=hid (B0.out.trans (b1.mono B0.out.size));have R1:=hid (R0.out.below b1 R0.out.lt);clear b1 c0 B0 R0
 go_wp2_with ((with_reducible refine store_blk 23 (.tmp 6) (.tmp 20) (w.heap.size+1) 23 (u8s z32) (u8s z32) rfl rfl ?_ ?_ ?_ ?_ ?_ ?_ ?_);exact R1.out;exact rfl;exact z32_size;exact u8s_one _;exact rfl;exact rfl)
 refine ret_blk2 (p:=6) (u:=7) (ty:=23) rfl rfl (w.heap.size+1) 23 (u8s z32) _ rfl (R1.out.setRow _) Tryz.underlying23 rfl z32_size (.bool false) rfl ?_;exact⟨rfl,below_setRow B1.out (by omega) _⟩
structure Fld where
 k:Int
 n:Int
 s:ByteArray
def fv (f:Fld):List Value:=[.int .i64 f.k,.int .i64 f.n,.string f.s]
theorem fv_size (f:Fld):(Tryz.prog.info? 190).map (·.size)=some (fv f).length:=by
 show(Tryz.prog.info? 190).map (·.size)=some 3
 kernel_rfl
theorem fv_one (f:Fld):(fv f).toArray.all (·.oneCell')=true:=by simp[fv,Value.oneCell']
theorem fv_cells {w:World} {g:Nat} {k n:Int} {s:ByteArray} (h:Blk w g 190 (fv ⟨k,n,s⟩)):
  w.cell? ⟨g,0,none⟩=some (.int .i64 k)∧w.cell? ⟨g,1,none⟩=some (.int .i64 n)∧w.cell? ⟨g,2,none⟩=some (.string s):=⟨h.cell 0,h.cell 1,h.cell 2⟩
def okV (f:Fld):Bool:=if f.k=1 then f.s.toList.isEmpty else if f.k=2 then(f.n == 0) && decide ((f.s.size:Int)≤40) else false
def okP (f:Fld):Bool:=if f.k=3∨f.k=4∨f.k=5 then(f.n == 0) && f.s.toList.isEmpty else okV f
theorem isValue_t (f:Fld) (w:World):Calls Tryz.prog 165 #[.agg (fv f).toArray] w λe w'=>e= .returned (.bool (okV f))∧Below w.heap.size w w':=by
 obtain⟨k,n,s⟩:=f;have B0:=hid (Blk.new w 190 (fv ⟨k,n,s⟩));have BW:=hid ((Below.refl w.heap.size w).alloc (Nat.le_refl _) (.cells (fv ⟨k,n,s⟩).toArray 190));obtain⟨c0,c1,c2⟩:=fv_cells B0.out
 by_cases h1:k=1
 ·subst h1
  go_enter Tryz.func165,Tryz.ntmps165
  go_wp2
  go_ret;exact⟨by simp[okV],BW.out⟩
 ·have e1:(k == 1)=false:=by rw[beq_eq_false_iff_ne];exact h1
  by_cases h2:k=2
  ·subst h2
   cases hn:(n == 0) with
   |false=>
    go_enter Tryz.func165,Tryz.ntmps165
    go_wp2
    go_ret;exact⟨by simp[okV,hn],BW.out⟩
   |true=>
    go_enter Tryz.func165,Tryz.ntmps165
    go_wp2
    go_ret;exact⟨by simp[okV,hn],BW.out⟩
  ·have e2:(k == 2)=false:=by rw[beq_eq_false_iff_ne];exact h2
   go_enter Tryz.func165,Tryz.ntmps165
   go_wp2
   go_ret;exact⟨by simp[okV,h1,h2],BW.out⟩
theorem isPattern_t (f:Fld) (w:World):Calls Tryz.prog 164 #[.agg (fv f).toArray] w λe w'=>e= .returned (.bool (okP f))∧Below w.heap.size w w':=by
 have IV:=hid (λW=>isValue_t f W);obtain⟨k,n,s⟩:=f;have FV:=hid (fv_size ⟨k,n,s⟩);have B0:=hid (Blk.new w 190 (fv ⟨k,n,s⟩));have BW:=hid ((Below.refl w.heap.size w).alloc (Nat.le_refl _) (.cells (fv ⟨k,n,s⟩).toArray 190));obtain⟨c0,c1,c2⟩:=fv_cells B0.out
 by_cases h:k=3∨k=4∨k=5
 ·have hk:okP ⟨k,n,s⟩=((n == 0) && s.toList.isEmpty):=if_pos h;rw[hk];clear IV hk;rcases h with rfl |rfl |rfl
  all_goals
   cases hn:(n == 0) with
   |false=>
    go_enter Tryz.func164,Tryz.ntmps164
    go_wp2
    go_ret;exact⟨by simp,BW.out⟩
   |true=>
    go_enter Tryz.func164,Tryz.ntmps164
    go_wp2
    go_ret;exact⟨by simp,BW.out⟩
 ·have hk:okP ⟨k,n,s⟩=okV ⟨k,n,s⟩:=if_neg h;rw[hk];have e3:(k == 3)=false:=by rw[beq_eq_false_iff_ne];exact λe=>h (.inl e)
  have e4:(k == 4)=false:=by rw[beq_eq_false_iff_ne];exact λe=>h (.inr (.inl e))
  have e5:(k == 5)=false:=by rw[beq_eq_false_iff_ne];exact λe=>h (.inr (.inr e))
  clear hk h;obtain⟨b,hb⟩:∃ b,okV ⟨k,n,s⟩=b:=⟨_,rfl⟩;rw[hb] at IV ⊢;obtain⟨cs,hcs⟩:∃ cs,fv ⟨k,n,s⟩=cs:=⟨_,rfl⟩;rw[hcs] at IV FV B0 BW c0 c1 c2 ⊢;clear hb hcs
  go_enter Tryz.func164,Tryz.ntmps164
  go_wp2_with ((with_reducible refine load_blk 190 (.tmp 1) w.heap.size 190 cs _ rfl rfl ?_ Tryz.underlying190 ?_ ?_ ?_ ?_);exact B0.out;exact rfl;exact FV.out;exact rfl)
  refine(IV.out _).mono ?_
  rintro e w1 ⟨rfl,b1⟩
  go_wp2_with fail
  go_ret;exact⟨rfl,BW.out.trans (b1.mono BW.out.size)⟩
def sameF (a b:Fld):Bool:=(a.k == b.k) && ((a.n == b.n) && (a.s.toList == b.s.toList))
def allN (B:Nat→Bool):Nat→Bool
 |0=>true
 |n+1=>allN B n && B n
theorem allN_iff (B:Nat→Bool):∀ n,allN B n=true↔∀ i,i<n→B i=true
 |0=>by simp[allN]
 |n+1=>by
  rw[allN,Bool.and_eq_true,allN_iff B n]
  constructor
  ·rintro⟨h,h'⟩ i hi
   rcases Nat.lt_or_ge i n with hlt |hge
   ·exact h i hlt
   ·obtain rfl:i=n:=by omega
    exact h'
  ·exact λh=>⟨λi hi=>h i (by omega),h n (by omega)⟩
theorem allN_no {B:Nat→Bool} {n j:Nat} (hj:j<n) (h:B j=false):allN B n=false:=by
 cases hb:allN B n with
 |false=>rfl
 |true=>rw[(allN_iff B n).1 hb j hj] at h;cases h
set_option maxHeartbeats 400000 in
theorem every_t (F:FuncId) (C:Array Value) (n c:Nat) (p:Option Addr) (G:Nat→Fld) (B:Nat→Bool) (Iv:Nat→World→Prop) (w:World)
  (hcf:∀ args W,(callFunc F args).run Tryz.prog W= .ok (.enter F args) W) (hn:n≤9223372036854775807)
  (h0:Iv 0 w) (hst:∀ j W W',Iv j W→Below W.heap.size W W'→Iv j W')
  (hrd:∀ j W,Iv j W→j<n→∃ b o,p=some ⟨b,o,none⟩∧W.rangeAt b (o+j * 3) (fv (G j)))
  (hcall:∀ (j:Nat) W,j<n→(∀ i,i<j→B i=true)→Iv j W→Calls Tryz.prog F (#[.int .i64 (j:Int),.agg (fv (G j)).toArray]++C) W λe W'=>e= .returned (.bool (B j))∧Iv (j+1) W'):
  Calls Tryz.prog 146 #[.slice p n c,.func (.func F) #[] C] w λe W'=>∃ m,m≤n∧e= .returned (.bool (allN B n))∧Iv m W'∧(allN B n=true→m=n):=by
 have H0:=hid h0;have HST:=hid hst;have HRD:=hid hrd;have HC:=hid hcall;have AY:=hid (λh=>(allN_iff B n).2 h);have AN:=hid (λj hj h=>allN_no (B:=B) (n:=n) (j:=j) hj h);obtain⟨r,hr⟩:∃ r,allN B n=r:=⟨_,rfl⟩;rw[hr] at AY AN ⊢;clear h0 hst hrd hcall hr
 go_enter Tryz.func146,Tryz.ntmps146
 go_upto_region 2 with(fail)
 go_loopw [9] (λx wr=>∃ j:Nat,j≤n∧x= .int .i64 (j:Int)∧Iv j wr∧∀ i,i<j→B i=true) (λx _=>n- (intOf x).toNat)
 case atStart=>exact⟨0,by omega,rfl,H0.out,λi hi=>absurd hi (by omega)⟩
 case round=>
  obtain⟨j,hj,rfl,iv,hb⟩:=hrel;have IV:=hid iv;have HB:=hid hb;clear iv hb
  by_cases hlt:j<n
  ·obtain⟨b,o,rfl,rg⟩:=HRD.out j wr IV.out hlt;have RG:=hid rg;have FS:=hid (fv_size (G j));have F1:=hid (fv_one (G j));have j1:(j:Int)< (n:Int):=by omega
   have nB:(n:Int)≤9223372036854775807:=by omega
   have B0:=hid (Blk.new wr 190 [.int .i64 0,.int .i64 0,.string { data:= #[] }]);have Z0:=hid (show(Tryz.prog.info? 190).map (·.size)=some 3 by kernel_rfl);clear rg;have B1:=hid (B0.out.setRow (fv (G j)));have BW:=hid (below_setRow ((Below.refl wr.heap.size wr).alloc (Nat.le_refl _) (.cells #[.int .i64 0,.int .i64 0,.string { data:= #[] }] 190)) (Nat.le_refl _) (fv (G j)).toArray)
   go_wp2_with (first
    |(with_reducible refine at_op (.load 190 (.tmp 12)) rfl ?_;go_must (refine wpList_load_mid rfl 190 (.tmp 12) rfl b (o+j * 3) rfl (fv (G j)) _ RG.out Tryz.underlying190 rfl FS.out ?_))
    |(with_reducible refine at_op (.store 190 (.tmp 6) (.tmp 13)) rfl ?_;go_must (refine store_blk 190 (.tmp 6) (.tmp 13) wr.heap.size 190 [.int .i64 0,.int .i64 0,.string { data:= #[] }] (fv (G j)) rfl rfl B0.out rfl FS.out F1.out rfl rfl ?_))
    |(with_reducible refine at_op (.load 190 (.tmp 6)) rfl ?_;go_must (refine load_blk 190 (.tmp 6) wr.heap.size 190 (fv (G j)) _ rfl rfl B1.out Tryz.underlying190 rfl FS.out rfl ?_)))
   refine(HC.out j _ hlt HB.out (HST.out j wr _ IV.out BW.out)).mono ?_
   rintro e w2 ⟨rfl,iv2⟩
   have IV2:=hid iv2;clear iv2 IV B0 B1 BW RG FS F1 Z0
   cases hb:B j with
   |false=>
    have hR:=AN.out j hlt hb;subst hR;clear hb;go_wp2_with fail
    go_ret;exact⟨j+1,hlt,rfl,IV2.out,λh=>by cases h⟩
   |true=>
    have HB2:=hid (show ∀ i,i<j+1→B i=true from λi hi=>by
     rcases Nat.lt_or_ge i j with h |h
     ·exact HB.out i h
     ·obtain rfl:i=j:=by omega
      exact hb)
    clear hb;go_wp2_with fail
    go_roundw
    case rel=>exact⟨j+1,hlt,by go_num,IV2.out,HB2.out⟩
    case measure=>simp[intOf];omega
  ·obtain rfl:j=n:=by omega
   have hR:=AY.out HB.out;subst hR;clear hlt;go_wp2_with fail
   go_ret;exact⟨j,Nat.le_refl _,rfl,IV.out,by simp⟩
def Rw (w:World) (p:Option Addr) (n:Nat) (G:Nat→Fld):Prop:=∀ j,j<n→∃ b o,p=some ⟨b,o,none⟩∧b<w.heap.size∧w.rangeAt b (o+j * 3) (fv (G j))
theorem Rw.below {w w':World} {p:Option Addr} {n:Nat} {G:Nat→Fld} (h:Rw w p n G) (hb:Below w.heap.size w w'):Rw w' p n G:=λj hj=>by
 obtain⟨b,o,e,hl,r⟩:=h j hj;exact⟨b,o,e,Nat.lt_of_lt_of_le hl hb.size,λi v hv=>(hb.cell (p:=⟨b,o+j * 3+i,none⟩) hl).trans (r i v hv)⟩
theorem Rw.read {w:World} {p:Option Addr} {n:Nat} {G:Nat→Fld} (h:Rw w p n G) {j:Nat} (hj:j<n):∃ b o,p=some ⟨b,o,none⟩∧w.rangeAt b (o+j * 3) (fv (G j)):=by
 obtain⟨b,o,e,_,r⟩:=h j hj;exact⟨b,o,e,r⟩
def Tells (F:FuncId) (f:Fld) (b:Bool):Prop:=∀ W,Calls Tryz.prog F #[.agg (fv f).toArray] W λe W'=>e= .returned (.bool b)∧Below W.heap.size W W'
theorem may1_t (F1:FuncId) (cb:Nat) (f:Fld) (j:Nat) (b:Bool) (W:World) (hc:W.cell? ⟨cb,0,none⟩=some (.func (.func F1) #[] #[])) (hl:cb<W.heap.size) (hcf1:∀ args W,(callFunc F1 args).run Tryz.prog W= .ok (.enter F1 args) W) (hF:Tells F1 f b):
  Calls Tryz.prog 169 #[.int .i64 (j:Int),.agg (fv f).toArray,.pointer (some ⟨cb,0,none⟩)] W λe W'=>e= .returned (.bool b)∧Below W.heap.size W W':=by
 have FV:=hid (fv_size f);have HF:=hid hF;have B0:=hid (Blk.new W 190 (fv f));have BW:=hid ((Below.refl W.heap.size W).alloc (Nat.le_refl _) (.cells (fv f).toArray 190));have c0:(W.alloc (.cells (fv f).toArray 190)).cell? ⟨cb,0,none⟩=some (.func (.func F1) #[] #[]):=(BW.out.cell (p:=⟨cb,0,none⟩) hl).trans hc;clear hF hc
 go_enter Tryz.func169,Tryz.ntmps169
 go_wp2_with ((with_reducible refine load_blk 190 (.tmp 4) W.heap.size 190 (fv f) _ rfl rfl ?_ Tryz.underlying190 ?_ ?_ ?_ ?_);exact B0.out;exact rfl;exact FV.out;exact rfl)
 refine(HF.out _).mono ?_
 rintro e w2 ⟨rfl,b2⟩
 go_wp2_with fail
 go_ret;exact⟨rfl,BW.out.trans (b2.mono BW.out.size)⟩
def fewN (n:Nat):Bool:=decide (1≤n) && decide (n≤6)
theorem may_t (F1:FuncId) (ok:Fld→Bool) (n c:Nat) (p:Option Addr) (G:Nat→Fld) (w:World) (hn:n≤9223372036854775807) (hr:Rw w p n G)
  (hcf1:∀ args W,(callFunc F1 args).run Tryz.prog W= .ok (.enter F1 args) W) (hF:∀ f,Tells F1 f (ok f)):
  Calls Tryz.prog 163 #[.slice p n c,.func (.func F1) #[] #[]] w λe w'=>e= .returned (.bool (fewN n && allN (λj=>ok (G j)) n))∧Below w.heap.size w w':=by
 have BW:=hid ((Below.refl w.heap.size w).alloc (Nat.le_refl _) (.cells #[.func (.func F1) #[] #[]] 206));have c0:(w.alloc (.cells #[.func (.func F1) #[] #[]] 206)).cell? ⟨w.heap.size,0,none⟩=some (.func (.func F1) #[] #[]):=(Blk.new w 206 [.func (.func F1) #[] #[]]).cell 0;have EV:=hid (every_t 169 #[.pointer (some ⟨w.heap.size,0,none⟩)] n c p G (λj=>ok (G j))
  (λ_ W=>Rw W p n G∧W.cell? ⟨w.heap.size,0,none⟩=some (.func (.func F1) #[] #[])∧w.heap.size<W.heap.size∧Below w.heap.size w W)
  (w.alloc (.cells #[.func (.func F1) #[] #[]] 206)) (enters_of Tryz.func169 (by kernel_rfl) rfl) hn
  ⟨hr.below BW.out,c0,by simp,BW.out⟩
  (λj W W' h hb=>⟨h.1.below hb,(hb.cell (p:=⟨w.heap.size,0,none⟩) h.2.2.1).trans h.2.1,Nat.lt_of_lt_of_le h.2.2.1 hb.size,h.2.2.2.trans (hb.mono h.2.2.2.size)⟩)
  (λj W h hj=>h.1.read hj)
  (λj W hj _ h=>(may1_t F1 w.heap.size (G j) j (ok (G j)) W h.2.1 h.2.2.1 hcf1 (hF (G j))).mono (λe W' ⟨he,hb⟩=>⟨he,h.1.below hb,(hb.cell (p:=⟨w.heap.size,0,none⟩) h.2.2.1).trans h.2.1,Nat.lt_of_lt_of_le h.2.2.1 hb.size,h.2.2.2.trans (hb.mono h.2.2.2.size)⟩)))
 clear hr c0 hF hcf1;obtain⟨r,hR⟩:∃ r,allN (λj=>ok (G j)) n=r:=⟨_,rfl⟩;rw[hR] at EV ⊢;clear hR
 by_cases h1:1≤n
 ·by_cases h6:n≤6
  ·rw[show fewN n=true by simp[fewN,h1,h6]];have i1:(1:Int)≤(n:Int):=by omega
   have i6:(n:Int)≤6:=by omega
   clear h1 h6
   go_enter Tryz.func163,Tryz.ntmps163
   go_wp2_with fail
   refine EV.out.mono ?_
   rintro e w2 ⟨m,_,rfl,iv,_⟩
   have IV:=hid iv.2.2.2;clear iv EV;go_wp2_with fail
   go_ret;exact⟨by simp,IV.out⟩
  ·rw[show fewN n=false by simp[fewN,h6]];have i1:(1:Int)≤(n:Int):=by omega
   have i6:(6:Int)< (n:Int):=by omega
   clear h1 h6 EV
   go_enter Tryz.func163,Tryz.ntmps163
   go_wp2_with fail
   go_ret;exact⟨by simp,BW.out⟩
 ·rw[show fewN n=false by simp[fewN];omega];obtain rfl:n=0:=by omega
  clear h1 EV
  go_enter Tryz.func163,Tryz.ntmps163
  go_wp2_with fail
  go_ret;exact⟨by simp,BW.out⟩
def mayV (n:Nat) (G:Nat→Fld):Bool:=fewN n && allN (λj=>okV (G j)) n
def mayP (n:Nat) (G:Nat→Fld):Bool:=fewN n && allN (λj=>okP (G j)) n
theorem May_t (n c:Nat) (p:Option Addr) (G:Nat→Fld) (w:World) (hn:n≤9223372036854775807) (hr:Rw w p n G):
  Calls Tryz.prog 154 #[.slice p n c] w λe w'=>e= .returned (.bool (mayV n G))∧Below w.heap.size w w':=by
 have MT:=hid (may_t 165 okV n c p G w hn hr (enters_of Tryz.func165 (by kernel_rfl) rfl) (λf W=>isValue_t f W));clear hr
 go_enter Tryz.func154,Tryz.ntmps154
 go_wp2_with fail
 refine MT.out.mono ?_
 rintro e w2 ⟨rfl,b2⟩
 go_wp2_with fail
 go_ret;exact⟨rfl,b2⟩
theorem MayTemplate_t (n c:Nat) (p:Option Addr) (G:Nat→Fld) (w:World) (hn:n≤9223372036854775807) (hr:Rw w p n G):
  Calls Tryz.prog 149 #[.slice p n c] w λe w'=>e= .returned (.bool (mayP n G))∧Below w.heap.size w w':=by
 have MT:=hid (may_t 164 okP n c p G w hn hr (enters_of Tryz.func164 (by kernel_rfl) rfl) (λf W=>isPattern_t f W));clear hr
 go_enter Tryz.func149,Tryz.ntmps149
 go_wp2_with fail
 refine MT.out.mono ?_
 rintro e w2 ⟨rfl,b2⟩
 go_wp2_with fail
 go_ret;exact⟨rfl,b2⟩
theorem rows_of_blk {w:World} {g:Nat} {t:TypeId} {cs:List Value} (h:Blk w g t cs):w.rangeAt g 0 cs:=λj v hv=>by rw[Nat.zero_add,h.cell];exact hv
def sameN (n:Nat) (G:Nat→Fld) (m:Nat) (H:Nat→Fld):Bool:=decide (n=m) && allN (λj=>sameF (G j) (H j)) n
theorem fewN_le {n:Nat} (h:fewN n=true):1≤n∧n≤6:=by simpa [fewN] using h
theorem mayP_iff {n:Nat} {G:Nat→Fld} (h:mayP n G=true):1≤n∧n≤6∧∀ j,j<n→okP (G j)=true:=by
 unfold mayP at h;rw[Bool.and_eq_true] at h;exact⟨(fewN_le h.1).1,(fewN_le h.1).2,(allN_iff _ n).1 h.2⟩
def eS:ByteArray:= { data:= #[] }
theorem Kept.setRowK {F:Nat→Prop} {a w:World} (h:Kept F a w) {g:Nat} (hg:F g∨a.heap.size≤g) (c:Array Value):Kept F a (w.setRow g c):=
 ⟨h.os,h.tape,h.output,by simpa using h.size,λk hk hf=>by
  have hne:k≠g:=λe=>by
   subst e;rcases hg with h1 |h1
   ·exact hf h1
   ·omega
  exact(setRow_other w g k c hne).trans (h.block k hk hf)⟩
theorem world_at {P:Program} {c:Code} {Q:Exit→Act→World→Prop} {a:Act} {w:World} (R:World→Prop) (h:R w) (k:∀ W,R W→Code.wp P c Q a W):Code.wp P c Q a w:=k w h
def InR (f:Fld):Prop:= -9223372036854775808≤f.n∧f.n≤9223372036854775807
theorem eS_of (s:ByteArray) (h:s.toList.isEmpty=true):s=eS:=by
 rw[ByteArray.toList_eq] at h;obtain⟨⟨l⟩⟩:=s;have:l=[]:=by simpa using h
 subst this;rfl
theorem allN_congr {B C:Nat→Bool} :∀ n,(∀ j,j<n→B j=C j)→allN B n=allN C n
 |0,_=>rfl
 |n+1,h=>by rw[allN,allN,allN_congr n (λj hj=>h j (by omega)),h n (by omega)]
theorem Rw.congr {w:World} {p:Option Addr} {n:Nat} {G H:Nat→Fld} (h:Rw w p n G) (hg:∀ j,j<n→G j=H j):Rw w p n H:=λj hj=>by
 obtain⟨b,o,e,hl,r⟩:=h j hj;exact⟨b,o,e,hl,by rw[←hg j hj];exact r⟩
structure Rq where
 cl:Int
 sq:Int
 kd:Int
 le:Int
 n:Nat
 G:Nat→Fld
 m:Nat
 H:Nat→Fld
theorem okV_P {f:Fld} (h:okV f=true):okP f=true:=by
 unfold okP;rw[if_neg]
 ·exact h
 ·unfold okV at h
  split at h
  ·omega
  ·split at h
   ·omega
   ·cases h
theorem mayV_P {n:Nat} {G:Nat→Fld} (h:mayV n G=true):mayP n G=true:=by
 unfold mayV at h;rw[Bool.and_eq_true] at h;unfold mayP;rw[h.1,Bool.true_and];exact(allN_iff _ n).2 (λj hj=>okV_P ((allN_iff _ n).1 h.2 j hj))
theorem mayP_pos {n:Nat} {G:Nat→Fld} (h:mayP n G=true):n≠0:=by have:=(mayP_iff h).1;omega
theorem load_blk_gO {P:Program} {ops:Array Oper} {rest:List Oper} {o:Oper} {a:Act} {w:World} {Q:Exit→Act→World→Prop} (ty:TypeId) (x:Operand) (g:Nat) (t:TypeId) (cs:List Value) (d:TypeDesc)
  (hw:Region.wanted o (yielded ops a.tmps)=true) (ho:o.op= .load ty x) (hg:Blk w g t cs) (hu:P.underlying ty=some d) (hd:d.isRow=true) (hi:(P.info? ty).map (·.size)=some cs.length)
  (hx:a.eval x= .pointer (some ⟨g,0,none⟩)) (h:wpList P ops Q rest (a.put o.dst (.agg cs.toArray)) w):wpList P ops Q (o::rest) a w:=
 BigFrame.wpList_want hw λ_ hK=>wload_part ty x g 0 t [] cs [] d ho (by simpa using hg) rfl hu hd hi hx (hK _ _ h)
theorem load_blk_gdO {P:Program} {ops:Array Oper} {rest:List Oper} {o:Oper} {a:Act} {w:World} {Q:Exit→Act→World→Prop} (D:Nat) (ty:TypeId) (x:Operand) (g:Nat) (t:TypeId) (cs:List Value) (d:TypeDesc)
  (_hD:o.dst=some D) (hw:Region.wanted o (yielded ops a.tmps)=true) (ho:o.op= .load ty x) (hg:Blk w g t cs) (hu:P.underlying ty=some d) (hd:d.isRow=true) (hi:(P.info? ty).map (·.size)=some cs.length)
  (hx:a.eval x= .pointer (some ⟨g,0,none⟩)) (h:wpList P ops Q rest (a.put o.dst (.agg cs.toArray)) w):wpList P ops Q (o::rest) a w:=
 load_blk_gO ty x g t cs d hw ho hg hu hd hi hx h
structure Rv where
 r:Rq
 p:Option Addr
 c:Nat
 t:Option Addr
 d:Nat
def rv (x:Rv):List Value:=[.int .i64 x.r.cl,.int .i64 x.r.sq,.int .i64 x.r.kd,.slice x.p x.r.n x.c,.slice x.t x.r.m x.d,.int .i64 x.r.le]
end Go.Proofs.YtjlophplcmidlaaGreatDoor
