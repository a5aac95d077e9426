/-
  PACKAGE tuple
  PACKAGE tuple
  PACKAGE tuple
  PACKAGE tuple
  PACKAGE tuple
  LAYERS 6, 7 as layer 8 wants them
-/
import Derived.Test.YtlipjglehongeaaGreatDoorGb1
import Derived.Laws.StructEq
import Derived.StillTailTactics
import Derived.LoopTactic
import Derived.Deep.DeepCutAuto
import Derived.WalkKit
import Derived.Deep.DeepMust
import Derived.Deep.RegionHeld3
import Derived.Shelf.Abstract
import Derived.Laws.IdiomStrings
open Go.Lib (hid)
set_option maxRecDepth 100000
namespace Go.Proofs.YtlipjglehongeaaGreatDoor
open Go Go.RowKit Sh
structure Fld where
 k:Int
 n:Int
 s:ByteArray
def fv (f:Fld):List Value:=[.int .i64 f.k,.int .i64 f.n,.string f.s]
theorem fv_size (f:Fld):(Tryz.prog.info? 154).map (·.size)=some (fv f).length:=by
 show(Tryz.prog.info? 154).map (·.size)=some 3
 kernel_rfl
theorem fv_one (f:Fld):(fv f).toArray.all (·.oneCell')=true:=by simp[fv,Value.oneCell']
theorem fv_cells {w:World} {g:Nat} {k n:Int} {s:ByteArray} (h:Blk w g 154 (fv ⟨k,n,s⟩)):
  w.cell? ⟨g,0,none⟩=some (.int .i64 k)∧w.cell? ⟨g,1,none⟩=some (.int .i64 n)∧w.cell? ⟨g,2,none⟩=some (.string s):=⟨h.cell 0,h.cell 1,h.cell 2⟩
def okV (f:Fld):Bool:=if f.k=1 then f.s.toList.isEmpty else if f.k=2 then(f.n == 0) && decide ((f.s.size:Int)≤40) else false
def okP (f:Fld):Bool:=if f.k=3∨f.k=4∨f.k=5 then(f.n == 0) && f.s.toList.isEmpty else okV f
theorem isValue_t (f:Fld) (w:World):Calls Tryz.prog 201 #[.agg (fv f).toArray] w λe w'=>e= .returned (.bool (okV f))∧Below w.heap.size w w':=by
 obtain⟨k,n,s⟩:=f;have B0:=hid (Blk.new w 154 (fv ⟨k,n,s⟩));have BW:=hid ((Below.refl w.heap.size w).alloc (Nat.le_refl _) (.cells (fv ⟨k,n,s⟩).toArray 154));obtain⟨c0,c1,c2⟩:=fv_cells B0.out
 by_cases h1:k=1
 ·subst h1
  go_enter Tryz.func201,Tryz.ntmps201
  go_wp2
  go_ret;exact⟨by simp[okV],BW.out⟩
 ·have e1:(k == 1)=false:=by rw[beq_eq_false_iff_ne];exact h1
  by_cases h2:k=2
  ·subst h2
   cases hn:(n == 0) with
   |false=>
    go_enter Tryz.func201,Tryz.ntmps201
    go_wp2
    go_ret;exact⟨by simp[okV,hn],BW.out⟩
   |true=>
    go_enter Tryz.func201,Tryz.ntmps201
    go_wp2
    go_ret;exact⟨by simp[okV,hn],BW.out⟩
  ·have e2:(k == 2)=false:=by rw[beq_eq_false_iff_ne];exact h2
   go_enter Tryz.func201,Tryz.ntmps201
   go_wp2
   go_ret;exact⟨by simp[okV,h1,h2],BW.out⟩
theorem isPattern_t (f:Fld) (w:World):Calls Tryz.prog 200 #[.agg (fv f).toArray] w λe w'=>e= .returned (.bool (okP f))∧Below w.heap.size w w':=by
 have IV:=hid (λW=>isValue_t f W);obtain⟨k,n,s⟩:=f;have FV:=hid (fv_size ⟨k,n,s⟩);have B0:=hid (Blk.new w 154 (fv ⟨k,n,s⟩));have BW:=hid ((Below.refl w.heap.size w).alloc (Nat.le_refl _) (.cells (fv ⟨k,n,s⟩).toArray 154));obtain⟨c0,c1,c2⟩:=fv_cells B0.out
 by_cases h:k=3∨k=4∨k=5
 ·have hk:okP ⟨k,n,s⟩=((n == 0) && s.toList.isEmpty):=if_pos h;rw[hk];clear IV hk;rcases h with rfl |rfl |rfl
  all_goals
   cases hn:(n == 0) with
   |false=>
    go_enter Tryz.func200,Tryz.ntmps200
    go_wp2
    go_ret;exact⟨by simp,BW.out⟩
   |true=>
    go_enter Tryz.func200,Tryz.ntmps200
    go_wp2
    go_ret;exact⟨by simp,BW.out⟩
 ·have hk:okP ⟨k,n,s⟩=okV ⟨k,n,s⟩:=if_neg h;rw[hk];have e3:(k == 3)=false:=by rw[beq_eq_false_iff_ne];exact λe=>h (.inl e)
  have e4:(k == 4)=false:=by rw[beq_eq_false_iff_ne];exact λe=>h (.inr (.inl e))
  have e5:(k == 5)=false:=by rw[beq_eq_false_iff_ne];exact λe=>h (.inr (.inr e))
  clear hk h;obtain⟨b,hb⟩:∃ b,okV ⟨k,n,s⟩=b:=⟨_,rfl⟩;rw[hb] at IV ⊢;obtain⟨cs,hcs⟩:∃ cs,fv ⟨k,n,s⟩=cs:=⟨_,rfl⟩;rw[hcs] at IV FV B0 BW c0 c1 c2 ⊢;clear hb hcs
  go_enter Tryz.func200,Tryz.ntmps200
  go_wp2_with ((with_reducible refine load_blk 154 (.tmp 1) w.heap.size 154 cs _ rfl rfl ?_ Tryz.underlying154 ?_ ?_ ?_ ?_);exact B0.out;exact rfl;exact FV.out;exact rfl)
  refine(IV.out _).mono ?_
  rintro e w1 ⟨rfl,b1⟩
  go_wp2_with fail
  go_ret;exact⟨rfl,BW.out.trans (b1.mono BW.out.size)⟩
def sameF (a b:Fld):Bool:=(a.k == b.k) && ((a.n == b.n) && (a.s.toList == b.s.toList))
theorem sameF_iff (a b:Fld):sameF a b=true↔a=b:=by
 obtain⟨k,n,s⟩:=a;obtain⟨k',n',s'⟩:=b;have h:(s.toList == s'.toList)=true↔s=s':=by
  rw[beq_iff_eq,ByteArray.toList_eq,ByteArray.toList_eq]
  constructor
  ·intro h
   cases s;cases s'
   exact congrArg ByteArray.mk (Array.toList_inj.1 h)
  ·rintro rfl;rfl
 simp only[sameF,Bool.and_eq_true,beq_iff_eq,h,Fld.mk.injEq]
theorem eqIn_three {P:Program} (d:Nat) (t:TypeId) (f1 f2 f3:Field) (xs ys:Array Value) (a1 b1 a2 b2 a3 b3:Value) (r1 r2 r3:Bool) (w:World)
  (hu:P.underlying t=some (.struct #[f1,f2,f3])) (hs:P.stoodInHeld t=false) (n1:f1.name≠ "_") (n2:f2.name≠ "_") (n3:f3.name≠ "_")
  (p1:(part f1.type xs f1.offset).run P w= .ok a1 w) (q1:(part f1.type ys f1.offset).run P w= .ok b1 w)
  (p2:(part f2.type xs f2.offset).run P w= .ok a2 w) (q2:(part f2.type ys f2.offset).run P w= .ok b2 w)
  (p3:(part f3.type xs f3.offset).run P w= .ok a3 w) (q3:(part f3.type ys f3.offset).run P w= .ok b3 w)
  (e1:(Op.equalIn d f1.type a1 b1).run P w= .ok r1 w) (e2:(Op.equalIn d f2.type a2 b2).run P w= .ok r2 w) (e3:(Op.equalIn d f3.type a3 b3).run P w= .ok r3 w):
  (Op.equalIn (d+1) t (.agg xs) (.agg ys)).run P w= .ok (r1 && (r2 && r3)) w:=by
 have hf:P.fieldsOf t= #[f1,f2,f3]:=by unfold Program.fieldsOf;rw[hu]
 rw[run_equalIn_struct w d t xs ys (by rw[hf];exact hu) hs,hf];simp only[Op.eqFields,ne_eq,n1,n2,n3,not_false_eq_true,if_true,Sem.run_bind,p1,q1,e1,Result.andThen_ok]
 cases r1 with
 |false=>simp[Sem.run_pure]
 |true=>
  simp only[Bool.not_true,Bool.false_eq_true,if_false,Sem.run_bind,p2,q2,e2,Result.andThen_ok]
  cases r2 with
  |false=>simp[Sem.run_pure]
  |true=>
   simp only[Bool.not_true,Bool.false_eq_true,if_false,Sem.run_bind,p3,q3,e3,Result.andThen_ok]
   cases r3<;>simp[Sem.run_pure]
theorem fld_held:Tryz.prog.stoodInHeld 154=false:=by kernel_rfl
theorem part0 (f:Fld) (w:World):(part 3 (fv f).toArray 0).run Tryz.prog w= .ok (.int .i64 f.k) w:=by
 have ha:(isAgg 3).run Tryz.prog w= .ok false w:=by kernel_rfl
 unfold part;rw[Sem.run_bind,ha];rfl
theorem part1 (f:Fld) (w:World):(part 2 (fv f).toArray 1).run Tryz.prog w= .ok (.int .i64 f.n) w:=by
 have ha:(isAgg 2).run Tryz.prog w= .ok false w:=by kernel_rfl
 unfold part;rw[Sem.run_bind,ha];rfl
theorem part2 (f:Fld) (w:World):(part 9 (fv f).toArray 2).run Tryz.prog w= .ok (.string f.s) w:=by
 have ha:(isAgg 9).run Tryz.prog w= .ok false w:=by kernel_rfl
 unfold part;rw[Sem.run_bind,ha];rfl
theorem eqIn_fld (d:Nat) (a b:Fld) (w:World):(Op.equalIn (d+2) 154 (.agg (fv a).toArray) (.agg (fv b).toArray)).run Tryz.prog w= .ok (sameF a b) w:=
 eqIn_three (d+1) _ _ _ _ _ _ _ _ _ _ _ _ _ _ _ w Tryz.underlying154 fld_held (by decide) (by decide) (by decide) (part0 a w) (part0 b w) (part1 a w) (part1 b w) (part2 a w) (part2 b w)
  (run_equalIn_int w d 3 .i64 .i64 _ _ Tryz.underlying3) (run_equalIn_int w d 2 .i64 .i64 _ _ Tryz.underlying2) (run_equalIn_string w d 9 _ _ Tryz.underlying9)
theorem eql_fld (a b:Fld) (w:World):(binOp .eql 154 (.agg (fv a).toArray) (.agg (fv b).toArray)).run Tryz.prog w= .ok (.bool (sameF a b)) w:=by
 rw[run_eql_struct,eqIn_fld 9998 a b w];rfl
def takesB (p t:Fld):Bool:=if p.k=3 then t.k == 1 else if p.k=4 then t.k == 2 else if p.k=5 then true else sameF p t
def allN (B:Nat→Bool):Nat→Bool
 |0=>true
 |n+1=>allN B n && B n
theorem allN_iff (B:Nat→Bool):∀ n,allN B n=true↔∀ i,i<n→B i=true
 |0=>by simp[allN]
 |n+1=>by
  rw[allN,Bool.and_eq_true,allN_iff B n]
  constructor
  ·rintro⟨h,h'⟩ i hi
   rcases Nat.lt_or_ge i n with hlt |hge
   ·exact h i hlt
   ·obtain rfl:i=n:=by omega
    exact h'
  ·exact λh=>⟨λi hi=>h i (by omega),h n (by omega)⟩
theorem allN_no {B:Nat→Bool} {n j:Nat} (hj:j<n) (h:B j=false):allN B n=false:=by
 cases hb:allN B n with
 |false=>rfl
 |true=>rw[(allN_iff B n).1 hb j hj] at h;cases h
set_option maxHeartbeats 400000 in
theorem every_t (F:FuncId) (C:Array Value) (n c:Nat) (p:Option Addr) (G:Nat→Fld) (B:Nat→Bool) (Iv:Nat→World→Prop) (w:World)
  (hcf:∀ args W,(callFunc F args).run Tryz.prog W= .ok (.enter F args) W) (hn:n≤9223372036854775807)
  (h0:Iv 0 w) (hst:∀ j W W',Iv j W→Below W.heap.size W W'→Iv j W')
  (hrd:∀ j W,Iv j W→j<n→∃ b o,p=some ⟨b,o,none⟩∧W.rangeAt b (o+j * 3) (fv (G j)))
  (hcall:∀ (j:Nat) W,j<n→(∀ i,i<j→B i=true)→Iv j W→Calls Tryz.prog F (#[.int .i64 (j:Int),.agg (fv (G j)).toArray]++C) W λe W'=>e= .returned (.bool (B j))∧Iv (j+1) W'):
  Calls Tryz.prog 196 #[.slice p n c,.func (.func F) #[] C] w λe W'=>∃ m,m≤n∧e= .returned (.bool (allN B n))∧Iv m W'∧(allN B n=true→m=n):=by
 have H0:=hid h0;have HST:=hid hst;have HRD:=hid hrd;have HC:=hid hcall;have AY:=hid (λh=>(allN_iff B n).2 h);have AN:=hid (λj hj h=>allN_no (B:=B) (n:=n) (j:=j) hj h);obtain⟨r,hr⟩:∃ r,allN B n=r:=⟨_,rfl⟩;rw[hr] at AY AN ⊢;clear h0 hst hrd hcall hr
 go_enter Tryz.func196,Tryz.ntmps196
 go_upto_region 2 with(fail)
 go_loopw [9] (λx wr=>∃ j:Nat,j≤n∧x= .int .i64 (j:Int)∧Iv j wr∧∀ i,i<j→B i=true) (λx _=>n- (intOf x).toNat)
 case atStart=>exact⟨0,by omega,rfl,H0.out,λi hi=>absurd hi (by omega)⟩
 case round=>
  obtain⟨j,hj,rfl,iv,hb⟩:=hrel;have IV:=hid iv;have HB:=hid hb;clear iv hb
  by_cases hlt:j<n
  ·obtain⟨b,o,rfl,rg⟩:=HRD.out j wr IV.out hlt;have RG:=hid rg;have FS:=hid (fv_size (G j));have F1:=hid (fv_one (G j));have j1:(j:Int)< (n:Int):=by omega
   have nB:(n:Int)≤9223372036854775807:=by omega
   have B0:=hid (Blk.new wr 154 [.int .i64 0,.int .i64 0,.string { data:= #[] }]);have Z0:=hid (show(Tryz.prog.info? 154).map (·.size)=some 3 by kernel_rfl);clear rg;have B1:=hid (B0.out.setRow (fv (G j)));have BW:=hid (below_setRow ((Below.refl wr.heap.size wr).alloc (Nat.le_refl _) (.cells #[.int .i64 0,.int .i64 0,.string { data:= #[] }] 154)) (Nat.le_refl _) (fv (G j)).toArray)
   go_wp2_with (first
    |(with_reducible refine at_op (.load 154 (.tmp 12)) rfl ?_;go_must (refine wpList_load_mid rfl 154 (.tmp 12) rfl b (o+j * 3) rfl (fv (G j)) _ RG.out Tryz.underlying154 rfl FS.out ?_))
    |(with_reducible refine at_op (.store 154 (.tmp 6) (.tmp 13)) rfl ?_;go_must (refine store_blk 154 (.tmp 6) (.tmp 13) wr.heap.size 154 [.int .i64 0,.int .i64 0,.string { data:= #[] }] (fv (G j)) rfl rfl B0.out rfl FS.out F1.out rfl rfl ?_))
    |(with_reducible refine at_op (.load 154 (.tmp 6)) rfl ?_;go_must (refine load_blk 154 (.tmp 6) wr.heap.size 154 (fv (G j)) _ rfl rfl B1.out Tryz.underlying154 rfl FS.out rfl ?_)))
   refine(HC.out j _ hlt HB.out (HST.out j wr _ IV.out BW.out)).mono ?_
   rintro e w2 ⟨rfl,iv2⟩
   have IV2:=hid iv2;clear iv2 IV B0 B1 BW RG FS F1 Z0
   cases hb:B j with
   |false=>
    have hR:=AN.out j hlt hb;subst hR;clear hb;go_wp2_with fail
    go_ret;exact⟨j+1,hlt,rfl,IV2.out,λh=>by cases h⟩
   |true=>
    have HB2:=hid (show ∀ i,i<j+1→B i=true from λi hi=>by
     rcases Nat.lt_or_ge i j with h |h
     ·exact HB.out i h
     ·obtain rfl:i=j:=by omega
      exact hb)
    clear hb;go_wp2_with fail
    go_roundw
    case rel=>exact⟨j+1,hlt,by go_num,IV2.out,HB2.out⟩
    case measure=>simp[intOf];omega
  ·obtain rfl:j=n:=by omega
   have hR:=AY.out HB.out;subst hR;clear hlt;go_wp2_with fail
   go_ret;exact⟨j,Nat.le_refl _,rfl,IV.out,by simp⟩
def Rw (w:World) (p:Option Addr) (n:Nat) (G:Nat→Fld):Prop:=∀ j,j<n→∃ b o,p=some ⟨b,o,none⟩∧b<w.heap.size∧w.rangeAt b (o+j * 3) (fv (G j))
theorem Rw.below {w w':World} {p:Option Addr} {n:Nat} {G:Nat→Fld} (h:Rw w p n G) (hb:Below w.heap.size w w'):Rw w' p n G:=λj hj=>by
 obtain⟨b,o,e,hl,r⟩:=h j hj;exact⟨b,o,e,Nat.lt_of_lt_of_le hl hb.size,λi v hv=>(hb.cell (p:=⟨b,o+j * 3+i,none⟩) hl).trans (r i v hv)⟩
theorem Rw.read {w:World} {p:Option Addr} {n:Nat} {G:Nat→Fld} (h:Rw w p n G) {j:Nat} (hj:j<n):∃ b o,p=some ⟨b,o,none⟩∧w.rangeAt b (o+j * 3) (fv (G j)):=by
 obtain⟨b,o,e,_,r⟩:=h j hj;exact⟨b,o,e,r⟩
def Tells (F:FuncId) (f:Fld) (b:Bool):Prop:=∀ W,Calls Tryz.prog F #[.agg (fv f).toArray] W λe W'=>e= .returned (.bool b)∧Below W.heap.size W W'
theorem may1_t (F1:FuncId) (cb:Nat) (f:Fld) (j:Nat) (b:Bool) (W:World) (hc:W.cell? ⟨cb,0,none⟩=some (.func (.func F1) #[] #[])) (hl:cb<W.heap.size) (hcf1:∀ args W,(callFunc F1 args).run Tryz.prog W= .ok (.enter F1 args) W) (hF:Tells F1 f b):
  Calls Tryz.prog 215 #[.int .i64 (j:Int),.agg (fv f).toArray,.pointer (some ⟨cb,0,none⟩)] W λe W'=>e= .returned (.bool b)∧Below W.heap.size W W':=by
 have FV:=hid (fv_size f);have HF:=hid hF;have B0:=hid (Blk.new W 154 (fv f));have BW:=hid ((Below.refl W.heap.size W).alloc (Nat.le_refl _) (.cells (fv f).toArray 154));have c0:(W.alloc (.cells (fv f).toArray 154)).cell? ⟨cb,0,none⟩=some (.func (.func F1) #[] #[]):=(BW.out.cell (p:=⟨cb,0,none⟩) hl).trans hc;clear hF hc
 go_enter Tryz.func215,Tryz.ntmps215
 go_wp2_with ((with_reducible refine load_blk 154 (.tmp 4) W.heap.size 154 (fv f) _ rfl rfl ?_ Tryz.underlying154 ?_ ?_ ?_ ?_);exact B0.out;exact rfl;exact FV.out;exact rfl)
 refine(HF.out _).mono ?_
 rintro e w2 ⟨rfl,b2⟩
 go_wp2_with fail
 go_ret;exact⟨rfl,BW.out.trans (b2.mono BW.out.size)⟩
def fewN (n:Nat):Bool:=decide (1≤n) && decide (n≤6)
theorem may_t (F1:FuncId) (ok:Fld→Bool) (n c:Nat) (p:Option Addr) (G:Nat→Fld) (w:World) (hn:n≤9223372036854775807) (hr:Rw w p n G)
  (hcf1:∀ args W,(callFunc F1 args).run Tryz.prog W= .ok (.enter F1 args) W) (hF:∀ f,Tells F1 f (ok f)):
  Calls Tryz.prog 199 #[.slice p n c,.func (.func F1) #[] #[]] w λe w'=>e= .returned (.bool (fewN n && allN (λj=>ok (G j)) n))∧Below w.heap.size w w':=by
 have BW:=hid ((Below.refl w.heap.size w).alloc (Nat.le_refl _) (.cells #[.func (.func F1) #[] #[]] 229));have c0:(w.alloc (.cells #[.func (.func F1) #[] #[]] 229)).cell? ⟨w.heap.size,0,none⟩=some (.func (.func F1) #[] #[]):=(Blk.new w 229 [.func (.func F1) #[] #[]]).cell 0;have EV:=hid (every_t 215 #[.pointer (some ⟨w.heap.size,0,none⟩)] n c p G (λj=>ok (G j))
  (λ_ W=>Rw W p n G∧W.cell? ⟨w.heap.size,0,none⟩=some (.func (.func F1) #[] #[])∧w.heap.size<W.heap.size∧Below w.heap.size w W)
  (w.alloc (.cells #[.func (.func F1) #[] #[]] 229)) (enters_of Tryz.func215 (by kernel_rfl) rfl) hn
  ⟨hr.below BW.out,c0,by simp,BW.out⟩
  (λj W W' h hb=>⟨h.1.below hb,(hb.cell (p:=⟨w.heap.size,0,none⟩) h.2.2.1).trans h.2.1,Nat.lt_of_lt_of_le h.2.2.1 hb.size,h.2.2.2.trans (hb.mono h.2.2.2.size)⟩)
  (λj W h hj=>h.1.read hj)
  (λj W hj _ h=>(may1_t F1 w.heap.size (G j) j (ok (G j)) W h.2.1 h.2.2.1 hcf1 (hF (G j))).mono (λe W' ⟨he,hb⟩=>⟨he,h.1.below hb,(hb.cell (p:=⟨w.heap.size,0,none⟩) h.2.2.1).trans h.2.1,Nat.lt_of_lt_of_le h.2.2.1 hb.size,h.2.2.2.trans (hb.mono h.2.2.2.size)⟩)))
 clear hr c0 hF hcf1;obtain⟨r,hR⟩:∃ r,allN (λj=>ok (G j)) n=r:=⟨_,rfl⟩;rw[hR] at EV ⊢;clear hR
 by_cases h1:1≤n
 ·by_cases h6:n≤6
  ·rw[show fewN n=true by simp[fewN,h1,h6]];have i1:(1:Int)≤(n:Int):=by omega
   have i6:(n:Int)≤6:=by omega
   clear h1 h6
   go_enter Tryz.func199,Tryz.ntmps199
   go_wp2_with fail
   refine EV.out.mono ?_
   rintro e w2 ⟨m,_,rfl,iv,_⟩
   have IV:=hid iv.2.2.2;clear iv EV;go_wp2_with fail
   go_ret;exact⟨by simp,IV.out⟩
  ·rw[show fewN n=false by simp[fewN,h6]];have i1:(1:Int)≤(n:Int):=by omega
   have i6:(6:Int)< (n:Int):=by omega
   clear h1 h6 EV
   go_enter Tryz.func199,Tryz.ntmps199
   go_wp2_with fail
   go_ret;exact⟨by simp,BW.out⟩
 ·rw[show fewN n=false by simp[fewN];omega];obtain rfl:n=0:=by omega
  clear h1 EV
  go_enter Tryz.func199,Tryz.ntmps199
  go_wp2_with fail
  go_ret;exact⟨by simp,BW.out⟩
def mayV (n:Nat) (G:Nat→Fld):Bool:=fewN n && allN (λj=>okV (G j)) n
def mayP (n:Nat) (G:Nat→Fld):Bool:=fewN n && allN (λj=>okP (G j)) n
theorem May_t (n c:Nat) (p:Option Addr) (G:Nat→Fld) (w:World) (hn:n≤9223372036854775807) (hr:Rw w p n G):
  Calls Tryz.prog 170 #[.slice p n c] w λe w'=>e= .returned (.bool (mayV n G))∧Below w.heap.size w w':=by
 have MT:=hid (may_t 201 okV n c p G w hn hr (enters_of Tryz.func201 (by kernel_rfl) rfl) (λf W=>isValue_t f W));clear hr
 go_enter Tryz.func170,Tryz.ntmps170
 go_wp2_with fail
 refine MT.out.mono ?_
 rintro e w2 ⟨rfl,b2⟩
 go_wp2_with fail
 go_ret;exact⟨rfl,b2⟩
theorem MayTemplate_t (n c:Nat) (p:Option Addr) (G:Nat→Fld) (w:World) (hn:n≤9223372036854775807) (hr:Rw w p n G):
  Calls Tryz.prog 169 #[.slice p n c] w λe w'=>e= .returned (.bool (mayP n G))∧Below w.heap.size w w':=by
 have MT:=hid (may_t 200 okP n c p G w hn hr (enters_of Tryz.func200 (by kernel_rfl) rfl) (λf W=>isPattern_t f W));clear hr
 go_enter Tryz.func169,Tryz.ntmps169
 go_wp2_with fail
 refine MT.out.mono ?_
 rintro e w2 ⟨rfl,b2⟩
 go_wp2_with fail
 go_ret;exact⟨rfl,b2⟩
theorem rows_of_blk {w:World} {g:Nat} {t:TypeId} {cs:List Value} (h:Blk w g t cs):w.rangeAt g 0 cs:=λj v hv=>by rw[Nat.zero_add,h.cell];exact hv
theorem rows_below {w w':World} {B b o:Nat} {cs:List Value} (h:w.rangeAt b o cs) (hb:Below B w w') (hl:b<B):w'.rangeAt b o cs:=λj v hv=>(hb.cell (p:=⟨b,o+j,none⟩) hl).trans (h j v hv)
def sameN (n:Nat) (G:Nat→Fld) (m:Nat) (H:Nat→Fld):Bool:=decide (n=m) && allN (λj=>sameF (G j) (H j)) n
def matchN (n:Nat) (G:Nat→Fld) (m:Nat) (H:Nat→Fld):Bool:=mayP n G && (mayV m H && (decide (n=m) && allN (λj=>takesB (G j) (H j)) n))
theorem fewN_le {n:Nat} (h:fewN n=true):1≤n∧n≤6:=by simpa [fewN] using h
theorem mayP_iff {n:Nat} {G:Nat→Fld} (h:mayP n G=true):1≤n∧n≤6∧∀ j,j<n→okP (G j)=true:=by
 unfold mayP at h;rw[Bool.and_eq_true] at h;exact⟨(fewN_le h.1).1,(fewN_le h.1).2,(allN_iff _ n).1 h.2⟩
def eS:ByteArray:= { data:= #[] }
theorem Kept.setRowK {F:Nat→Prop} {a w:World} (h:Kept F a w) {g:Nat} (hg:F g∨a.heap.size≤g) (c:Array Value):Kept F a (w.setRow g c):=
 ⟨h.os,h.tape,h.output,by simpa using h.size,λk hk hf=>by
  have hne:k≠g:=λe=>by
   subst e;rcases hg with h1 |h1
   ·exact hf h1
   ·omega
  exact(setRow_other w g k c hne).trans (h.block k hk hf)⟩
theorem world_at {P:Program} {c:Code} {Q:Exit→Act→World→Prop} {a:Act} {w:World} (R:World→Prop) (h:R w) (k:∀ W,R W→Code.wp P c Q a W):Code.wp P c Q a w:=k w h
def InR (f:Fld):Prop:= -9223372036854775808≤f.n∧f.n≤9223372036854775807
theorem eS_of (s:ByteArray) (h:s.toList.isEmpty=true):s=eS:=by
 rw[ByteArray.toList_eq] at h;obtain⟨⟨l⟩⟩:=s;have:l=[]:=by simpa using h
 subst this;rfl
theorem allN_congr {B C:Nat→Bool} :∀ n,(∀ j,j<n→B j=C j)→allN B n=allN C n
 |0,_=>rfl
 |n+1,h=>by rw[allN,allN,allN_congr n (λj hj=>h j (by omega)),h n (by omega)]
theorem mayP_congr {n:Nat} {G H:Nat→Fld} (h:∀ j,j<n→G j=H j):mayP n G=mayP n H:=by
 unfold mayP;rw[allN_congr n (λj hj=>by rw[h j hj])]
theorem sameN_iff {n m:Nat} {G H:Nat→Fld} :sameN n G m H=true↔n=m∧∀ j,j<n→G j=H j:=by
 unfold sameN;rw[Bool.and_eq_true,decide_eq_true_eq,allN_iff];exact and_congr_right λ_=>forall_congr' λj=>forall_congr' λ_=>sameF_iff _ _
theorem Rw.congr {w:World} {p:Option Addr} {n:Nat} {G H:Nat→Fld} (h:Rw w p n G) (hg:∀ j,j<n→G j=H j):Rw w p n H:=λj hj=>by
 obtain⟨b,o,e,hl,r⟩:=h j hj;exact⟨b,o,e,hl,by rw[←hg j hj];exact r⟩
structure Rq where
 cl:Int
 sq:Int
 kd:Int
 le:Int
 n:Nat
 G:Nat→Fld
 m:Nat
 H:Nat→Fld
def isK (k:Int):Bool:=decide (1≤k) && decide (k≤8)
def rdK (k:Int):Bool:=decide (2≤k) && decide (k≤7)
def wrK (k:Int):Bool:=(k == 1) || (k == 3) || (k == 5) || (k == 6) || (k == 7)
def brK (k:Int):Bool:=(k == 1) || (k == 6) || (k == 7)
def findB (r:Rq):Bool:=if rdK r.kd then mayP r.n r.G else decide (r.n=0)
def bringB (r:Rq):Bool:=if brK r.kd then mayV r.m r.H && (decide (0≤r.le) && decide (r.le≤1099511627776)) else decide (r.m=0) && (r.le == 0)
def headB (r:Rq):Bool:=(decide (0≤r.cl) && decide (r.cl<4)) && ((decide (1≤r.sq) && decide (r.sq≤1073741824)) && isK r.kd)
def mayR (r:Rq):Bool:=headB r && (findB r && bringB r)
structure InRq (r:Rq):Prop where
 p:∀ j,j<r.n→InR (r.G j)
 t:∀ j,j<r.m→InR (r.H j)
theorem okV_P {f:Fld} (h:okV f=true):okP f=true:=by
 unfold okP;rw[if_neg]
 ·exact h
 ·unfold okV at h
  split at h
  ·omega
  ·split at h
   ·omega
   ·cases h
theorem mayV_P {n:Nat} {G:Nat→Fld} (h:mayV n G=true):mayP n G=true:=by
 unfold mayV at h;rw[Bool.and_eq_true] at h;unfold mayP;rw[h.1,Bool.true_and];exact(allN_iff _ n).2 (λj hj=>okV_P ((allN_iff _ n).1 h.2 j hj))
theorem mayP_pos {n:Nat} {G:Nat→Fld} (h:mayP n G=true):n≠0:=by have:=(mayP_iff h).1;omega
structure MayH (r:Rq):Prop where
 cl0:0≤r.cl
 cl4:r.cl<4
 sq1:1≤r.sq
 sqm:r.sq≤1073741824
 k1:1≤r.kd
 k8:r.kd≤8
 le0:0≤r.le
 lem:r.le≤1099511627776
 p:r.n=0∨mayP r.n r.G=true
 t:r.m=0∨mayP r.m r.H=true
theorem mayR_h {r:Rq} (h:mayR r=true):MayH r:=by
 unfold mayR headB isK at h;simp only[Bool.and_eq_true,decide_eq_true_eq] at h;obtain⟨⟨⟨a1,a2⟩,⟨a3,a4⟩,a5,a6⟩,hf,hg⟩:=h;have hg2:0≤r.le∧r.le≤1099511627776∧(r.m=0∨mayP r.m r.H=true):=by
  unfold bringB at hg
  split at hg
  ·simp only[Bool.and_eq_true,decide_eq_true_eq] at hg;exact⟨hg.2.1,hg.2.2,.inr (mayV_P hg.1)⟩
  ·simp only[Bool.and_eq_true,decide_eq_true_eq,beq_iff_eq] at hg;exact⟨by omega,by omega,.inl hg.1⟩
 have hf2:r.n=0∨mayP r.n r.G=true:=by
  unfold findB at hf
  split at hf
  ·exact .inr hf
  ·exact .inl (by simpa using hf)
 exact⟨a1,a2,a3,a4,a5,a6,hg2.1,hg2.2.1,hf2,hg2.2.2⟩
theorem mayV_congr {n:Nat} {G H:Nat→Fld} (h:∀ j,j<n→G j=H j):mayV n G=mayV n H:=by
 unfold mayV;rw[allN_congr n (λj hj=>by rw[h j hj])]
theorem load_blk_gO {P:Program} {ops:Array Oper} {rest:List Oper} {o:Oper} {a:Act} {w:World} {Q:Exit→Act→World→Prop} (ty:TypeId) (x:Operand) (g:Nat) (t:TypeId) (cs:List Value) (d:TypeDesc)
  (hw:Region.wanted o (yielded ops a.tmps)=true) (ho:o.op= .load ty x) (hg:Blk w g t cs) (hu:P.underlying ty=some d) (hd:d.isRow=true) (hi:(P.info? ty).map (·.size)=some cs.length)
  (hx:a.eval x= .pointer (some ⟨g,0,none⟩)) (h:wpList P ops Q rest (a.put o.dst (.agg cs.toArray)) w):wpList P ops Q (o::rest) a w:=
 BigFrame.wpList_want hw λ_ hK=>wload_part ty x g 0 t [] cs [] d ho (by simpa using hg) rfl hu hd hi hx (hK _ _ h)
theorem load_blk_gdO {P:Program} {ops:Array Oper} {rest:List Oper} {o:Oper} {a:Act} {w:World} {Q:Exit→Act→World→Prop} (D:Nat) (ty:TypeId) (x:Operand) (g:Nat) (t:TypeId) (cs:List Value) (d:TypeDesc)
  (_hD:o.dst=some D) (hw:Region.wanted o (yielded ops a.tmps)=true) (ho:o.op= .load ty x) (hg:Blk w g t cs) (hu:P.underlying ty=some d) (hd:d.isRow=true) (hi:(P.info? ty).map (·.size)=some cs.length)
  (hx:a.eval x= .pointer (some ⟨g,0,none⟩)) (h:wpList P ops Q rest (a.put o.dst (.agg cs.toArray)) w):wpList P ops Q (o::rest) a w:=
 load_blk_gO ty x g t cs d hw ho hg hu hd hi hx h
structure Rv where
 r:Rq
 p:Option Addr
 c:Nat
 t:Option Addr
 d:Nat
def rv (x:Rv):List Value:=[.int .i64 x.r.cl,.int .i64 x.r.sq,.int .i64 x.r.kd,.slice x.p x.r.n x.c,.slice x.t x.r.m x.d,.int .i64 x.r.le]
theorem rv_size (x:Rv):(Tryz.prog.info? 54).map (·.size)=some (rv x).length:=by
 show(Tryz.prog.info? 54).map (·.size)=some 6
 kernel_rfl
structure RvW (w:World) (x:Rv):Prop where
 p:Rw w x.p x.r.n x.r.G
 t:Rw w x.t x.r.m x.r.H
 n:x.r.n≤9223372036854775807
 m:x.r.m≤9223372036854775807
theorem RvW.below {w w':World} {x:Rv} (h:RvW w x) (hb:Below w.heap.size w w'):RvW w' x:=⟨h.p.below hb,h.t.below hb,h.n,h.m⟩
theorem rv_cells {w:World} {g:Nat} {x:Rv} (h:Blk w g 54 (rv x)):
  w.cell? ⟨g,0,none⟩=some (.int .i64 x.r.cl)∧w.cell? ⟨g,1,none⟩=some (.int .i64 x.r.sq)∧w.cell? ⟨g,2,none⟩=some (.int .i64 x.r.kd)∧w.cell? ⟨g,3,none⟩=some (.slice x.p x.r.n x.c)∧w.cell? ⟨g,4,none⟩=some (.slice x.t x.r.m x.d)∧w.cell? ⟨g,5,none⟩=some (.int .i64 x.r.le):=⟨h.cell 0,h.cell 1,h.cell 2,h.cell 3,h.cell 4,h.cell 5⟩
end Go.Proofs.YtlipjglehongeaaGreatDoor
