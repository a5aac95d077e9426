/-
  PACKAGE ots
  PACKAGE ots
  PACKAGE lms, SIZES AND TYPECODES
-/
import Derived.Test.YtjlophplcmidlaaGreatDoorAd6
import Derived.WalkSpells
open Go.Lib (hid)
set_option maxRecDepth 100000
namespace Go.Proofs.YtjlophplcmidlaaGreatDoor
open Go Go.RowKit Sh
section
section
theorem kd_p (i:Nat) (hi:i<4):(kd i).p≤265:=by
 have:i=0∨i=1∨i=2∨i=3:=by omega
 rcases this with rfl |rfl |rfl |rfl<;>decide
theorem int_info:(Tryz.prog.info? 3).map (λi=>(i.zero,i.size,i.bytes))=some (some (.int .i64 0),1,8):=by kernel_rfl
theorem size32 (l:List Nat) (h:l.length=32):(Tryz.prog.info? 23).map (·.size)=some (u8s l).length:=by
 rw[u8s_length,h]
 kernel_rfl
def FreshI (w w':World) (v:Value) (l:List Nat):Prop:=w'.ownsRow w.heap.size 3 1 v l.length (ints l)∧Below w.heap.size w w'
section
variable {P : Program} {ops : Array Oper} {rest : List Oper} {o : Oper} {a : Act} {Q : Exit → Act → World → Prop} {w : World}
theorem append_cells (s x:Operand) (t:TypeId) (hgd:o.guard=none) (ho:o.op= .call { callee:= .builtin .append,args:= #[s,x],argTypes:= #[t,t] })
  (e:TypeId) (z:Value) (bytes:Nat) (ht:P.underlying t=some (.slice e)) (hi:(P.info? e).map (λi=>(i.zero,i.size,i.bytes))=some (some z,1,bytes)) (hz:z.cells.size=1) (base:Nat) (v:Value) (n:Nat) (xs ys:List Value) (hs:a.eval s=v)
  (hown:w.ownsRow base e 1 v n xs) (ad:Addr) (m c:Nat) (hx:a.eval x= .slice (some ad) m c) (hm:ys.length=m) (hp:∀ j u,ys[j]? =some u→w.cell? (ad.add j)=some u) (h1:∀ u∈ys,u.oneCell'=true) (h63:n+m≤maxLen) (hb47:(n+m) * bytes≤140737488355328) (hbase:base≤w.heap.size)
  (h:∀ v' w',Hid (w'.ownsRow base e 1 v' (n+m) (xs++ys))→Hid (w.grownBy w' v.ownBlock)→Hid (v'.ownBlock=v.ownBlock∨v'.ownBlock=some w.heap.size)→wpList P ops Q rest (a.put o.dst v') w'):wpList P ops Q (o::rest) a w:=by
 obtain⟨i,hi',hz',hs',hby⟩:∃ i,P.info? e=some i∧i.zero=some z∧i.size=1∧i.bytes=bytes:=by
  cases hq:P.info? e with
  |none=>simp[hq] at hi
  |some i=>simp[hq] at hi;exact⟨i,rfl,hi⟩
 obtain⟨v',w',hr,h2,h3,_,h5⟩:=run_append_own_at (P:=P) w base t o.type e i z 1 bytes ht hi' hz' hs' hby (by simpa using hz) (by omega) v n xs hown ad m c ys (by omega) hp h1 h63 hb47 hbase;refine wpList_plain hgd λ_ hK=>?_
 unfold Oper.wp execOp;simp only[ho,resolve,invoke,builtin,Sem.run_bind,Sem.run_pure,Result.andThen_ok,List.map_toArray,List.map_cons,List.map_nil,hs,hx,hr];exact hK _ _ (h v' w' (hid h2) (hid h3) (hid h5))
end
theorem chains_t (n:Int) (w:World) (hk:KI w) (R:Ending→World→Prop)
  (hyes:∀ i w',i<4→n=((kd i).w:Int)→Below w.heap.size w w'→R (.returned (.int .i64 ((kd i).p:Int))) w')
  (hno:∀ w',(∀ i,i<4→n≠((kd i).w:Int))→Below w.heap.size w w'→R (.returned (.int .i64 0)) w'):Calls Tryz.prog 111 #[.int .i64 n] w R:=by
 have HK:=hid hk;have HY:=hid hyes;have HN:=hid hno;clear hk hyes hno
 go_enter Tryz.func111,Tryz.ntmps111
 go_wp2_with fail
 refine find_t n w HK.out _ (λi w1 hi hn b1=>?_) (λw1 hn b1=>?_)
 ·have HN':=hid hn;have B1:=hid b1;have R1:=hid (Blk.new w1 156 kz);have c1:((w1.alloc (.cells #[.int .u64 0,.int .i64 0,.int .i64 0,.int .i64 0] 156)).setRow w1.heap.size (kv (kd i)).toArray).cell? ⟨w1.heap.size,2,none⟩=some (.int .i64 ((kd i).p:Int)):=(R1.out.setRow (kv (kd i))).cell 2;clear hn b1
  go_wp2_with ((with_reducible refine store_blk 156 (.tmp 3) (.tmp 8) w1.heap.size 156 kz (kv (kd i)) rfl rfl ?_ ?_ ?_ ?_ ?_ ?_ ?_);exact R1.out;exact rfl;exact kv_size _;exact kv_one _;exact rfl;exact rfl)
  exact HY.out i _ hi HN'.out (below_setRow (B1.out.alloc B1.out.size _) B1.out.size _)
 ·have HN':=hid hn;have B1:=hid b1;have R1:=hid (Blk.new w1 156 kz);have c1:((w1.alloc (.cells #[.int .u64 0,.int .i64 0,.int .i64 0,.int .i64 0] 156)).setRow w1.heap.size kz.toArray).cell? ⟨w1.heap.size,2,none⟩=some (.int .i64 0):=(R1.out.setRow kz).cell 2;clear hn b1
  go_wp2_with ((with_reducible refine store_blk 156 (.tmp 3) (.tmp 8) w1.heap.size 156 kz kz rfl rfl ?_ ?_ ?_ ?_ ?_ ?_ ?_);exact R1.out;exact rfl;exact kz_size;exact kz_one;exact rfl;exact rfl)
  exact HN.out _ HN'.out (below_setRow (B1.out.alloc B1.out.size _) B1.out.size _)
theorem int_nil_own (w:World) (base:Nat):w.ownsRow base 3 1 (.slice none 0 0) 0 (ints []):=World.ownsRow_nil _ _ _ _
theorem ints_app (l m:List Nat):ints (l++m)=ints l++ints m:=List.map_append
def widths (k:Nat):List Nat:=(List.range k).map λj=>(kd j).w
set_option maxHeartbeats 1000000 in
theorem types_t (w:World) (hk:KI w):Calls Tryz.prog 109 #[] w λe w'=>∃ v,e= .returned v∧FreshI w w' v [1,2,4,8]:=by
 have HK:=hid hk;clear hk
 go_enter Tryz.func109,Tryz.ntmps109
 go_wp2_with ((with_reducible refine wpList_load_mid rfl 183 (.global 0) rfl 0 0 ?_ kds _ ?_ Tryz.underlying183 ?_ ?_ ?_);exact rfl;exact HK.out.at_;exact rfl;exact kds_size)
 go_loopw [1,5] (λv i wr=>∃ k:Nat,k≤4∧i= .int .i64 k∧wr.ownsRow w.heap.size 3 1 v k (ints (widths k))∧Below w.heap.size w wr) (λ_ i _=>4- (intOf i).toNat)
 case atStart=>exact⟨0,by omega,rfl,int_nil_own _ _,Below.refl _ _⟩
 case round=>
  obtain⟨k,hk,rfl,ho,hb⟩:=hrel;have HO:=hid ho;have HB:=hid hb;have b1:=HB.out.size;clear ho hb
  by_cases hlt:k<4
  ·have hix:=kd_index k hlt;have RN:=hid (Blk.new wr 156 kz);have c1:(((wr.alloc (.cells #[.int .u64 0,.int .i64 0,.int .i64 0,.int .i64 0] 156)).setRow wr.heap.size (kv (kd k)).toArray)).cell? ⟨wr.heap.size,1,none⟩=some (.int .i64 ((kd k).w:Int)):=(RN.out.setRow (kv (kd k))).cell 1;have BA:=hid (below_setRow ((Below.refl wr.heap.size wr).alloc (Nat.le_refl _) (.cells kz.toArray 156)) (Nat.le_refl _) (kv (kd k)).toArray);have BB:=hid ((BA.out).alloc BA.out.size (.cells #[.int .i64 ((kd k).w:Int)] 3))
   go_wp2_with (first
    |((with_reducible refine store_blk 156 (.tmp 3) (.tmp 7) wr.heap.size 156 kz (kv (kd k)) rfl rfl ?_ ?_ ?_ ?_ ?_ ?_ ?_);exact RN.out;exact rfl;exact kv_size _;exact kv_one _;exact rfl;exact rfl)
    |((with_reducible refine at_op (.call { callee:= .builtin .append,args:= #[.tmp 8,.tmp 11],argTypes:= #[37,37] }) rfl ?_);refine append_cells (.tmp 8) (.tmp 11) 37 rfl rfl 3 (.int .i64 0) 8 Tryz.underlying37 int_info rfl w.heap.size _ k _ (ints [(kd k).w]) rfl (own_below HO.out BB.out) ⟨wr.heap.size+1,0,none⟩ 1 1 rfl rfl (λj u hu=>by rw[Addr.add_mid,Nat.zero_add,(blk_at (by simp) _ _ (ints [(kd k).w])).cell];exact hu) (ints_each _) (by unfold maxLen;omega) (by omega) (by simp;omega) ?_;intro v2 w2 a1 a2 a3))
   go_roundw
   case rel=>
    refine⟨k+1,by omega,by go_num,?_,?_⟩
    ·have h:=a1.out;rw[←ints_app] at h;unfold widths;rw[List.range_succ,List.map_append];exact h
    ·exact((below_setRow (HB.out.alloc HB.out.size _) b1 _).alloc (by simp;omega) _).grown a2.out (by simp;omega) (λi e=>(HO.out.lt i e).1)
   case measure=>simp[intOf];omega
  ·obtain rfl:k=4:=by omega
   go_wp2_with fail
   go_ret;exact⟨_,rfl,HO.out,HB.out⟩
end
def z32:List Nat:=List.replicate 32 0
theorem z32_size:(Tryz.prog.info? 23).map (·.size)=some (u8s z32).length:=size32 _ rfl
theorem own_cell {w:World} {base:Nat} {v:Value} {l:List Nat} {n:Nat} (h:w.ownsRow base 3 1 v n (ints l)) (hn:0<n):∃ g c,v= .slice (some ⟨g,0,none⟩) n c∧n≤c∧(∀ j,j<n→w.cell? ⟨g,j,none⟩=some (.int .i64 ((gt l j:Nat):Int)))∧g<w.heap.size:=by
 obtain⟨g,cap,rfl,_,hlt⟩:=h.form hn;have hl:l.length=n:=by have:=h.1;rw[ints_length] at this;omega
 obtain⟨_,_,e,hc⟩:=own_form h
 injection e with _ _ e
 subst e;refine⟨g,cap,rfl,hc,λj hj=>?_,hlt⟩;have:=h.cells (g:=g) rfl j _ (ints_get l j (by omega));rw[Addr.add_mid,Nat.zero_add] at this;exact this
theorem kd_inj {i j:Nat} (hi:i<4) (hj:j<4) (h:(kd i).w=(kd j).w):i=j:=by
 have h1:i=0∨i=1∨i=2∨i=3:=by omega
 have h2:j=0∨j=1∨j=2∨j=3:=by omega
 rcases h1 with rfl |rfl |rfl |rfl<;>rcases h2 with rfl |rfl |rfl |rfl<;>first |rfl |(exact absurd h (by decide))
theorem chains_of (i:Nat) (hi:i<4) (w:World) (hk:KI w):Calls Tryz.prog 111 #[.int .i64 ((kd i).w:Int)] w λe w'=>e= .returned (.int .i64 ((kd i).p:Int))∧Below w.heap.size w w':=
 chains_t _ w hk _ (λj _ hj hn b=>by
  obtain rfl:=kd_inj hi hj (by omega);exact⟨rfl,b⟩) (λ_ hn _=>absurd rfl (hn i hi))
end
theorem kd_code (i:Nat) (hi:i<4):(kd i).code=i+1:=by
 have:i=0∨i=1∨i=2∨i=3:=by omega
 rcases this with rfl |rfl |rfl |rfl<;>rfl
theorem kd_w8 (i:Nat):(kd i).w≤8∧1≤(kd i).w:=by
 rcases i with _ |_ |_ |i<;>simp[kd]
theorem gt_widths (j:Nat) (hj:j<4):gt [1,2,4,8] j=(kd j).w:=by
 have:j=0∨j=1∨j=2∨j=3:=by omega
 rcases this with rfl |rfl |rfl |rfl<;>rfl
set_option maxHeartbeats 400000 in
theorem index_t (g c:Nat) (n:Int) (w:World) (hc:∀ j,j<4→w.cell? ⟨g,j,none⟩=some (.int .i64 ((kd j).w:Int))) (R:Ending→World→Prop)
  (hyes:∀ i:Nat,i<4→n=((kd i).w:Int)→R (.returned (.int .i64 (i:Int))) w) (hno:(∀ i,i<4→n≠((kd i).w:Int))→R (.returned (.int .i64 (-1))) w):
  Calls Tryz.prog 140 #[.slice (some ⟨g,0,none⟩) 4 c,.int .i64 n] w R:=by
 have HC:=hid hc;have HY:=hid hyes;have HN:=hid hno;clear hc hyes hno
 go_enter Tryz.func140,Tryz.ntmps140
 go_wp2_with fail
 go_loopw [8] (λi wr=>∃ k:Nat,k≤4∧i= .int .i64 k∧(∀ j,j<k→n≠((kd j).w:Int))∧wr=w) (λi _=>4- (intOf i).toNat)
 case atStart=>exact⟨0,by omega,rfl,λj hj=>absurd hj (by omega),by first |rfl |trivial⟩
 case round=>
  obtain⟨k,hk,rfl,hn,rfl⟩:=hrel;have HNK:=hid hn;clear hn
  by_cases hlt:k<4
  ·have c0:=HC.out k hlt
   by_cases he:n=((kd k).w:Int)
   ·have he2:(n == ((kd k).w:Int))=true:=by simp[he]
    have HE:=hid he;clear he;go_wp2_with fail
    exact HY.out k hlt HE.out
   ·have he2:(n == ((kd k).w:Int))=false:=by rw[beq_eq_false_iff_ne];exact he
    have HE:=hid he;clear he;go_wp2_with fail
    go_roundw
    case rel=>
     refine⟨k+1,by omega,by go_num,λj hj=>?_,by first |rfl |trivial⟩;rcases Nat.lt_or_ge j k with h |h
     ·exact HNK.out j h
     ·obtain rfl:j=k:=by omega
      exact HE.out
    case measure=>simp[intOf];omega
  ·obtain rfl:k=4:=by omega
   go_wp2_with fail
   exact HN.out HNK.out
theorem typeOf_t (n:Int) (w:World) (hk:KI w) (R:Ending→World→Prop)
  (hyes:∀ i w',i<4→n=((kd i).w:Int)→Below w.heap.size w w'→R (.returned (.int .u64 ((kd i).code:Int))) w')
  (hno:∀ w',(∀ i,i<4→n≠((kd i).w:Int))→Below w.heap.size w w'→R (.returned (.int .u64 0)) w'):Calls Tryz.prog 110 #[.int .i64 n] w R:=by
 have HK:=hid hk;have HY:=hid hyes;have HN:=hid hno;clear hk hyes hno
 go_enter Tryz.func110,Tryz.ntmps110
 go_wp2_with fail
 refine(types_t w HK.out).mono ?_
 rintro e w1 ⟨v,rfl,o1,b1⟩
 obtain⟨g1,c1,rfl,hc1,hv1,l1⟩:=own_cell o1 (by decide);have V1:=hid (λj (hj:j<4)=>(hv1 j hj).trans (by rw[gt_widths j hj]));have B1:=hid b1;clear o1 b1 hv1 HK;go_wp2_with fail
 refine index_t g1 c1 n w1 V1.out _ (λi hi hn=>?_) (λhn=>?_)
 ·have HI:=hid hn;have i4:(i:Int)<4:=by omega
  clear hn;go_wp2_with fail
  have:=HY.out i w1 hi HI.out B1.out;rw[kd_code i hi] at this;exact this
 ·have HI:=hid hn;clear hn;go_wp2_with fail
  exact HN.out w1 HI.out B1.out
theorem widthOf_t (x:Nat) (w:World) (hk:KI w) (hx:1≤x) (hx4:x≤4):
  Calls Tryz.prog 78 #[.int .u64 (x:Int)] w λe w'=>e= .returned (.int .i64 ((kd (x-1)).w:Int))∧Below w.heap.size w w':=by
 have HK:=hid hk;have x1:(1:Int)≤x:=by omega
 have x2:(x:Int)≤4:=by omega
 clear hk
 go_enter Tryz.func78,Tryz.ntmps78
 go_wp2_with fail
 refine(types_t w HK.out).mono ?_
 rintro e w1 ⟨v,rfl,o1,b1⟩
 obtain⟨g1,c1,rfl,hc1,hv1,l1⟩:=own_cell o1 (by decide);obtain⟨m,rfl⟩:∃ m,x=m+1:=⟨x-1,by omega⟩;have v1:=(hv1 m (show m<4 by omega)).trans (by rw[gt_widths m (by omega)]);have V1:=hid v1;have B1:=hid b1;have e1:IntKind.u64.wrap (((m+1:Nat):Int) -1)=(m:Int):=by rw[show(((m+1:Nat):Int) -1)=(m:Int) from by omega];exact IntWalk.u64_in _ (by omega)
 have m4:(m:Int)<4:=by omega
 clear o1 b1 hv1 HK v1;have v1:=V1.out;go_wp2_with fail
 go_ret;exact⟨rfl,B1.out⟩
theorem widthOf_no (x:Nat) (w:World) (hk:KI w) (hx:x<1∨4<x):
  Calls Tryz.prog 78 #[.int .u64 (x:Int)] w λe w'=>e= .returned (.int .i64 0)∧Below w.heap.size w w':=by
 have HK:=hid hk;clear hk
 by_cases h1:x<1
 ·have x1:(x:Int)<1:=by omega
  clear hx h1
  go_enter Tryz.func78,Tryz.ntmps78
  go_wp2_with fail
  refine(types_t w HK.out).mono ?_
  rintro e w1 ⟨v,rfl,o1,b1⟩
  have B1:=hid b1;clear o1 b1;go_wp2_with fail
  go_ret;exact⟨rfl,B1.out⟩
 ·have x1:(1:Int)≤x:=by omega
  have x2:(4:Int)<x:=by omega
  clear hx h1
  go_enter Tryz.func78,Tryz.ntmps78
  go_wp2_with fail
  refine(types_t w HK.out).mono ?_
  rintro e w1 ⟨v,rfl,o1,b1⟩
  obtain⟨g1,c1,rfl,hc1,hv1,l1⟩:=own_cell o1 (by decide);have B1:=hid b1;clear o1 b1 hv1;go_wp2_with fail
  go_ret;exact⟨rfl,B1.out⟩
theorem otsSize_t (i:Nat) (hi:i<4) (w:World) (hk:KI w):
  Calls Tryz.prog 80 #[.int .i64 ((kd i).w:Int)] w λe w'=>e= .returned (.int .i64 ((36+32 * (kd i).p:Nat):Int))∧Below w.heap.size w w':=by
 have CH:=hid (chains_of i hi w hk);have hp:=kd_p i hi;obtain⟨p,hpp⟩:∃ p,(kd i).p=p:=⟨_,rfl⟩;obtain⟨v,hv⟩:∃ v,(kd i).w=v:=⟨_,rfl⟩;rw[hpp,hv] at CH;rw[hpp] at hp;rw[hpp,hv];clear hk hpp hv
 go_enter Tryz.func80,Tryz.ntmps80
 go_wp2_with fail
 refine CH.out.mono ?_
 rintro e w1 ⟨rfl,b1⟩
 have B1:=hid b1;clear b1;go_wp2_with fail
 go_ret;exact⟨congrArg (λz:Int=>Ending.returned (.int .i64 z)) (by omega),B1.out⟩
def lszN (i:Nat):Nat:=204+32 * (kd i).p
theorem size_yes (i:Nat) (hi:i<4) (w:World) (hk:KI w):
  Calls Tryz.prog 79 #[.int .i64 ((kd i).w:Int)] w λe w'=>e= .returned (.int .i64 ((lszN i:Nat):Int))∧Below w.heap.size w w':=by
 have OS:=hid (λW hW=>otsSize_t i hi W hW);have HK:=hid hk;have hp:=kd_p i hi;unfold lszN;obtain⟨p,hpp⟩:∃ p,(kd i).p=p:=⟨_,rfl⟩;obtain⟨v,hv⟩:∃ v,(kd i).w=v:=⟨_,rfl⟩;rw[hpp,hv] at OS;rw[hpp] at hp;rw[hpp,hv];have HV:=hid hv;clear hk hpp hv
 go_enter Tryz.func79,Tryz.ntmps79
 go_wp2_with fail
 refine typeOf_t (v:Int) w HK.out _ (λj w1 hj hn b1=>?_) (λ_ hn _=>absurd (by rw[HV.out]) (hn i hi));have c1:(((kd j).code:Int) == 0)=false:=by rw[beq_eq_false_iff_ne,kd_code j hj];omega
 have B1:=hid b1;obtain⟨co,hco⟩:∃ c,(kd j).code=c:=⟨_,rfl⟩;rw[hco] at c1 ⊢;clear hn b1 hco;go_wp2_with fail
 refine(OS.out w1 (HK.out.kept B1.out)).mono ?_
 rintro e w2 ⟨rfl,b2⟩
 have B2:=hid (B1.out.trans (b2.mono B1.out.size));have q1:(((36+32 * p:Nat)):Int)≤9000:=by omega
 clear b2;go_wp2_with fail
 go_ret;exact⟨congrArg (λz:Int=>Ending.returned (.int .i64 z)) (by omega),B2.out⟩
end Go.Proofs.YtjlophplcmidlaaGreatDoor
