/-
  THE REFERENCE of chapters 6 and 7, as layer 8 wants it
-/
import Derived.Test.YtlipjglehongeaaGreatDoorGb4
import Derived.Test.YtlipjglehongeaaGreatDoorTk
open Go.Lib (hid)
set_option maxRecDepth 100000
namespace Go.Proofs.YtlipjglehongeaaGreatDoor
open Go Go.RowKit Sh
def okM (most:Int) (f:Fld):Bool:= !(decide (f.k<1) || decide (most<f.k) || (f.k != 1 && f.n != 0) || (f.k != 2 && !f.s.toList.isEmpty) || decide (40< (f.s.size:Int)))
theorem size_empty {s:ByteArray} (h:s.toList.isEmpty=true):s.size=0:=by rw[eS_of s h];rfl
theorem okM_V (f:Fld):okM 2 f=okV f:=by
 obtain⟨k,n,s⟩:=f;unfold okM okV
 cases he:s.toList.isEmpty with
 |true=>
  have hs:=size_empty he;rw[Bool.eq_iff_iff];simp[hs];omega
 |false=>
  rw[Bool.eq_iff_iff];simp;omega
theorem okM_P (f:Fld):okM 5 f=okP f:=by
 obtain⟨k,n,s⟩:=f;unfold okM okP okV
 cases he:s.toList.isEmpty with
 |true=>
  have hs:=size_empty he;rw[Bool.eq_iff_iff];simp[hs]
  by_cases h3:k=3∨k=4∨k=5
  ·rw[if_pos h3];omega
  ·rw[if_neg h3];omega
 |false=>
  rw[Bool.eq_iff_iff];simp;omega
set_option maxHeartbeats 1000000 in
theorem reffields_t (most:Int) (n c:Nat) (p:Option Addr) (G:Nat→Fld) (w:World) (hn:n≤9223372036854775807) (hr:Rw w p n G):
  Calls Tryz.prog 166 #[.slice p n c,.int .i64 most] w λe w'=>e= .returned (.bool (fewN n && allN (λj=>okM most (G j)) n))∧Below w.heap.size w w':=by
 have HR:=hid hr;have AY:=hid (λh=>(allN_iff (λj=>okM most (G j)) n).2 h);have AN:=hid (λj hj h=>allN_no (B:=λj=>okM most (G j)) (n:=n) (j:=j) hj h);obtain⟨r,hR⟩:∃ r,allN (λj=>okM most (G j)) n=r:=⟨_,rfl⟩;rw[hR] at AY AN ⊢;clear hR hr
 by_cases h1:1≤n
 ·by_cases h6:n≤6
  ·rw[show fewN n=true by simp[fewN,h1,h6],Bool.true_and];have i1:(1:Int)≤(n:Int):=by omega
   have i6:(n:Int)≤6:=by omega
   clear h1 h6
   go_enter Tryz.func166,Tryz.ntmps166
   go_upto_region 4 with(fail)
   go_loopw [5] (λx wr=>∃ j:Nat,j≤n∧x= .int .i64 (j:Int)∧Below w.heap.size w wr∧∀ i,i<j→okM most (G i)=true) (λx _=>n- (intOf x).toNat)
   case atStart=>exact⟨0,by omega,rfl,Below.refl _ _,λi hi=>absurd hi (by omega)⟩
   case round=>
    obtain⟨j,hj,rfl,bx,hb⟩:=hrel;have HB:=hid hb;have BX:=hid bx;clear hb bx
    by_cases hlt:j<n
    ·obtain⟨b,o,rfl,rg⟩:=(HR.out.below BX.out).read hlt;have j1:(j:Int)< (n:Int):=by omega
     have AN1:=hid (AN.out j hlt);have HN:=hid (λ(h:okM most (G j)=true) (i:Nat) (hi:i<j+1)=>show okM most (G i)=true by
      rcases Nat.lt_or_ge i j with h1 |h1
      ·exact HB.out i h1
      ·obtain rfl:i=j:=by omega
       exact h)
     obtain⟨f,hf⟩:∃ f,G j=f:=⟨_,rfl⟩;rw[hf] at rg AN1 HN;obtain⟨k,m,s⟩:=f;have RG:=hid rg;have BZ:=hid (Blk.new wr 154 [.int .i64 0,.int .i64 0,.string { data:= #[] }]);have b1:=BZ.out.setRow (fv ⟨k,m,s⟩);obtain⟨c0,c1,c2⟩:=fv_cells b1;have BY:=hid (below_setRow (BX.out.alloc BX.out.size (.cells #[.int .i64 0,.int .i64 0,.string { data:= #[] }] 154)) BX.out.size (fv ⟨k,m,s⟩).toArray);clear rg hf HB b1
     cases e1:decide (k<1) with
     |true=>
      have hR:=AN1.out (by unfold okM;simp only[e1];rfl);subst hR;clear AN1 HN BX
      go_wp2_with (first
 |(with_reducible refine at_op (.load 154 (.tmp 23)) rfl ?_;go_must (refine wpList_load_mid rfl 154 (.tmp 23) rfl b (o+j * 3) rfl (fv ⟨k,m,s⟩) _ RG.out Tryz.underlying154 rfl (fv_size _) ?_))
 |(with_reducible refine at_op (.store 154 (.tmp 6) (.tmp 24)) rfl ?_;go_must (refine store_blk 154 (.tmp 6) (.tmp 24) wr.heap.size 154 [.int .i64 0,.int .i64 0,.string { data:= #[] }] (fv ⟨k,m,s⟩) rfl rfl BZ.out rfl (fv_size _) (fv_one _) rfl rfl ?_)))
      go_ret;exact⟨rfl,BY.out⟩
     |false=>
     cases e2:decide (most<k) with
     |true=>
      have hR:=AN1.out (by unfold okM;simp only[e1,e2];rfl);subst hR;clear AN1 HN BX
      go_wp2_with (first
 |(with_reducible refine at_op (.load 154 (.tmp 23)) rfl ?_;go_must (refine wpList_load_mid rfl 154 (.tmp 23) rfl b (o+j * 3) rfl (fv ⟨k,m,s⟩) _ RG.out Tryz.underlying154 rfl (fv_size _) ?_))
 |(with_reducible refine at_op (.store 154 (.tmp 6) (.tmp 24)) rfl ?_;go_must (refine store_blk 154 (.tmp 6) (.tmp 24) wr.heap.size 154 [.int .i64 0,.int .i64 0,.string { data:= #[] }] (fv ⟨k,m,s⟩) rfl rfl BZ.out rfl (fv_size _) (fv_one _) rfl rfl ?_)))
      go_ret;exact⟨rfl,BY.out⟩
     |false=>
     cases e3:(k != 1) with
     |false=>
      cases e5:(k != 2) with
      |false=>
       cases e7:decide (40< (s.size:Int)) with
       |true=>
        have hR:=AN1.out (by unfold okM;simp only[e1,e2,e3,e5,e7];rfl);subst hR;clear AN1 HN BX
        go_wp2_with (first
 |(with_reducible refine at_op (.load 154 (.tmp 23)) rfl ?_;go_must (refine wpList_load_mid rfl 154 (.tmp 23) rfl b (o+j * 3) rfl (fv ⟨k,m,s⟩) _ RG.out Tryz.underlying154 rfl (fv_size _) ?_))
 |(with_reducible refine at_op (.store 154 (.tmp 6) (.tmp 24)) rfl ?_;go_must (refine store_blk 154 (.tmp 6) (.tmp 24) wr.heap.size 154 [.int .i64 0,.int .i64 0,.string { data:= #[] }] (fv ⟨k,m,s⟩) rfl rfl BZ.out rfl (fv_size _) (fv_one _) rfl rfl ?_)))
        go_ret;exact⟨rfl,BY.out⟩
       |false=>
        have HN2:=hid (HN.out (by unfold okM;simp only[e1,e2,e3,e5,e7];rfl));clear HN AN1
        go_wp2_with (first
 |(with_reducible refine at_op (.load 154 (.tmp 23)) rfl ?_;go_must (refine wpList_load_mid rfl 154 (.tmp 23) rfl b (o+j * 3) rfl (fv ⟨k,m,s⟩) _ RG.out Tryz.underlying154 rfl (fv_size _) ?_))
 |(with_reducible refine at_op (.store 154 (.tmp 6) (.tmp 24)) rfl ?_;go_must (refine store_blk 154 (.tmp 6) (.tmp 24) wr.heap.size 154 [.int .i64 0,.int .i64 0,.string { data:= #[] }] (fv ⟨k,m,s⟩) rfl rfl BZ.out rfl (fv_size _) (fv_one _) rfl rfl ?_)))
        exact⟨⟨j+1,hlt,by go_num,BY.out,HN2.out⟩,by simp[intOf];omega⟩
      |true=>
      cases e6:s.toList.isEmpty with
      |false=>
       have hR:=AN1.out (by unfold okM;simp only[e1,e2,e3,e5,e6];rfl);subst hR;clear AN1 HN BX
       go_wp2_with (first
 |(with_reducible refine at_op (.load 154 (.tmp 23)) rfl ?_;go_must (refine wpList_load_mid rfl 154 (.tmp 23) rfl b (o+j * 3) rfl (fv ⟨k,m,s⟩) _ RG.out Tryz.underlying154 rfl (fv_size _) ?_))
 |(with_reducible refine at_op (.store 154 (.tmp 6) (.tmp 24)) rfl ?_;go_must (refine store_blk 154 (.tmp 6) (.tmp 24) wr.heap.size 154 [.int .i64 0,.int .i64 0,.string { data:= #[] }] (fv ⟨k,m,s⟩) rfl rfl BZ.out rfl (fv_size _) (fv_one _) rfl rfl ?_)))
       go_ret;exact⟨rfl,BY.out⟩
      |true=>
       cases e7:decide (40< (s.size:Int)) with
       |true=>
        have hR:=AN1.out (by unfold okM;simp only[e1,e2,e3,e5,e6,e7];rfl);subst hR;clear AN1 HN BX
        go_wp2_with (first
 |(with_reducible refine at_op (.load 154 (.tmp 23)) rfl ?_;go_must (refine wpList_load_mid rfl 154 (.tmp 23) rfl b (o+j * 3) rfl (fv ⟨k,m,s⟩) _ RG.out Tryz.underlying154 rfl (fv_size _) ?_))
 |(with_reducible refine at_op (.store 154 (.tmp 6) (.tmp 24)) rfl ?_;go_must (refine store_blk 154 (.tmp 6) (.tmp 24) wr.heap.size 154 [.int .i64 0,.int .i64 0,.string { data:= #[] }] (fv ⟨k,m,s⟩) rfl rfl BZ.out rfl (fv_size _) (fv_one _) rfl rfl ?_)))
        go_ret;exact⟨rfl,BY.out⟩
       |false=>
        have HN2:=hid (HN.out (by unfold okM;simp only[e1,e2,e3,e5,e6,e7];rfl));clear HN AN1
        go_wp2_with (first
 |(with_reducible refine at_op (.load 154 (.tmp 23)) rfl ?_;go_must (refine wpList_load_mid rfl 154 (.tmp 23) rfl b (o+j * 3) rfl (fv ⟨k,m,s⟩) _ RG.out Tryz.underlying154 rfl (fv_size _) ?_))
 |(with_reducible refine at_op (.store 154 (.tmp 6) (.tmp 24)) rfl ?_;go_must (refine store_blk 154 (.tmp 6) (.tmp 24) wr.heap.size 154 [.int .i64 0,.int .i64 0,.string { data:= #[] }] (fv ⟨k,m,s⟩) rfl rfl BZ.out rfl (fv_size _) (fv_one _) rfl rfl ?_)))
        exact⟨⟨j+1,hlt,by go_num,BY.out,HN2.out⟩,by simp[intOf];omega⟩
     |true=>
     cases e4:(m != 0) with
     |true=>
      have hR:=AN1.out (by unfold okM;simp only[e1,e2,e3,e4];rfl);subst hR;clear AN1 HN BX
      go_wp2_with (first
 |(with_reducible refine at_op (.load 154 (.tmp 23)) rfl ?_;go_must (refine wpList_load_mid rfl 154 (.tmp 23) rfl b (o+j * 3) rfl (fv ⟨k,m,s⟩) _ RG.out Tryz.underlying154 rfl (fv_size _) ?_))
 |(with_reducible refine at_op (.store 154 (.tmp 6) (.tmp 24)) rfl ?_;go_must (refine store_blk 154 (.tmp 6) (.tmp 24) wr.heap.size 154 [.int .i64 0,.int .i64 0,.string { data:= #[] }] (fv ⟨k,m,s⟩) rfl rfl BZ.out rfl (fv_size _) (fv_one _) rfl rfl ?_)))
      go_ret;exact⟨rfl,BY.out⟩
     |false=>
      cases e5:(k != 2) with
      |false=>
       cases e7:decide (40< (s.size:Int)) with
       |true=>
        have hR:=AN1.out (by unfold okM;simp only[e1,e2,e3,e4,e5,e7];rfl);subst hR;clear AN1 HN BX
        go_wp2_with (first
 |(with_reducible refine at_op (.load 154 (.tmp 23)) rfl ?_;go_must (refine wpList_load_mid rfl 154 (.tmp 23) rfl b (o+j * 3) rfl (fv ⟨k,m,s⟩) _ RG.out Tryz.underlying154 rfl (fv_size _) ?_))
 |(with_reducible refine at_op (.store 154 (.tmp 6) (.tmp 24)) rfl ?_;go_must (refine store_blk 154 (.tmp 6) (.tmp 24) wr.heap.size 154 [.int .i64 0,.int .i64 0,.string { data:= #[] }] (fv ⟨k,m,s⟩) rfl rfl BZ.out rfl (fv_size _) (fv_one _) rfl rfl ?_)))
        go_ret;exact⟨rfl,BY.out⟩
       |false=>
        have HN2:=hid (HN.out (by unfold okM;simp only[e1,e2,e3,e4,e5,e7];rfl));clear HN AN1
        go_wp2_with (first
 |(with_reducible refine at_op (.load 154 (.tmp 23)) rfl ?_;go_must (refine wpList_load_mid rfl 154 (.tmp 23) rfl b (o+j * 3) rfl (fv ⟨k,m,s⟩) _ RG.out Tryz.underlying154 rfl (fv_size _) ?_))
 |(with_reducible refine at_op (.store 154 (.tmp 6) (.tmp 24)) rfl ?_;go_must (refine store_blk 154 (.tmp 6) (.tmp 24) wr.heap.size 154 [.int .i64 0,.int .i64 0,.string { data:= #[] }] (fv ⟨k,m,s⟩) rfl rfl BZ.out rfl (fv_size _) (fv_one _) rfl rfl ?_)))
        exact⟨⟨j+1,hlt,by go_num,BY.out,HN2.out⟩,by simp[intOf];omega⟩
      |true=>
      cases e6:s.toList.isEmpty with
      |false=>
       have hR:=AN1.out (by unfold okM;simp only[e1,e2,e3,e4,e5,e6];rfl);subst hR;clear AN1 HN BX
       go_wp2_with (first
 |(with_reducible refine at_op (.load 154 (.tmp 23)) rfl ?_;go_must (refine wpList_load_mid rfl 154 (.tmp 23) rfl b (o+j * 3) rfl (fv ⟨k,m,s⟩) _ RG.out Tryz.underlying154 rfl (fv_size _) ?_))
 |(with_reducible refine at_op (.store 154 (.tmp 6) (.tmp 24)) rfl ?_;go_must (refine store_blk 154 (.tmp 6) (.tmp 24) wr.heap.size 154 [.int .i64 0,.int .i64 0,.string { data:= #[] }] (fv ⟨k,m,s⟩) rfl rfl BZ.out rfl (fv_size _) (fv_one _) rfl rfl ?_)))
       go_ret;exact⟨rfl,BY.out⟩
      |true=>
       cases e7:decide (40< (s.size:Int)) with
       |true=>
        have hR:=AN1.out (by unfold okM;simp only[e1,e2,e3,e4,e5,e6,e7];rfl);subst hR;clear AN1 HN BX
        go_wp2_with (first
 |(with_reducible refine at_op (.load 154 (.tmp 23)) rfl ?_;go_must (refine wpList_load_mid rfl 154 (.tmp 23) rfl b (o+j * 3) rfl (fv ⟨k,m,s⟩) _ RG.out Tryz.underlying154 rfl (fv_size _) ?_))
 |(with_reducible refine at_op (.store 154 (.tmp 6) (.tmp 24)) rfl ?_;go_must (refine store_blk 154 (.tmp 6) (.tmp 24) wr.heap.size 154 [.int .i64 0,.int .i64 0,.string { data:= #[] }] (fv ⟨k,m,s⟩) rfl rfl BZ.out rfl (fv_size _) (fv_one _) rfl rfl ?_)))
        go_ret;exact⟨rfl,BY.out⟩
       |false=>
        have HN2:=hid (HN.out (by unfold okM;simp only[e1,e2,e3,e4,e5,e6,e7];rfl));clear HN AN1
        go_wp2_with (first
 |(with_reducible refine at_op (.load 154 (.tmp 23)) rfl ?_;go_must (refine wpList_load_mid rfl 154 (.tmp 23) rfl b (o+j * 3) rfl (fv ⟨k,m,s⟩) _ RG.out Tryz.underlying154 rfl (fv_size _) ?_))
 |(with_reducible refine at_op (.store 154 (.tmp 6) (.tmp 24)) rfl ?_;go_must (refine store_blk 154 (.tmp 6) (.tmp 24) wr.heap.size 154 [.int .i64 0,.int .i64 0,.string { data:= #[] }] (fv ⟨k,m,s⟩) rfl rfl BZ.out rfl (fv_size _) (fv_one _) rfl rfl ?_)))
        exact⟨⟨j+1,hlt,by go_num,BY.out,HN2.out⟩,by simp[intOf];omega⟩
    ·obtain rfl:j=n:=by omega
     have hR:=AY.out HB.out;subst hR;clear hlt;go_wp2_with fail
     go_ret;exact⟨rfl,BX.out⟩
  ·rw[show fewN n=false by simp[fewN,h6]];have i1:(1:Int)≤(n:Int):=by omega
   have i6:(6:Int)< (n:Int):=by omega
   clear h1 h6 AY AN HR
   go_enter Tryz.func166,Tryz.ntmps166
   go_wp2_with fail
   go_ret;exact⟨rfl,Below.refl _ _⟩
 ·rw[show fewN n=false by simp[fewN];omega];obtain rfl:n=0:=by omega
  clear h1 AY AN HR
  go_enter Tryz.func166,Tryz.ntmps166
  go_wp2_with fail
  go_ret;exact⟨rfl,Below.refl _ _⟩
theorem refmayV_t (n c:Nat) (p:Option Addr) (G:Nat→Fld) (w:World) (hn:n≤9223372036854775807) (hr:Rw w p n G):
  Calls Tryz.prog 121 #[.slice p n c] w λe w'=>e= .returned (.bool (mayV n G))∧Below w.heap.size w w':=by
 have MT:=hid (reffields_t 2 n c p G w hn hr);rw[show(fewN n && allN (λj=>okM 2 (G j)) n)=mayV n G by unfold mayV;rw[allN_congr n (λj _=>okM_V (G j))]] at MT;clear hr
 go_enter Tryz.func121,Tryz.ntmps121
 go_wp2_with fail
 refine MT.out.mono ?_
 rintro e w2 ⟨rfl,b2⟩
 go_wp2_with fail
 go_ret;exact⟨rfl,b2⟩
theorem refmayP_t (n c:Nat) (p:Option Addr) (G:Nat→Fld) (w:World) (hn:n≤9223372036854775807) (hr:Rw w p n G):
  Calls Tryz.prog 123 #[.slice p n c] w λe w'=>e= .returned (.bool (mayP n G))∧Below w.heap.size w w':=by
 have MT:=hid (reffields_t 5 n c p G w hn hr);rw[show(fewN n && allN (λj=>okM 5 (G j)) n)=mayP n G by unfold mayP;rw[allN_congr n (λj _=>okM_P (G j))]] at MT;clear hr
 go_enter Tryz.func123,Tryz.ntmps123
 go_wp2_with fail
 refine MT.out.mono ?_
 rintro e w2 ⟨rfl,b2⟩
 go_wp2_with fail
 go_ret;exact⟨rfl,b2⟩
theorem neq_fld (a b:Fld) (w:World):(binOp .neq 154 (.agg (fv a).toArray) (.agg (fv b).toArray)).run Tryz.prog w= .ok (.bool (!sameF a b)) w:=by
 rw[run_neq_struct,eqIn_fld 9998 a b w];rfl
theorem refsame_t (n c m c2:Nat) (p q:Option Addr) (G H:Nat→Fld) (w:World) (hn:n≤9223372036854775807) (hm:m≤9223372036854775807) (hr:Rw w p n G) (hq:Rw w q m H):
  Calls Tryz.prog 71 #[.slice p n c,.slice q m c2] w λe w'=>e= .returned (.bool (sameN n G m H))∧Below w.heap.size w w':=by
 by_cases h:n=m
 ·subst h;rw[show sameN n G n H=allN (λj=>sameF (G j) (H j)) n by simp[sameN]];have HR:=hid hr;have HQ:=hid hq;have AY:=hid (λh=>(allN_iff (λj=>sameF (G j) (H j)) n).2 h);have AN:=hid (λj hj h=>allN_no (B:=λj=>sameF (G j) (H j)) (n:=n) (j:=j) hj h);obtain⟨r,hR⟩:∃ r,allN (λj=>sameF (G j) (H j)) n=r:=⟨_,rfl⟩;rw[hR] at AY AN ⊢;clear hR hr hq
  go_enter Tryz.func71,Tryz.ntmps71
  go_upto_region 4 with(fail)
  go_loopw [5] (λx wr=>∃ j:Nat,j≤n∧x= .int .i64 (j:Int)∧Below w.heap.size w wr∧∀ i,i<j→sameF (G i) (H i)=true) (λx _=>n- (intOf x).toNat)
  case atStart=>exact⟨0,by omega,rfl,Below.refl _ _,λi hi=>absurd hi (by omega)⟩
  case round=>
   obtain⟨j,hj,rfl,bx,hb⟩:=hrel;have HB:=hid hb;have BX:=hid bx;clear hb bx
   by_cases hlt:j<n
   ·obtain⟨b,o,rfl,rg⟩:=(HR.out.below (BX.out.trans ((Below.refl _ _).drew))).read hlt;obtain⟨b2,o2,rfl,rg2⟩:=(HQ.out.below (BX.out.trans ((Below.refl _ _).drew))).read hlt;have j1:(j:Int)< (n:Int):=by omega
    have NQ:=neq_fld (G j) (H j);have FG:=hid (fv_size (G j));have FH:=hid (fv_size (H j));have AN1:=hid (AN.out j hlt);have HN:=hid (λ(h:sameF (G j) (H j)=true) (i:Nat) (hi:i<j+1)=>show sameF (G i) (H i)=true by
     rcases Nat.lt_or_ge i j with h1 |h1
     ·exact HB.out i h1
     ·obtain rfl:i=j:=by omega
      exact h)
    obtain⟨sb,hsb⟩:∃ b,sameF (G j) (H j)=b:=⟨_,rfl⟩;rw[hsb] at NQ AN1 HN;clear hsb HB
    go_upto_region 6 with(fail)
    refine wp_region_held (S:=λX=>X.rangeAt b (o+j * 3) (fv (G j))∧X.rangeAt b2 (o2+j * 3) (fv (H j))) (by kernel_rfl) ?_;change wpAnyH _ _ _ _ _ _ _ _ wr.drew;have rr:wr.drew.rangeAt b (o+j * 3) (fv (G j))∧wr.drew.rangeAt b2 (o2+j * 3) (fv (H j)):=⟨rg,rg2⟩;refine tka9 0 rr ?_;refine tka9 1 rr ?_;refine tka9 2 rr ?_;refine tkg9 3 (v:= .agg (fv (G j)).toArray) (yieldsIf_load_mid (by kernel_rfl) 154 (.tmp 19) rfl b (o+j * 3) (by go_simp) (fv (G j)) _ (λ_ h=>h.1) Tryz.underlying154 rfl (FG.out)) rr ?_;refine tka9 4 rr ?_;refine tka9 5 rr ?_;refine tka9 6 rr ?_;refine tkg9 7 (v:= .agg (fv (H j)).toArray) (yieldsIf_load_mid (by kernel_rfl) 154 (.tmp 23) rfl b2 (o2+j * 3) (by go_simp) (fv (H j)) _ (λ_ h=>h.2) Tryz.underlying154 rfl (FH.out)) rr ?_;refine tka9 8 rr ?_;refine wpAnyH_done (by kernel_rfl) ?_ _;go_simp;have BY:=hid (BX.out.trans ((Below.refl wr.heap.size wr).drew.mono BX.out.size));clear rr rg rg2 NQ FG FH BX
    cases sb with
    |true=>
     have HN2:=hid (HN.out rfl);clear HN AN1;go_wp2_with fail
     exact⟨⟨j+1,hlt,by go_num,BY.out,HN2.out⟩,by simp[intOf];omega⟩
    |false=>
     have hR:=AN1.out rfl;subst hR;clear HN AN1;go_wp2_with fail
     go_ret;exact⟨rfl,BY.out⟩
   ·obtain rfl:j=n:=by omega
    have hR:=AY.out HB.out;subst hR;clear hlt;go_wp2_with fail
    go_ret;exact⟨rfl,BX.out⟩
 ·rw[show sameN n G m H=false by simp[sameN,h]];have e1:((n:Int) != (m:Int))=true:=by rw[bne_iff_ne];omega
  clear h hr hq
  go_enter Tryz.func71,Tryz.ntmps71
  go_wp2_with fail
  go_ret;exact⟨rfl,Below.refl _ _⟩
set_option maxHeartbeats 400000 in
theorem refmatch_t (n c m c2:Nat) (p q:Option Addr) (G H:Nat→Fld) (w:World) (hn:n≤9223372036854775807) (hm:m≤9223372036854775807) (hr:Rw w p n G) (hq:Rw w q m H):
  Calls Tryz.prog 127 #[.slice p n c,.slice q m c2] w λe w'=>e= .returned (.bool (matchN n G m H))∧Below w.heap.size w w':=by
 have HR:=hid hr;have HQ:=hid hq;have MP:=hid (refmayP_t n c p G w hn hr);have MV:=hid (λW (h:Below w.heap.size w W)=>refmayV_t m c2 q H W hm (hq.below h));have AY:=hid (λh=>(allN_iff (λj=>takesB (G j) (H j)) n).2 h);have AN:=hid (λj hj h=>allN_no (B:=λj=>takesB (G j) (H j)) (n:=n) (j:=j) hj h);obtain⟨r,hR⟩:∃ r,allN (λj=>takesB (G j) (H j)) n=r:=⟨_,rfl⟩;have hM:matchN n G m H=(mayP n G && (mayV m H && (decide (n=m) && r))):=by rw[←hR];rfl
 rw[hM];rw[hR] at AY AN;obtain⟨a,hA⟩:∃ r,mayP n G=r:=⟨_,rfl⟩;obtain⟨d,hB⟩:∃ r,mayV m H=r:=⟨_,rfl⟩;rw[hA] at MP ⊢;rw[hB] at MV ⊢;clear hR hM hA hB hr hq
 cases a with
 |false=>
  go_enter Tryz.func127,Tryz.ntmps127
  go_wp2_with fail
  refine MP.out.mono ?_
  rintro e w2 ⟨rfl,b2⟩
  go_wp2_with fail
  go_ret;exact⟨by simp,b2⟩
 |true=>
  go_enter Tryz.func127,Tryz.ntmps127
  go_wp2_with fail
  refine MP.out.mono ?_
  rintro e w2 ⟨rfl,b2⟩
  have B2:=hid b2;clear b2 MP;go_wp2_with fail
  refine(MV.out _ B2.out).mono ?_
  rintro e w3 ⟨rfl,b3⟩
  have B3:=hid (B2.out.trans (b3.mono B2.out.size));clear b3 B2 MV
  cases d with
  |false=>
   go_wp2_with fail
   go_ret;exact⟨by simp,B3.out⟩
  |true=>
   by_cases h:n=m
   ·subst h
    go_upto_region 4 with(fail)
    go_loopw [5,6] (λx _ wr=>∃ j:Nat,j≤n∧x= .int .i64 (j:Int)∧Below w.heap.size w wr∧∀ i,i<j→takesB (G i) (H i)=true) (λx _ _=>n- (intOf x).toNat)
    case atStart=>exact⟨0,by omega,rfl,B3.out,λi hi=>absurd hi (by omega)⟩
    case round=>
     clear B3;obtain⟨j,hj,rfl,bx,hb⟩:=hrel;have HB:=hid hb;have BX:=hid bx;clear hb bx
     by_cases hlt:j<n
     ·obtain⟨b,o,rfl,rg⟩:=(HR.out.below BX.out).read hlt;obtain⟨b2,o2,rfl,rg2⟩:=(HQ.out.below BX.out).read hlt;have ck:wr.cell? ⟨b,o+j * 3,none⟩=some (.int .i64 (G j).k):=rg 0 _ rfl;have ct:wr.cell? ⟨b2,o2+j * 3,none⟩=some (.int .i64 (H j).k):=rg2 0 _ rfl;have RG:=hid rg;have RH:=hid rg2;have j1:(j:Int)< (n:Int):=by omega
      have EQ:=eql_fld (G j) (H j);have FG:=hid (fv_size (G j));have FH:=hid (fv_size (H j));have AN1:=hid (AN.out j hlt);have HN:=hid (λ(h:takesB (G j) (H j)=true) (i:Nat) (hi:i<j+1)=>show takesB (G i) (H i)=true by
       rcases Nat.lt_or_ge i j with h1 |h1
       ·exact HB.out i h1
       ·obtain rfl:i=j:=by omega
        exact h)
      have hT:takesB (G j) (H j)=if (G j).k=3 then(H j).k == 1 else if (G j).k=4 then(H j).k == 2 else if (G j).k=5 then true else sameF (G j) (H j):=rfl
      rw[hT] at AN1 HN;obtain⟨k,hk⟩:∃ k,(G j).k=k:=⟨_,rfl⟩;obtain⟨k2,hk2⟩:∃ k,(H j).k=k:=⟨_,rfl⟩;obtain⟨sb,hsb⟩:∃ b,sameF (G j) (H j)=b:=⟨_,rfl⟩;rw[hsb] at EQ;rw[hk,hk2,hsb] at AN1 HN;rw[hk] at ck;rw[hk2] at ct;clear hT hk hk2 hsb HB rg rg2
      by_cases h3:k=3
      ·subst h3;rw[if_pos rfl] at AN1 HN;clear EQ
       cases eb:(k2 == 1) with
       |true=>
        have HN2:=hid (HN.out eb);clear HN AN1;go_wp2_with fail
        exact⟨⟨j+1,hlt,by go_num,BX.out,HN2.out⟩,by simp[intOf];omega⟩
       |false=>
        have hR:=AN1.out eb;subst hR;clear HN AN1;go_wp2_with fail
        go_ret;exact⟨rfl,BX.out⟩
      ·have e3:(k == 3)=false:=by rw[beq_eq_false_iff_ne];exact h3
       rw[if_neg h3] at AN1 HN
       by_cases h4:k=4
       ·subst h4;rw[if_pos rfl] at AN1 HN;clear EQ h3
        cases eb:(k2 == 2) with
        |true=>
         have HN2:=hid (HN.out eb);clear HN AN1;go_wp2_with fail
         exact⟨⟨j+1,hlt,by go_num,BX.out,HN2.out⟩,by simp[intOf];omega⟩
        |false=>
         have hR:=AN1.out eb;subst hR;clear HN AN1;go_wp2_with fail
         go_ret;exact⟨rfl,BX.out⟩
       ·have e4:(k == 4)=false:=by rw[beq_eq_false_iff_ne];exact h4
        rw[if_neg h4] at AN1 HN
        by_cases h5:k=5
        ·subst h5;rw[if_pos rfl] at AN1 HN;have HN2:=hid (HN.out rfl);clear EQ h3 h4 HN AN1;go_wp2_with fail
         exact⟨⟨j+1,hlt,by go_num,BX.out,HN2.out⟩,by simp[intOf];omega⟩
        ·have e5:(k == 5)=false:=by rw[beq_eq_false_iff_ne];exact h5
         rw[if_neg h5] at AN1 HN;clear h3 h4 h5
         go_upto_region 8 with(fail)
         refine wp_region_held (S:=λX=>X.rangeAt b (o+j * 3) (fv (G j))∧X.rangeAt b2 (o2+j * 3) (fv (H j))) (by kernel_rfl) ?_;change wpAnyH _ _ _ _ _ _ _ _ wr.drew;have rr:wr.drew.rangeAt b (o+j * 3) (fv (G j))∧wr.drew.rangeAt b2 (o2+j * 3) (fv (H j)):=⟨RG.out,RH.out⟩;refine tka9 0 rr ?_;refine tka9 1 rr ?_;refine tka9 2 rr ?_;refine tkg9 3 (v:= .agg (fv (G j)).toArray) (yieldsIf_load_mid (by kernel_rfl) 154 (.tmp 35) rfl b (o+j * 3) (by go_simp) (fv (G j)) _ (λ_ h=>h.1) Tryz.underlying154 rfl (FG.out)) rr ?_;refine tka9 4 rr ?_;refine tka9 5 rr ?_;refine tka9 6 rr ?_;refine tkg9 7 (v:= .agg (fv (H j)).toArray) (yieldsIf_load_mid (by kernel_rfl) 154 (.tmp 39) rfl b2 (o2+j * 3) (by go_simp) (fv (H j)) _ (λ_ h=>h.2) Tryz.underlying154 rfl (FH.out)) rr ?_;refine tka9 8 rr ?_;refine tka9 9 rr ?_;refine wpAnyH_done (by kernel_rfl) ?_ _;go_simp;have BY:=hid (BX.out.trans ((Below.refl wr.heap.size wr).drew.mono BX.out.size));clear rr EQ FG FH BX ck ct RG RH;have BX:=BY
         cases sb with
         |true=>
          have HN2:=hid (HN.out rfl);clear HN AN1;go_wp2_with fail
          exact⟨⟨j+1,hlt,by go_num,BX.out,HN2.out⟩,by simp[intOf];omega⟩
         |false=>
          have hR:=AN1.out rfl;subst hR;clear HN AN1;go_wp2_with fail
          go_ret;exact⟨rfl,BX.out⟩
     ·obtain rfl:j=n:=by omega
      have hR:=AY.out HB.out;subst hR;clear hlt;go_wp2_with fail
      go_ret;exact⟨by simp,BX.out⟩
   ·have e1:((n:Int) != (m:Int))=true:=by rw[bne_iff_ne];omega
    clear AY AN;go_wp2_with fail
    go_ret;exact⟨by simp[h],B3.out⟩
theorem refReads_t (k:Int) (w:World):Calls Tryz.prog 75 #[.int .i64 k] w λe w'=>e= .returned (.bool (rdK k))∧w=w':=by
 by_cases h:k=2∨k=3∨k=4∨k=5∨k=6∨k=7
 ·rcases h with rfl |rfl |rfl |rfl |rfl |rfl
  all_goals
   go_enter Tryz.func75,Tryz.ntmps75
   go_wp2
   go_ret;exact⟨rfl,rfl⟩
 ·have hr:rdK k=false:=by unfold rdK;simp;omega
  rw[hr];have e2:(k == 2)=false:=by rw[beq_eq_false_iff_ne];omega
  have e3:(k == 3)=false:=by rw[beq_eq_false_iff_ne];omega
  have e4:(k == 4)=false:=by rw[beq_eq_false_iff_ne];omega
  have e5:(k == 5)=false:=by rw[beq_eq_false_iff_ne];omega
  have e6:(k == 6)=false:=by rw[beq_eq_false_iff_ne];omega
  have e7:(k == 7)=false:=by rw[beq_eq_false_iff_ne];omega
  clear h hr
  go_enter Tryz.func75,Tryz.ntmps75
  go_wp2
  go_ret;exact⟨rfl,rfl⟩
theorem refWrites_t (k:Int) (w:World):Calls Tryz.prog 76 #[.int .i64 k] w λe w'=>e= .returned (.bool (wrK k))∧w=w':=by
 by_cases h:k=1∨k=3∨k=5∨k=6∨k=7
 ·rcases h with rfl |rfl |rfl |rfl |rfl
  all_goals
   go_enter Tryz.func76,Tryz.ntmps76
   go_wp2
   go_ret;exact⟨rfl,rfl⟩
 ·have hr:wrK k=false:=by unfold wrK;simp;omega
  rw[hr];have e2:(k == 1)=false:=by rw[beq_eq_false_iff_ne];omega
  have e3:(k == 3)=false:=by rw[beq_eq_false_iff_ne];omega
  have e5:(k == 5)=false:=by rw[beq_eq_false_iff_ne];omega
  have e6:(k == 6)=false:=by rw[beq_eq_false_iff_ne];omega
  have e7:(k == 7)=false:=by rw[beq_eq_false_iff_ne];omega
  clear h hr
  go_enter Tryz.func76,Tryz.ntmps76
  go_wp2
  go_ret;exact⟨rfl,rfl⟩
structure OM (w0 W:World) (x:Rv) (xs:List Value):Prop where
 box:Blk W w0.heap.size 54 xs
 rx:RvW W x
 bel:Below w0.heap.size w0 W
theorem OM.below {w0 W W':World} {x:Rv} {xs:List Value} (h:OM w0 W x xs) (hb:Below W.heap.size W W'):OM w0 W' x xs:=⟨h.box.below hb h.box.lt,h.rx.below hb,h.bel.trans (hb.mono h.bel.size)⟩
set_option maxHeartbeats 10000000 in
theorem refMay_r (x:Rv) (w:World) (h:RvW w x):Calls Tryz.prog 74 #[.agg (rv x).toArray] w λe w'=>e= .returned (.bool (mayR x.r))∧Below w.heap.size w w':=by
 have M0:=hid (show OM w (w.alloc (.cells (rv x).toArray 54)) x (rv x) from⟨Blk.new w _ _,h.below ((Below.refl _ _).alloc (Nat.le_refl _) _),(Below.refl _ _).alloc (Nat.le_refl _) _⟩);have RD:=hid (λW=>refReads_t x.r.kd W);have MP:=hid (λW (c:OM w W x (rv x))=>refmayP_t x.r.n x.c x.p x.r.G W h.n c.rx.p);have MV:=hid (λW (c:OM w W x (rv x))=>refmayV_t x.r.m x.d x.t x.r.H W h.m c.rx.t);have hf:mayR x.r=((decide (0≤x.r.cl) && decide (x.r.cl<4)) && ((decide (1≤x.r.sq) && decide (x.r.sq≤1073741824)) && isK x.r.kd) && (findB x.r && bringB x.r)):=rfl;have hff:findB x.r=if rdK x.r.kd then mayP x.r.n x.r.G else decide (x.r.n=0):=rfl
 have hbb:bringB x.r=if brK x.r.kd then mayV x.r.m x.r.H && (decide (0≤x.r.le) && decide (x.r.le≤1099511627776)) else decide (x.r.m=0) && (x.r.le == 0):=rfl
 obtain⟨c0,c1,c2,c3,c4,c5⟩:=rv_cells M0.out.box;obtain⟨xs,hxs⟩:∃ l,rv x=l:=⟨_,rfl⟩;rw[hxs] at M0 MP MV c0 c1 c2 c3 c4 c5 ⊢;obtain⟨mp,hmp⟩:∃ n,mayP x.r.n x.r.G=n:=⟨_,rfl⟩;obtain⟨mv,hmv⟩:∃ n,mayV x.r.m x.r.H=n:=⟨_,rfl⟩;obtain⟨fb,hfb⟩:∃ n,findB x.r=n:=⟨_,rfl⟩;obtain⟨bb,hb2⟩:∃ n,bringB x.r=n:=⟨_,rfl⟩;obtain⟨cl,hcl⟩:∃ n,x.r.cl=n:=⟨_,rfl⟩;obtain⟨sq,hsq⟩:∃ n,x.r.sq=n:=⟨_,rfl⟩;obtain⟨kd,hkd⟩:∃ n,x.r.kd=n:=⟨_,rfl⟩;obtain⟨le,hle⟩:∃ n,x.r.le=n:=⟨_,rfl⟩;obtain⟨n,hn⟩:∃ n,x.r.n=n:=⟨_,rfl⟩;obtain⟨m,hm⟩:∃ n,x.r.m=n:=⟨_,rfl⟩;rw[hmp] at MP hff;rw[hmv] at MV hbb;rw[hfb] at hf hff;rw[hb2] at hf hbb;rw[hcl] at c0 hf;rw[hsq] at c1 hf;rw[hkd] at c2 hf hff hbb RD;obtain⟨rb,hrb⟩:∃ n,rdK kd=n:=⟨_,rfl⟩;rw[hrb] at RD hff;rw[hle] at c5 hbb;rw[hn] at c3 MP hff;rw[hm] at c4 MV hbb;rw[hf];have FF:=hid hff;have C5:=hid c5;have C2:=hid c2;have C3:=hid c3;unfold isK;clear hrb h hf hff hxs hmp hmv hfb hb2 hcl hsq hkd hle hn hm c5
 by_cases h1:0≤cl
 ·rw[decide_eq_true h1,Bool.true_and]
  by_cases h2:cl<4
  ·rw[decide_eq_true h2,Bool.true_and]
   by_cases h3:1≤sq
   ·rw[decide_eq_true h3,Bool.true_and]
    by_cases h4:sq≤1073741824
    ·rw[decide_eq_true h4,Bool.true_and]
     by_cases k1:1≤kd
     ·rw[decide_eq_true k1,Bool.true_and]
      by_cases k8:kd≤8
      ·rw[decide_eq_true k8,Bool.true_and];have hk:kd=1∨kd=2∨kd=3∨kd=4∨kd=5∨kd=6∨kd=7∨kd=8:=by omega
       rcases hk with rfl |rfl |rfl |rfl |rfl |rfl |rfl |rfl
       ·skip
        have BF:=hid (show bb=_ from hbb.trans (if_pos (show brK 1=true from rfl)));clear hbb k1 k8
        cases mv with
        |false=>
         have BE:=hid (show bb=false from BF.out);clear BF;obtain rfl:=BE.out;rw[Bool.and_false]
         go_enter Tryz.func74,Tryz.ntmps74
         go_wp2_with fail
         refine(MV.out _ M0.out).mono ?_
         rintro e w2 ⟨rfl,b2⟩
         have M2:=hid (M0.out.below b2);clear b2;go_wp2_with fail
         go_ret;exact⟨rfl,M2.out.bel⟩
        |true=>
         by_cases l0:0≤le
         ·by_cases lm:le≤1099511627776
          ·have BE:=hid (show bb=true from BF.out.trans (by simp[l0,lm]));clear BF;obtain rfl:=BE.out;rw[Bool.and_true]
           go_enter Tryz.func74,Tryz.ntmps74
           go_wp2_with fail
           refine(MV.out _ M0.out).mono ?_
           rintro e w2 ⟨rfl,b2⟩
           have M2:=hid (M0.out.below b2);have c5:=(b2.cell (p:=⟨w.heap.size,5,none⟩) M0.out.box.lt).trans C5.out;have c2:=(b2.cell (p:=⟨w.heap.size,2,none⟩) M0.out.box.lt).trans C2.out;have c3:=(b2.cell (p:=⟨w.heap.size,3,none⟩) M0.out.box.lt).trans C3.out;clear b2 c0 c1
           cases rb with
           |true=>
            have FE:=hid (show fb=mp from FF.out);clear FF;go_wp2_with fail
            refine(RD.out _).mono ?_
            rintro e w3 ⟨rfl,rfl⟩
            go_wp2_with fail
            refine(MP.out _ M2.out).mono ?_
            rintro e w4 ⟨rfl,b4⟩
            have M4:=hid (M2.out.below b4);clear b4;go_wp2_with fail
            go_ret;exact⟨by have h:=FE.out;subst h;rfl,M4.out.bel⟩
           |false=>
            have FE:=hid (show fb=decide (n=0) from FF.out);clear FF;go_wp2_with fail
            refine(RD.out _).mono ?_
            rintro e w3 ⟨rfl,rfl⟩
            go_wp2_with fail
            go_ret;exact⟨by
             rw[FE.out]
             by_cases h0:n=0
             ·subst h0;rfl
             ·simp[h0],M2.out.bel⟩
          ·have BE:=hid (show bb=false from BF.out.trans (by simp;omega));clear BF;obtain rfl:=BE.out;rw[Bool.and_false];have lm2:1099511627776<le:=by omega
           go_enter Tryz.func74,Tryz.ntmps74
           go_wp2_with fail
           refine(MV.out _ M0.out).mono ?_
           rintro e w2 ⟨rfl,b2⟩
           have M2:=hid (M0.out.below b2);have c5:=(b2.cell (p:=⟨w.heap.size,5,none⟩) M0.out.box.lt).trans C5.out;clear b2;go_wp2_with fail
           go_ret;exact⟨rfl,M2.out.bel⟩
         ·have BE:=hid (show bb=false from BF.out.trans (by simp;omega));clear BF;obtain rfl:=BE.out;rw[Bool.and_false];have lm2:le<0:=by omega
          go_enter Tryz.func74,Tryz.ntmps74
          go_wp2_with fail
          refine(MV.out _ M0.out).mono ?_
          rintro e w2 ⟨rfl,b2⟩
          have M2:=hid (M0.out.below b2);have c5:=(b2.cell (p:=⟨w.heap.size,5,none⟩) M0.out.box.lt).trans C5.out;clear b2;go_wp2_with fail
          go_ret;exact⟨rfl,M2.out.bel⟩
       ·skip
        have BF:=hid (show bb=_ from hbb.trans (if_neg (show ¬ brK 2=true by decide)));clear hbb k1 k8 MV;have c5:=C5.out
        by_cases m0:m=0
        ·subst m0
         cases el:(le == 0) with
         |true=>
          have BE:=hid (show bb=true from BF.out.trans (by rw[el];rfl));have el2:(le != 0)=false:=by rw[bne,el];rfl
          clear BF;obtain rfl:=BE.out;rw[Bool.and_true]
          go_enter Tryz.func74,Tryz.ntmps74
          go_upto_region 6 with(fail)
          cases rb with
          |true=>
           have FE:=hid (show fb=mp from FF.out);clear FF;go_wp2_with fail
           refine(RD.out _).mono ?_
           rintro e w3 ⟨rfl,rfl⟩
           go_wp2_with fail
           refine(MP.out _ M0.out).mono ?_
           rintro e w4 ⟨rfl,b4⟩
           have M4:=hid (M0.out.below b4);clear b4;go_wp2_with fail
           go_ret;exact⟨by have h:=FE.out;subst h;rfl,M4.out.bel⟩
          |false=>
           have FE:=hid (show fb=decide (n=0) from FF.out);clear FF;go_wp2_with fail
           refine(RD.out _).mono ?_
           rintro e w3 ⟨rfl,rfl⟩
           go_wp2_with fail
           go_ret;exact⟨by
            rw[FE.out]
            by_cases h0:n=0
            ·subst h0;rfl
            ·simp[h0],M0.out.bel⟩
         |false=>
          have BE:=hid (show bb=false from BF.out.trans (by rw[el];rfl));have el2:(le != 0)=true:=by rw[bne,el];rfl
          clear BF;obtain rfl:=BE.out;rw[Bool.and_false]
          go_enter Tryz.func74,Tryz.ntmps74
          go_wp2_with fail
          go_ret;exact⟨rfl,M0.out.bel⟩
        ·have BE:=hid (show bb=false from BF.out.trans (by rw[decide_eq_false m0];rfl));have m1:(0:Int)< (m:Int):=by omega
         clear BF;obtain rfl:=BE.out;rw[Bool.and_false]
         go_enter Tryz.func74,Tryz.ntmps74
         go_wp2_with fail
         go_ret;exact⟨rfl,M0.out.bel⟩
       ·skip
        have BF:=hid (show bb=_ from hbb.trans (if_neg (show ¬ brK 3=true by decide)));clear hbb k1 k8 MV;have c5:=C5.out
        by_cases m0:m=0
        ·subst m0
         cases el:(le == 0) with
         |true=>
          have BE:=hid (show bb=true from BF.out.trans (by rw[el];rfl));have el2:(le != 0)=false:=by rw[bne,el];rfl
          clear BF;obtain rfl:=BE.out;rw[Bool.and_true]
          go_enter Tryz.func74,Tryz.ntmps74
          go_upto_region 6 with(fail)
          cases rb with
          |true=>
           have FE:=hid (show fb=mp from FF.out);clear FF;go_wp2_with fail
           refine(RD.out _).mono ?_
           rintro e w3 ⟨rfl,rfl⟩
           go_wp2_with fail
           refine(MP.out _ M0.out).mono ?_
           rintro e w4 ⟨rfl,b4⟩
           have M4:=hid (M0.out.below b4);clear b4;go_wp2_with fail
           go_ret;exact⟨by have h:=FE.out;subst h;rfl,M4.out.bel⟩
          |false=>
           have FE:=hid (show fb=decide (n=0) from FF.out);clear FF;go_wp2_with fail
           refine(RD.out _).mono ?_
           rintro e w3 ⟨rfl,rfl⟩
           go_wp2_with fail
           go_ret;exact⟨by
            rw[FE.out]
            by_cases h0:n=0
            ·subst h0;rfl
            ·simp[h0],M0.out.bel⟩
         |false=>
          have BE:=hid (show bb=false from BF.out.trans (by rw[el];rfl));have el2:(le != 0)=true:=by rw[bne,el];rfl
          clear BF;obtain rfl:=BE.out;rw[Bool.and_false]
          go_enter Tryz.func74,Tryz.ntmps74
          go_wp2_with fail
          go_ret;exact⟨rfl,M0.out.bel⟩
        ·have BE:=hid (show bb=false from BF.out.trans (by rw[decide_eq_false m0];rfl));have m1:(0:Int)< (m:Int):=by omega
         clear BF;obtain rfl:=BE.out;rw[Bool.and_false]
         go_enter Tryz.func74,Tryz.ntmps74
         go_wp2_with fail
         go_ret;exact⟨rfl,M0.out.bel⟩
       ·skip
        have BF:=hid (show bb=_ from hbb.trans (if_neg (show ¬ brK 4=true by decide)));clear hbb k1 k8 MV;have c5:=C5.out
        by_cases m0:m=0
        ·subst m0
         cases el:(le == 0) with
         |true=>
          have BE:=hid (show bb=true from BF.out.trans (by rw[el];rfl));have el2:(le != 0)=false:=by rw[bne,el];rfl
          clear BF;obtain rfl:=BE.out;rw[Bool.and_true]
          go_enter Tryz.func74,Tryz.ntmps74
          go_upto_region 6 with(fail)
          cases rb with
          |true=>
           have FE:=hid (show fb=mp from FF.out);clear FF;go_wp2_with fail
           refine(RD.out _).mono ?_
           rintro e w3 ⟨rfl,rfl⟩
           go_wp2_with fail
           refine(MP.out _ M0.out).mono ?_
           rintro e w4 ⟨rfl,b4⟩
           have M4:=hid (M0.out.below b4);clear b4;go_wp2_with fail
           go_ret;exact⟨by have h:=FE.out;subst h;rfl,M4.out.bel⟩
          |false=>
           have FE:=hid (show fb=decide (n=0) from FF.out);clear FF;go_wp2_with fail
           refine(RD.out _).mono ?_
           rintro e w3 ⟨rfl,rfl⟩
           go_wp2_with fail
           go_ret;exact⟨by
            rw[FE.out]
            by_cases h0:n=0
            ·subst h0;rfl
            ·simp[h0],M0.out.bel⟩
         |false=>
          have BE:=hid (show bb=false from BF.out.trans (by rw[el];rfl));have el2:(le != 0)=true:=by rw[bne,el];rfl
          clear BF;obtain rfl:=BE.out;rw[Bool.and_false]
          go_enter Tryz.func74,Tryz.ntmps74
          go_wp2_with fail
          go_ret;exact⟨rfl,M0.out.bel⟩
        ·have BE:=hid (show bb=false from BF.out.trans (by rw[decide_eq_false m0];rfl));have m1:(0:Int)< (m:Int):=by omega
         clear BF;obtain rfl:=BE.out;rw[Bool.and_false]
         go_enter Tryz.func74,Tryz.ntmps74
         go_wp2_with fail
         go_ret;exact⟨rfl,M0.out.bel⟩
       ·skip
        have BF:=hid (show bb=_ from hbb.trans (if_neg (show ¬ brK 5=true by decide)));clear hbb k1 k8 MV;have c5:=C5.out
        by_cases m0:m=0
        ·subst m0
         cases el:(le == 0) with
         |true=>
          have BE:=hid (show bb=true from BF.out.trans (by rw[el];rfl));have el2:(le != 0)=false:=by rw[bne,el];rfl
          clear BF;obtain rfl:=BE.out;rw[Bool.and_true]
          go_enter Tryz.func74,Tryz.ntmps74
          go_upto_region 6 with(fail)
          cases rb with
          |true=>
           have FE:=hid (show fb=mp from FF.out);clear FF;go_wp2_with fail
           refine(RD.out _).mono ?_
           rintro e w3 ⟨rfl,rfl⟩
           go_wp2_with fail
           refine(MP.out _ M0.out).mono ?_
           rintro e w4 ⟨rfl,b4⟩
           have M4:=hid (M0.out.below b4);clear b4;go_wp2_with fail
           go_ret;exact⟨by have h:=FE.out;subst h;rfl,M4.out.bel⟩
          |false=>
           have FE:=hid (show fb=decide (n=0) from FF.out);clear FF;go_wp2_with fail
           refine(RD.out _).mono ?_
           rintro e w3 ⟨rfl,rfl⟩
           go_wp2_with fail
           go_ret;exact⟨by
            rw[FE.out]
            by_cases h0:n=0
            ·subst h0;rfl
            ·simp[h0],M0.out.bel⟩
         |false=>
          have BE:=hid (show bb=false from BF.out.trans (by rw[el];rfl));have el2:(le != 0)=true:=by rw[bne,el];rfl
          clear BF;obtain rfl:=BE.out;rw[Bool.and_false]
          go_enter Tryz.func74,Tryz.ntmps74
          go_wp2_with fail
          go_ret;exact⟨rfl,M0.out.bel⟩
        ·have BE:=hid (show bb=false from BF.out.trans (by rw[decide_eq_false m0];rfl));have m1:(0:Int)< (m:Int):=by omega
         clear BF;obtain rfl:=BE.out;rw[Bool.and_false]
         go_enter Tryz.func74,Tryz.ntmps74
         go_wp2_with fail
         go_ret;exact⟨rfl,M0.out.bel⟩
       ·skip
        have BF:=hid (show bb=_ from hbb.trans (if_pos (show brK 6=true from rfl)));clear hbb k1 k8
        cases mv with
        |false=>
         have BE:=hid (show bb=false from BF.out);clear BF;obtain rfl:=BE.out;rw[Bool.and_false]
         go_enter Tryz.func74,Tryz.ntmps74
         go_wp2_with fail
         refine(MV.out _ M0.out).mono ?_
         rintro e w2 ⟨rfl,b2⟩
         have M2:=hid (M0.out.below b2);clear b2;go_wp2_with fail
         go_ret;exact⟨rfl,M2.out.bel⟩
        |true=>
         by_cases l0:0≤le
         ·by_cases lm:le≤1099511627776
          ·have BE:=hid (show bb=true from BF.out.trans (by simp[l0,lm]));clear BF;obtain rfl:=BE.out;rw[Bool.and_true]
           go_enter Tryz.func74,Tryz.ntmps74
           go_wp2_with fail
           refine(MV.out _ M0.out).mono ?_
           rintro e w2 ⟨rfl,b2⟩
           have M2:=hid (M0.out.below b2);have c5:=(b2.cell (p:=⟨w.heap.size,5,none⟩) M0.out.box.lt).trans C5.out;have c2:=(b2.cell (p:=⟨w.heap.size,2,none⟩) M0.out.box.lt).trans C2.out;have c3:=(b2.cell (p:=⟨w.heap.size,3,none⟩) M0.out.box.lt).trans C3.out;clear b2 c0 c1
           cases rb with
           |true=>
            have FE:=hid (show fb=mp from FF.out);clear FF;go_wp2_with fail
            refine(RD.out _).mono ?_
            rintro e w3 ⟨rfl,rfl⟩
            go_wp2_with fail
            refine(MP.out _ M2.out).mono ?_
            rintro e w4 ⟨rfl,b4⟩
            have M4:=hid (M2.out.below b4);clear b4;go_wp2_with fail
            go_ret;exact⟨by have h:=FE.out;subst h;rfl,M4.out.bel⟩
           |false=>
            have FE:=hid (show fb=decide (n=0) from FF.out);clear FF;go_wp2_with fail
            refine(RD.out _).mono ?_
            rintro e w3 ⟨rfl,rfl⟩
            go_wp2_with fail
            go_ret;exact⟨by
             rw[FE.out]
             by_cases h0:n=0
             ·subst h0;rfl
             ·simp[h0],M2.out.bel⟩
          ·have BE:=hid (show bb=false from BF.out.trans (by simp;omega));clear BF;obtain rfl:=BE.out;rw[Bool.and_false];have lm2:1099511627776<le:=by omega
           go_enter Tryz.func74,Tryz.ntmps74
           go_wp2_with fail
           refine(MV.out _ M0.out).mono ?_
           rintro e w2 ⟨rfl,b2⟩
           have M2:=hid (M0.out.below b2);have c5:=(b2.cell (p:=⟨w.heap.size,5,none⟩) M0.out.box.lt).trans C5.out;clear b2;go_wp2_with fail
           go_ret;exact⟨rfl,M2.out.bel⟩
         ·have BE:=hid (show bb=false from BF.out.trans (by simp;omega));clear BF;obtain rfl:=BE.out;rw[Bool.and_false];have lm2:le<0:=by omega
          go_enter Tryz.func74,Tryz.ntmps74
          go_wp2_with fail
          refine(MV.out _ M0.out).mono ?_
          rintro e w2 ⟨rfl,b2⟩
          have M2:=hid (M0.out.below b2);have c5:=(b2.cell (p:=⟨w.heap.size,5,none⟩) M0.out.box.lt).trans C5.out;clear b2;go_wp2_with fail
          go_ret;exact⟨rfl,M2.out.bel⟩
       ·skip
        have BF:=hid (show bb=_ from hbb.trans (if_pos (show brK 7=true from rfl)));clear hbb k1 k8
        cases mv with
        |false=>
         have BE:=hid (show bb=false from BF.out);clear BF;obtain rfl:=BE.out;rw[Bool.and_false]
         go_enter Tryz.func74,Tryz.ntmps74
         go_wp2_with fail
         refine(MV.out _ M0.out).mono ?_
         rintro e w2 ⟨rfl,b2⟩
         have M2:=hid (M0.out.below b2);clear b2;go_wp2_with fail
         go_ret;exact⟨rfl,M2.out.bel⟩
        |true=>
         by_cases l0:0≤le
         ·by_cases lm:le≤1099511627776
          ·have BE:=hid (show bb=true from BF.out.trans (by simp[l0,lm]));clear BF;obtain rfl:=BE.out;rw[Bool.and_true]
           go_enter Tryz.func74,Tryz.ntmps74
           go_wp2_with fail
           refine(MV.out _ M0.out).mono ?_
           rintro e w2 ⟨rfl,b2⟩
           have M2:=hid (M0.out.below b2);have c5:=(b2.cell (p:=⟨w.heap.size,5,none⟩) M0.out.box.lt).trans C5.out;have c2:=(b2.cell (p:=⟨w.heap.size,2,none⟩) M0.out.box.lt).trans C2.out;have c3:=(b2.cell (p:=⟨w.heap.size,3,none⟩) M0.out.box.lt).trans C3.out;clear b2 c0 c1
           cases rb with
           |true=>
            have FE:=hid (show fb=mp from FF.out);clear FF;go_wp2_with fail
            refine(RD.out _).mono ?_
            rintro e w3 ⟨rfl,rfl⟩
            go_wp2_with fail
            refine(MP.out _ M2.out).mono ?_
            rintro e w4 ⟨rfl,b4⟩
            have M4:=hid (M2.out.below b4);clear b4;go_wp2_with fail
            go_ret;exact⟨by have h:=FE.out;subst h;rfl,M4.out.bel⟩
           |false=>
            have FE:=hid (show fb=decide (n=0) from FF.out);clear FF;go_wp2_with fail
            refine(RD.out _).mono ?_
            rintro e w3 ⟨rfl,rfl⟩
            go_wp2_with fail
            go_ret;exact⟨by
             rw[FE.out]
             by_cases h0:n=0
             ·subst h0;rfl
             ·simp[h0],M2.out.bel⟩
          ·have BE:=hid (show bb=false from BF.out.trans (by simp;omega));clear BF;obtain rfl:=BE.out;rw[Bool.and_false];have lm2:1099511627776<le:=by omega
           go_enter Tryz.func74,Tryz.ntmps74
           go_wp2_with fail
           refine(MV.out _ M0.out).mono ?_
           rintro e w2 ⟨rfl,b2⟩
           have M2:=hid (M0.out.below b2);have c5:=(b2.cell (p:=⟨w.heap.size,5,none⟩) M0.out.box.lt).trans C5.out;clear b2;go_wp2_with fail
           go_ret;exact⟨rfl,M2.out.bel⟩
         ·have BE:=hid (show bb=false from BF.out.trans (by simp;omega));clear BF;obtain rfl:=BE.out;rw[Bool.and_false];have lm2:le<0:=by omega
          go_enter Tryz.func74,Tryz.ntmps74
          go_wp2_with fail
          refine(MV.out _ M0.out).mono ?_
          rintro e w2 ⟨rfl,b2⟩
          have M2:=hid (M0.out.below b2);have c5:=(b2.cell (p:=⟨w.heap.size,5,none⟩) M0.out.box.lt).trans C5.out;clear b2;go_wp2_with fail
          go_ret;exact⟨rfl,M2.out.bel⟩
       ·skip
        have BF:=hid (show bb=_ from hbb.trans (if_neg (show ¬ brK 8=true by decide)));clear hbb k1 k8 MV;have c5:=C5.out
        by_cases m0:m=0
        ·subst m0
         cases el:(le == 0) with
         |true=>
          have BE:=hid (show bb=true from BF.out.trans (by rw[el];rfl));have el2:(le != 0)=false:=by rw[bne,el];rfl
          clear BF;obtain rfl:=BE.out;rw[Bool.and_true]
          go_enter Tryz.func74,Tryz.ntmps74
          go_upto_region 6 with(fail)
          cases rb with
          |true=>
           have FE:=hid (show fb=mp from FF.out);clear FF;go_wp2_with fail
           refine(RD.out _).mono ?_
           rintro e w3 ⟨rfl,rfl⟩
           go_wp2_with fail
           refine(MP.out _ M0.out).mono ?_
           rintro e w4 ⟨rfl,b4⟩
           have M4:=hid (M0.out.below b4);clear b4;go_wp2_with fail
           go_ret;exact⟨by have h:=FE.out;subst h;rfl,M4.out.bel⟩
          |false=>
           have FE:=hid (show fb=decide (n=0) from FF.out);clear FF;go_wp2_with fail
           refine(RD.out _).mono ?_
           rintro e w3 ⟨rfl,rfl⟩
           go_wp2_with fail
           go_ret;exact⟨by
            rw[FE.out]
            by_cases h0:n=0
            ·subst h0;rfl
            ·simp[h0],M0.out.bel⟩
         |false=>
          have BE:=hid (show bb=false from BF.out.trans (by rw[el];rfl));have el2:(le != 0)=true:=by rw[bne,el];rfl
          clear BF;obtain rfl:=BE.out;rw[Bool.and_false]
          go_enter Tryz.func74,Tryz.ntmps74
          go_wp2_with fail
          go_ret;exact⟨rfl,M0.out.bel⟩
        ·have BE:=hid (show bb=false from BF.out.trans (by rw[decide_eq_false m0];rfl));have m1:(0:Int)< (m:Int):=by omega
         clear BF;obtain rfl:=BE.out;rw[Bool.and_false]
         go_enter Tryz.func74,Tryz.ntmps74
         go_wp2_with fail
         go_ret;exact⟨rfl,M0.out.bel⟩
      ·rw[decide_eq_false k8,Bool.false_and];have n4:8<kd:=by omega
       go_enter Tryz.func74,Tryz.ntmps74
       go_wp2_with fail
       go_ret;exact⟨rfl,M0.out.bel⟩
     ·rw[decide_eq_false k1,Bool.false_and,Bool.false_and];have n4:kd<1:=by omega
      go_enter Tryz.func74,Tryz.ntmps74
      go_wp2_with fail
      go_ret;exact⟨rfl,M0.out.bel⟩
    ·rw[decide_eq_false h4,Bool.false_and,Bool.false_and];have n4:1073741824<sq:=by omega
     go_enter Tryz.func74,Tryz.ntmps74
     go_wp2_with fail
     go_ret;exact⟨rfl,M0.out.bel⟩
   ·rw[decide_eq_false h3,Bool.false_and,Bool.false_and,Bool.false_and];have n3:sq<1:=by omega
    go_enter Tryz.func74,Tryz.ntmps74
    go_wp2_with fail
    go_ret;exact⟨rfl,M0.out.bel⟩
  ·rw[decide_eq_false h2,Bool.false_and,Bool.false_and];have n2:4≤cl:=by omega
   go_enter Tryz.func74,Tryz.ntmps74
   go_wp2_with fail
   go_ret;exact⟨rfl,M0.out.bel⟩
 ·rw[decide_eq_false h1,Bool.false_and,Bool.false_and,Bool.false_and];have n1:cl<0:=by omega
  go_enter Tryz.func74,Tryz.ntmps74
  go_wp2_with fail
  go_ret;exact⟨rfl,M0.out.bel⟩
end Go.Proofs.YtlipjglehongeaaGreatDoor
