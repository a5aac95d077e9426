/-
  THE REFERENCE of chapters 6 and 7, as layer 8 wants it
  The reference's Num and Text
-/
import Derived.Test.YtjlophplcmidlaaGreatDoorAd9
import Derived.Test.YtjlophplcmidlaaGreatDoorAd2
open Go.Lib (hid)
set_option maxRecDepth 100000
namespace Go.Proofs.YtjlophplcmidlaaGreatDoor
open Go Go.RowKit Sh
def okM (most:Int) (f:Fld):Bool:= !(decide (f.k<1) || decide (most<f.k) || (f.k != 1 && f.n != 0) || (f.k != 2 && !f.s.toList.isEmpty) || decide (40< (f.s.size:Int)))
theorem size_empty {s:ByteArray} (h:s.toList.isEmpty=true):s.size=0:=by rw[eS_of s h];rfl
theorem okM_V (f:Fld):okM 2 f=okV f:=by
 obtain⟨k,n,s⟩:=f;unfold okM okV
 cases he:s.toList.isEmpty with
 |true=>
  have hs:=size_empty he;rw[Bool.eq_iff_iff];simp[hs];omega
 |false=>
  rw[Bool.eq_iff_iff];simp;omega
theorem okM_P (f:Fld):okM 5 f=okP f:=by
 obtain⟨k,n,s⟩:=f;unfold okM okP okV
 cases he:s.toList.isEmpty with
 |true=>
  have hs:=size_empty he;rw[Bool.eq_iff_iff];simp[hs]
  by_cases h3:k=3∨k=4∨k=5
  ·rw[if_pos h3];omega
  ·rw[if_neg h3];omega
 |false=>
  rw[Bool.eq_iff_iff];simp;omega
set_option maxHeartbeats 1000000 in
theorem reffields_t (most:Int) (n c:Nat) (p:Option Addr) (G:Nat→Fld) (w:World) (hn:n≤9223372036854775807) (hr:Rw w p n G):
  Calls Tryz.prog 145 #[.slice p n c,.int .i64 most] w λe w'=>e= .returned (.bool (fewN n && allN (λj=>okM most (G j)) n))∧Below w.heap.size w w':=by
 have HR:=hid hr;have AY:=hid (λh=>(allN_iff (λj=>okM most (G j)) n).2 h);have AN:=hid (λj hj h=>allN_no (B:=λj=>okM most (G j)) (n:=n) (j:=j) hj h);obtain⟨r,hR⟩:∃ r,allN (λj=>okM most (G j)) n=r:=⟨_,rfl⟩;rw[hR] at AY AN ⊢;clear hR hr
 by_cases h1:1≤n
 ·by_cases h6:n≤6
  ·rw[show fewN n=true by simp[fewN,h1,h6],Bool.true_and];have i1:(1:Int)≤(n:Int):=by omega
   have i6:(n:Int)≤6:=by omega
   clear h1 h6
   go_enter Tryz.func145,Tryz.ntmps145
   go_upto_region 4 with(fail)
   go_loopw [5] (λx wr=>∃ j:Nat,j≤n∧x= .int .i64 (j:Int)∧Below w.heap.size w wr∧∀ i,i<j→okM most (G i)=true) (λx _=>n- (intOf x).toNat)
   case atStart=>exact⟨0,by omega,rfl,Below.refl _ _,λi hi=>absurd hi (by omega)⟩
   case round=>
    obtain⟨j,hj,rfl,bx,hb⟩:=hrel;have HB:=hid hb;have BX:=hid bx;clear hb bx
    by_cases hlt:j<n
    ·obtain⟨b,o,rfl,rg⟩:=(HR.out.below BX.out).read hlt;have j1:(j:Int)< (n:Int):=by omega
     have AN1:=hid (AN.out j hlt);have HN:=hid (λ(h:okM most (G j)=true) (i:Nat) (hi:i<j+1)=>show okM most (G i)=true by
      rcases Nat.lt_or_ge i j with h1 |h1
      ·exact HB.out i h1
      ·obtain rfl:i=j:=by omega
       exact h)
     obtain⟨f,hf⟩:∃ f,G j=f:=⟨_,rfl⟩;rw[hf] at rg AN1 HN;obtain⟨k,m,s⟩:=f;have RG:=hid rg;have BZ:=hid (Blk.new wr 190 [.int .i64 0,.int .i64 0,.string { data:= #[] }]);have b1:=BZ.out.setRow (fv ⟨k,m,s⟩);obtain⟨c0,c1,c2⟩:=fv_cells b1;have BY:=hid (below_setRow (BX.out.alloc BX.out.size (.cells #[.int .i64 0,.int .i64 0,.string { data:= #[] }] 190)) BX.out.size (fv ⟨k,m,s⟩).toArray);clear rg hf HB b1
     cases e1:decide (k<1) with
     |true=>
      have hR:=AN1.out (by unfold okM;simp only[e1];rfl);subst hR;clear AN1 HN BX
      go_wp2_with (first
 |(with_reducible refine at_op (.load 190 (.tmp 23)) rfl ?_;go_must (refine wpList_load_mid rfl 190 (.tmp 23) rfl b (o+j * 3) rfl (fv ⟨k,m,s⟩) _ RG.out Tryz.underlying190 rfl (fv_size _) ?_))
 |(with_reducible refine at_op (.store 190 (.tmp 6) (.tmp 24)) rfl ?_;go_must (refine store_blk 190 (.tmp 6) (.tmp 24) wr.heap.size 190 [.int .i64 0,.int .i64 0,.string { data:= #[] }] (fv ⟨k,m,s⟩) rfl rfl BZ.out rfl (fv_size _) (fv_one _) rfl rfl ?_)))
      go_ret;exact⟨rfl,BY.out⟩
     |false=>
     cases e2:decide (most<k) with
     |true=>
      have hR:=AN1.out (by unfold okM;simp only[e1,e2];rfl);subst hR;clear AN1 HN BX
      go_wp2_with (first
 |(with_reducible refine at_op (.load 190 (.tmp 23)) rfl ?_;go_must (refine wpList_load_mid rfl 190 (.tmp 23) rfl b (o+j * 3) rfl (fv ⟨k,m,s⟩) _ RG.out Tryz.underlying190 rfl (fv_size _) ?_))
 |(with_reducible refine at_op (.store 190 (.tmp 6) (.tmp 24)) rfl ?_;go_must (refine store_blk 190 (.tmp 6) (.tmp 24) wr.heap.size 190 [.int .i64 0,.int .i64 0,.string { data:= #[] }] (fv ⟨k,m,s⟩) rfl rfl BZ.out rfl (fv_size _) (fv_one _) rfl rfl ?_)))
      go_ret;exact⟨rfl,BY.out⟩
     |false=>
     cases e3:(k != 1) with
     |false=>
      cases e5:(k != 2) with
      |false=>
       cases e7:decide (40< (s.size:Int)) with
       |true=>
        have hR:=AN1.out (by unfold okM;simp only[e1,e2,e3,e5,e7];rfl);subst hR;clear AN1 HN BX
        go_wp2_with (first
 |(with_reducible refine at_op (.load 190 (.tmp 23)) rfl ?_;go_must (refine wpList_load_mid rfl 190 (.tmp 23) rfl b (o+j * 3) rfl (fv ⟨k,m,s⟩) _ RG.out Tryz.underlying190 rfl (fv_size _) ?_))
 |(with_reducible refine at_op (.store 190 (.tmp 6) (.tmp 24)) rfl ?_;go_must (refine store_blk 190 (.tmp 6) (.tmp 24) wr.heap.size 190 [.int .i64 0,.int .i64 0,.string { data:= #[] }] (fv ⟨k,m,s⟩) rfl rfl BZ.out rfl (fv_size _) (fv_one _) rfl rfl ?_)))
        go_ret;exact⟨rfl,BY.out⟩
       |false=>
        have HN2:=hid (HN.out (by unfold okM;simp only[e1,e2,e3,e5,e7];rfl));clear HN AN1
        go_wp2_with (first
 |(with_reducible refine at_op (.load 190 (.tmp 23)) rfl ?_;go_must (refine wpList_load_mid rfl 190 (.tmp 23) rfl b (o+j * 3) rfl (fv ⟨k,m,s⟩) _ RG.out Tryz.underlying190 rfl (fv_size _) ?_))
 |(with_reducible refine at_op (.store 190 (.tmp 6) (.tmp 24)) rfl ?_;go_must (refine store_blk 190 (.tmp 6) (.tmp 24) wr.heap.size 190 [.int .i64 0,.int .i64 0,.string { data:= #[] }] (fv ⟨k,m,s⟩) rfl rfl BZ.out rfl (fv_size _) (fv_one _) rfl rfl ?_)))
        exact⟨⟨j+1,hlt,by go_num,BY.out,HN2.out⟩,by simp[intOf];omega⟩
      |true=>
      cases e6:s.toList.isEmpty with
      |false=>
       have hR:=AN1.out (by unfold okM;simp only[e1,e2,e3,e5,e6];rfl);subst hR;clear AN1 HN BX
       go_wp2_with (first
 |(with_reducible refine at_op (.load 190 (.tmp 23)) rfl ?_;go_must (refine wpList_load_mid rfl 190 (.tmp 23) rfl b (o+j * 3) rfl (fv ⟨k,m,s⟩) _ RG.out Tryz.underlying190 rfl (fv_size _) ?_))
 |(with_reducible refine at_op (.store 190 (.tmp 6) (.tmp 24)) rfl ?_;go_must (refine store_blk 190 (.tmp 6) (.tmp 24) wr.heap.size 190 [.int .i64 0,.int .i64 0,.string { data:= #[] }] (fv ⟨k,m,s⟩) rfl rfl BZ.out rfl (fv_size _) (fv_one _) rfl rfl ?_)))
       go_ret;exact⟨rfl,BY.out⟩
      |true=>
       cases e7:decide (40< (s.size:Int)) with
       |true=>
        have hR:=AN1.out (by unfold okM;simp only[e1,e2,e3,e5,e6,e7];rfl);subst hR;clear AN1 HN BX
        go_wp2_with (first
 |(with_reducible refine at_op (.load 190 (.tmp 23)) rfl ?_;go_must (refine wpList_load_mid rfl 190 (.tmp 23) rfl b (o+j * 3) rfl (fv ⟨k,m,s⟩) _ RG.out Tryz.underlying190 rfl (fv_size _) ?_))
 |(with_reducible refine at_op (.store 190 (.tmp 6) (.tmp 24)) rfl ?_;go_must (refine store_blk 190 (.tmp 6) (.tmp 24) wr.heap.size 190 [.int .i64 0,.int .i64 0,.string { data:= #[] }] (fv ⟨k,m,s⟩) rfl rfl BZ.out rfl (fv_size _) (fv_one _) rfl rfl ?_)))
        go_ret;exact⟨rfl,BY.out⟩
       |false=>
        have HN2:=hid (HN.out (by unfold okM;simp only[e1,e2,e3,e5,e6,e7];rfl));clear HN AN1
        go_wp2_with (first
 |(with_reducible refine at_op (.load 190 (.tmp 23)) rfl ?_;go_must (refine wpList_load_mid rfl 190 (.tmp 23) rfl b (o+j * 3) rfl (fv ⟨k,m,s⟩) _ RG.out Tryz.underlying190 rfl (fv_size _) ?_))
 |(with_reducible refine at_op (.store 190 (.tmp 6) (.tmp 24)) rfl ?_;go_must (refine store_blk 190 (.tmp 6) (.tmp 24) wr.heap.size 190 [.int .i64 0,.int .i64 0,.string { data:= #[] }] (fv ⟨k,m,s⟩) rfl rfl BZ.out rfl (fv_size _) (fv_one _) rfl rfl ?_)))
        exact⟨⟨j+1,hlt,by go_num,BY.out,HN2.out⟩,by simp[intOf];omega⟩
     |true=>
     cases e4:(m != 0) with
     |true=>
      have hR:=AN1.out (by unfold okM;simp only[e1,e2,e3,e4];rfl);subst hR;clear AN1 HN BX
      go_wp2_with (first
 |(with_reducible refine at_op (.load 190 (.tmp 23)) rfl ?_;go_must (refine wpList_load_mid rfl 190 (.tmp 23) rfl b (o+j * 3) rfl (fv ⟨k,m,s⟩) _ RG.out Tryz.underlying190 rfl (fv_size _) ?_))
 |(with_reducible refine at_op (.store 190 (.tmp 6) (.tmp 24)) rfl ?_;go_must (refine store_blk 190 (.tmp 6) (.tmp 24) wr.heap.size 190 [.int .i64 0,.int .i64 0,.string { data:= #[] }] (fv ⟨k,m,s⟩) rfl rfl BZ.out rfl (fv_size _) (fv_one _) rfl rfl ?_)))
      go_ret;exact⟨rfl,BY.out⟩
     |false=>
      cases e5:(k != 2) with
      |false=>
       cases e7:decide (40< (s.size:Int)) with
       |true=>
        have hR:=AN1.out (by unfold okM;simp only[e1,e2,e3,e4,e5,e7];rfl);subst hR;clear AN1 HN BX
        go_wp2_with (first
 |(with_reducible refine at_op (.load 190 (.tmp 23)) rfl ?_;go_must (refine wpList_load_mid rfl 190 (.tmp 23) rfl b (o+j * 3) rfl (fv ⟨k,m,s⟩) _ RG.out Tryz.underlying190 rfl (fv_size _) ?_))
 |(with_reducible refine at_op (.store 190 (.tmp 6) (.tmp 24)) rfl ?_;go_must (refine store_blk 190 (.tmp 6) (.tmp 24) wr.heap.size 190 [.int .i64 0,.int .i64 0,.string { data:= #[] }] (fv ⟨k,m,s⟩) rfl rfl BZ.out rfl (fv_size _) (fv_one _) rfl rfl ?_)))
        go_ret;exact⟨rfl,BY.out⟩
       |false=>
        have HN2:=hid (HN.out (by unfold okM;simp only[e1,e2,e3,e4,e5,e7];rfl));clear HN AN1
        go_wp2_with (first
 |(with_reducible refine at_op (.load 190 (.tmp 23)) rfl ?_;go_must (refine wpList_load_mid rfl 190 (.tmp 23) rfl b (o+j * 3) rfl (fv ⟨k,m,s⟩) _ RG.out Tryz.underlying190 rfl (fv_size _) ?_))
 |(with_reducible refine at_op (.store 190 (.tmp 6) (.tmp 24)) rfl ?_;go_must (refine store_blk 190 (.tmp 6) (.tmp 24) wr.heap.size 190 [.int .i64 0,.int .i64 0,.string { data:= #[] }] (fv ⟨k,m,s⟩) rfl rfl BZ.out rfl (fv_size _) (fv_one _) rfl rfl ?_)))
        exact⟨⟨j+1,hlt,by go_num,BY.out,HN2.out⟩,by simp[intOf];omega⟩
      |true=>
      cases e6:s.toList.isEmpty with
      |false=>
       have hR:=AN1.out (by unfold okM;simp only[e1,e2,e3,e4,e5,e6];rfl);subst hR;clear AN1 HN BX
       go_wp2_with (first
 |(with_reducible refine at_op (.load 190 (.tmp 23)) rfl ?_;go_must (refine wpList_load_mid rfl 190 (.tmp 23) rfl b (o+j * 3) rfl (fv ⟨k,m,s⟩) _ RG.out Tryz.underlying190 rfl (fv_size _) ?_))
 |(with_reducible refine at_op (.store 190 (.tmp 6) (.tmp 24)) rfl ?_;go_must (refine store_blk 190 (.tmp 6) (.tmp 24) wr.heap.size 190 [.int .i64 0,.int .i64 0,.string { data:= #[] }] (fv ⟨k,m,s⟩) rfl rfl BZ.out rfl (fv_size _) (fv_one _) rfl rfl ?_)))
       go_ret;exact⟨rfl,BY.out⟩
      |true=>
       cases e7:decide (40< (s.size:Int)) with
       |true=>
        have hR:=AN1.out (by unfold okM;simp only[e1,e2,e3,e4,e5,e6,e7];rfl);subst hR;clear AN1 HN BX
        go_wp2_with (first
 |(with_reducible refine at_op (.load 190 (.tmp 23)) rfl ?_;go_must (refine wpList_load_mid rfl 190 (.tmp 23) rfl b (o+j * 3) rfl (fv ⟨k,m,s⟩) _ RG.out Tryz.underlying190 rfl (fv_size _) ?_))
 |(with_reducible refine at_op (.store 190 (.tmp 6) (.tmp 24)) rfl ?_;go_must (refine store_blk 190 (.tmp 6) (.tmp 24) wr.heap.size 190 [.int .i64 0,.int .i64 0,.string { data:= #[] }] (fv ⟨k,m,s⟩) rfl rfl BZ.out rfl (fv_size _) (fv_one _) rfl rfl ?_)))
        go_ret;exact⟨rfl,BY.out⟩
       |false=>
        have HN2:=hid (HN.out (by unfold okM;simp only[e1,e2,e3,e4,e5,e6,e7];rfl));clear HN AN1
        go_wp2_with (first
 |(with_reducible refine at_op (.load 190 (.tmp 23)) rfl ?_;go_must (refine wpList_load_mid rfl 190 (.tmp 23) rfl b (o+j * 3) rfl (fv ⟨k,m,s⟩) _ RG.out Tryz.underlying190 rfl (fv_size _) ?_))
 |(with_reducible refine at_op (.store 190 (.tmp 6) (.tmp 24)) rfl ?_;go_must (refine store_blk 190 (.tmp 6) (.tmp 24) wr.heap.size 190 [.int .i64 0,.int .i64 0,.string { data:= #[] }] (fv ⟨k,m,s⟩) rfl rfl BZ.out rfl (fv_size _) (fv_one _) rfl rfl ?_)))
        exact⟨⟨j+1,hlt,by go_num,BY.out,HN2.out⟩,by simp[intOf];omega⟩
    ·obtain rfl:j=n:=by omega
     have hR:=AY.out HB.out;subst hR;clear hlt;go_wp2_with fail
     go_ret;exact⟨rfl,BX.out⟩
  ·rw[show fewN n=false by simp[fewN,h6]];have i1:(1:Int)≤(n:Int):=by omega
   have i6:(6:Int)< (n:Int):=by omega
   clear h1 h6 AY AN HR
   go_enter Tryz.func145,Tryz.ntmps145
   go_wp2_with fail
   go_ret;exact⟨rfl,Below.refl _ _⟩
 ·rw[show fewN n=false by simp[fewN];omega];obtain rfl:n=0:=by omega
  clear h1 AY AN HR
  go_enter Tryz.func145,Tryz.ntmps145
  go_wp2_with fail
  go_ret;exact⟨rfl,Below.refl _ _⟩
theorem refmayV_t (n c:Nat) (p:Option Addr) (G:Nat→Fld) (w:World) (hn:n≤9223372036854775807) (hr:Rw w p n G):
  Calls Tryz.prog 127 #[.slice p n c] w λe w'=>e= .returned (.bool (mayV n G))∧Below w.heap.size w w':=by
 have MT:=hid (reffields_t 2 n c p G w hn hr);rw[show(fewN n && allN (λj=>okM 2 (G j)) n)=mayV n G by unfold mayV;rw[allN_congr n (λj _=>okM_V (G j))]] at MT;clear hr
 go_enter Tryz.func127,Tryz.ntmps127
 go_wp2_with fail
 refine MT.out.mono ?_
 rintro e w2 ⟨rfl,b2⟩
 go_wp2_with fail
 go_ret;exact⟨rfl,b2⟩
theorem refmayP_t (n c:Nat) (p:Option Addr) (G:Nat→Fld) (w:World) (hn:n≤9223372036854775807) (hr:Rw w p n G):
  Calls Tryz.prog 129 #[.slice p n c] w λe w'=>e= .returned (.bool (mayP n G))∧Below w.heap.size w w':=by
 have MT:=hid (reffields_t 5 n c p G w hn hr);rw[show(fewN n && allN (λj=>okM 5 (G j)) n)=mayP n G by unfold mayP;rw[allN_congr n (λj _=>okM_P (G j))]] at MT;clear hr
 go_enter Tryz.func129,Tryz.ntmps129
 go_wp2_with fail
 refine MT.out.mono ?_
 rintro e w2 ⟨rfl,b2⟩
 go_wp2_with fail
 go_ret;exact⟨rfl,b2⟩
set_option maxHeartbeats 400000 in
theorem refnum_t (v n:Nat) (w:World) (h1:1≤n) (h2:n≤8):
  Calls Tryz.prog 34 #[.int .u64 v,.int .i64 n] w λe w'=>∃ u,e= .returned u∧Fresh 5 w w' u (beN v n):=by
 have i1:(1:Int)≤(n:Int):=by omega
 have i2:(n:Int)≤8:=by omega
 go_enter Tryz.func34,Tryz.ntmps34
 go_wp2_with fail
 go_loopw [5,6] (λo i wr=>∃ k:Nat,k≤n∧i= .int .i64 ((n:Int) -1- (k:Int))∧wr.ownsRow w.heap.size 5 1 o k (u8s ((beN v n).take k))∧Below w.heap.size w wr) (λ_ i _=>(intOf i+1).toNat)
 case atStart=>exact⟨0,by omega,by simp,nil_own _ _,Below.refl _ _⟩
 case round=>
  obtain⟨k,hk,rfl,ho,hb⟩:=hrel
  by_cases hlt:k<n
  ·have b0:(0:Int)≤(n:Int) -1- (k:Int):=by omega
   have b1:(n:Int) -1- (k:Int)≤7:=by omega
   have HO:=hid ho;have HB:=hid hb;clear ho hb;have BA:=hid ((Below.refl wr.heap.size wr).alloc (Nat.le_refl _) (.cells #[.int .u8 ((v:Int) / 2 ^ (8 * (n-1-k)) % 256)] 5))
   go_wp2_with ((with_reducible refine at_op (.call { callee:= .builtin .append,args:= #[.tmp 20,.tmp 27],argTypes:= #[25,25] }) rfl ?_);refine append_bytes (.tmp 20) (.tmp 27) 25 rfl rfl 5 Tryz.underlying25 byte_info w.heap.size _ k _ [v / 2 ^ (8 * (n-1-k)) % 256] rfl (own_below HO.out BA.out) (some ⟨wr.heap.size,0,none⟩) 1 1 rfl rfl (Sr.one _ _ (shr_byte v _) wr _ _) (by omega) (by have:=HB.out.size;simp;omega) ?_;intro v2 w2 a1 a2 a3)
   go_roundw
   case rel=>
    have o2:=a1.out;rw[←beN_take v n k hlt] at o2;refine⟨k+1,by omega,?_,o2,?_⟩
    ·refine congrArg (Value.int .i64) ?_;omega
    ·exact(HB.out.alloc HB.out.size _).grown a2.out (Nat.le_trans HB.out.size (by simp)) λi e=>(HO.out.lt i e).1
   case measure=>simp[intOf];omega
  ·obtain rfl:k=n:=by omega
   have HO:=hid ho;have HB:=hid hb;clear ho hb
   go_wp2
   go_ret;refine⟨_,rfl,?_,HB.out⟩;have o2:=HO.out;rw[List.take_of_length_le (by rw[beN_length];exact Nat.le_refl _)] at o2;rw[beN_length];exact o2
theorem reftext_t (xs:List Nat) (p:Option Addr) (n c:Nat) (w:World) (hn:xs.length=n) (hp:Sr w p xs) (hl:4+n≤70368744177664):
  Calls Tryz.prog 67 #[.slice p n c] w λe w'=>∃ u,e= .returned u∧Fresh 5 w w' u (txtN xs):=by
 subst hn;have i1:(xs.length:Int)≤70368744177664:=by omega
 have HP:=hid hp;have HL:=hid hl;clear hp hl
 go_enter Tryz.func67,Tryz.ntmps67
 go_wp2_with fail
 refine(refnum_t xs.length 4 w (by omega) (by omega)).mono ?_
 rintro e w1 ⟨u,rfl,o1,b1⟩
 have O1:=hid o1;have B1:=hid b1;clear o1 b1
 go_wp2_with ((with_reducible refine at_op (.call { callee:= .builtin .append,args:= #[.tmp 6,.tmp 7],argTypes:= #[25,25] }) rfl ?_);refine append_bytes (.tmp 6) (.tmp 7) 25 rfl rfl 5 Tryz.underlying25 byte_info w.heap.size u _ _ xs rfl O1.out p xs.length c rfl rfl (HP.out.below B1.out) (by rw[beN_length];have:=HL.out;omega) B1.out.size ?_;intro v2 w2 a1 a2 a3)
 go_ret;refine⟨v2,rfl,?_,B1.out.grown a2.out B1.out.size λi e=>(O1.out.lt i e).1⟩;unfold txtN;rw[List.length_append];exact a1.out
end Go.Proofs.YtjlophplcmidlaaGreatDoor
