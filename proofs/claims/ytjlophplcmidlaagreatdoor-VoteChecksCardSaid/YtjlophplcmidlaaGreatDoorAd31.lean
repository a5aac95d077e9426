/-
  The reference's Sum
  PACKAGE lms, OVER Nat
  OtsWide walked
  EQUALITY of arrays of bytes, of secrets, of texts
-/
import Derived.Test.YtjlophplcmidlaaGreatDoorAd30
import Derived.Test.YtjlophplcmidlaaGreatDoorAd4
import Derived.Test.YtjlophplcmidlaaGreatDoorAd1
import Derived.Test.YtjlophplcmidlaaGreatDoorAd29
import Derived.Laws.StructEq
import Derived.Test.YtjlophplcmidlaaGreatDoorAd2
open Go.Lib (hid)
set_option maxRecDepth 100000
namespace Go.Proofs.YtjlophplcmidlaaGreatDoor
open Go Go.RowKit Sh
theorem own_empty (w:World) (base g:Nat) (h:base≤w.heap.size) (hg:g=w.heap.size):(w.alloc (.cells #[] 5)).ownsRow base 5 1 (.slice (some ⟨g,0,none⟩) 0 0) 0 (u8s []):=by
 subst hg;have:=World.ownsRow_lit w (e:=5) (size:=1) (base:=base) #[] 0 h (Nat.zero_le _) rfl
 simpa [u8s] using this
def padA (l:List Nat) (k:Nat):List Nat:=l++(128::List.replicate k 0)
theorem padA_length (l:List Nat) (k:Nat):(padA l k).length=l.length+1+k:=by simp[padA];omega
theorem padA_succ (l:List Nat) (k:Nat):padA l k++[0]=padA l (k+1):=by simp[padA,List.replicate_succ']
theorem zeros_lt (n:Nat):zeros n<64:=Nat.mod_lt _ (by decide)
theorem zeros_test (n k:Nat) (h:k<zeros n):(n+1+k) % 64≠56:=by unfold zeros at h;omega
theorem zeros_end (n:Nat):(n+1+zeros n) % 64=56:=by unfold zeros;omega
theorem len8_take (n k:Nat) (hk:k<8):(len8 n).take (k+1)=(len8 n).take k++[n / 2 ^ (56-8 * k) % 256]:=by
 rw[List.take_succ_eq_append_getElem (by rw[len8_length];exact hk)];simp[len8]
theorem pad_eq (l:List Nat):padA l (zeros l.length)++len8 (8 * l.length)=pad l:=by simp[padA,pad]
theorem pad_len (l:List Nat):(pad l).length=64 * nblk l.length:=by
 rw[←pad_eq,List.length_append,padA_length,len8_length];unfold nblk zeros;omega
theorem len8_bytes (n:Nat):Bytes (len8 n):=λi=>by
 rcases Nat.lt_or_ge i 8 with h |h
 ·rw[gt_of_lt (by rw[len8_length];exact h)];simp[len8];omega
 ·rw[gt_out (by rw[len8_length];exact h)];decide
theorem padA_bytes {l:List Nat} (h:Bytes l) (k:Nat):Bytes (padA l k):=by
 refine app_bytes h (sl_bytes λx hx=>?_);rcases List.mem_cons.1 hx with rfl |hx
 ·decide
 ·rw[List.eq_of_mem_replicate hx];decide
theorem padded_bytes {l:List Nat} (h:Bytes l):Bytes (pad l):=by rw[←pad_eq];exact app_bytes (padA_bytes h _) (len8_bytes _)
theorem and3:∀ i:Nat,i<32→bits .and .i64 (i:Int) 3=((i % 4:Nat):Int):=by decide+kernel
theorem len_byte (n j:Nat) (h:j<8):((8 * n / 2 ^ (56-8 * j) % 256:Nat):Int)=(n:Int) * 8 / 2 ^ (8 * (7-j)) % 256:=by
 rw[show 8 * (7-j)=56-8 * j from by omega,Int.natCast_emod,Int.natCast_ediv,Int.natCast_pow,Int.natCast_mul,Int.mul_comm];rfl
theorem out_length (s:S8):(out s).length=32:=by simp[out,S8.list,bytes4]
theorem out_at (s:S8) (hs:s.ok) (i:Nat) (hi:i<32):gt (out s) i=gt s.list (i / 4) / 2 ^ (24-8 * (i % 4)) % 256:=by
 obtain⟨a,b,c,d,e,f,g,h⟩:=s;obtain⟨ha,hb,hc,hd,he,hf,hg,hh⟩:=hs;simp only[] at ha hb hc hd he hf hg hh;have:i=0∨i=1∨i=2∨i=3∨i=4∨i=5∨i=6∨i=7∨i=8∨i=9∨i=10∨i=11∨i=12∨i=13∨i=14∨i=15∨i=16∨i=17∨i=18∨i=19∨i=20∨i=21∨i=22∨i=23∨i=24∨i=25∨i=26∨i=27∨i=28∨i=29∨i=30∨i=31:=by omega
 rcases this with rfl |rfl |rfl |rfl |rfl |rfl |rfl |rfl |rfl |rfl |rfl |rfl |rfl |rfl |rfl |rfl |rfl |rfl |rfl |rfl |rfl |rfl |rfl |rfl |rfl |rfl |rfl |rfl |rfl |rfl |rfl |rfl<;>simp[out,S8.list,bytes4,gt]<;>omega
theorem set_out (l:List Nat) (i v:Nat) (hl:l.length=32) (hi:i<32) (hv:gt l i=v):(l.take i++List.replicate (32-i) 0).set i v=l.take (i+1)++List.replicate (32- (i+1)) 0:=by
 rw[List.take_succ_eq_append_getElem (by omega),List.set_append_right _ _ (by rw[List.length_take];omega),List.length_take,Nat.min_eq_left (by omega),Nat.sub_self,show 32-i=(32- (i+1))+1 from by omega];rw[gt_of_lt (by omega)] at hv;simp[List.replicate_succ,hv]
set_option maxHeartbeats 1000000 in
theorem refsum_t (l:List Nat) (p:Option Addr) (n c:Nat) (w:World) (hn:l.length=n) (hp:Sr w p l) (hb:Bytes l) (hl:n≤100000000):
  Calls Tryz.prog 32 #[.slice p n c] w λe w'=>e= .returned (.agg (u8s (sum l)).toArray)∧Below w.heap.size w w':=by
 subst hn;have i1:(l.length:Int)≤100000000:=by omega
 have HP:=hid hp;have HB:=hid hb;clear hp hb
 go_enter Tryz.func32,Tryz.ntmps32
 go_wp2_with (first
  |((with_reducible refine at_op (.call { callee:= .builtin .append,args:= #[.tmp 10,.tmp 11],argTypes:= #[25,25] }) rfl ?_);refine append_bytes (.tmp 10) (.tmp 11) 25 rfl rfl 5 Tryz.underlying25 byte_info w.heap.size (.slice (some ⟨w.heap.size+1,0,none⟩) 0 0) 0 [] l rfl (own_empty _ _ _ (by simp) (by simp)) p l.length c rfl rfl (HP.out.below (((Below.refl _ _).alloc (Nat.le_refl _) _).alloc (by simp) _)) (by omega) (by simp;omega) ?_;intro v1 w1 a1 a2 a3)
  |((with_reducible refine at_op (.call { callee:= .builtin .append,args:= #[.tmp 12,.tmp 13],argTypes:= #[25,25] }) rfl ?_);refine append_bytes (.tmp 12) (.tmp 13) 25 rfl rfl 5 Tryz.underlying25 byte_info w.heap.size v1 _ _ [128] rfl (own_below a1.out ((Below.refl _ _).alloc (Nat.le_refl _) _)) (some ⟨w1.heap.size,0,none⟩) 1 1 rfl rfl (Sr.one 128 128 rfl w1 _ _) (by omega) (by have:=a2.out.size;simp at this ⊢;omega) ?_;intro v2 w2 b1 b2 b3))
 obtain⟨A0,c0,rfl,_⟩:=own_form b1.out;rw[show 0+l.length+1=l.length+1 from by omega];have sz1:w.heap.size+2≤w1.heap.size:=by have:=a2.out.size;simpa using this
 have r0:Blk w2 w.heap.size 23 (u8s (List.replicate 32 0)):=by
  have h1:=((Blk.new w 23 (u8s (List.replicate 32 0))).alloc (.cells #[] 5));have h2:Blk w1 w.heap.size 23 (u8s (List.replicate 32 0)):=(a2.out.block _ h1.lt (λe=>by have:=Option.some.inj e;simp at this)).trans h1;have h3:=h2.alloc (.cells #[.int .u8 128] 5);exact(b2.out.block _ h3.lt (λe=>own_apart (own_below a1.out ((Below.refl _ _).alloc (Nat.le_refl _) (.cells #[.int .u8 128] 5))) h3 (by decide) e.symm)).trans h3
 have bw1:Below w.heap.size w w1:=(((Below.refl _ _).alloc (Nat.le_refl _) _).alloc (by simp) _).grown a2.out (by simp;omega) (λk e=>by have:=Option.some.inj e;simp at this;omega);have bw:Below w.heap.size w w2:=(bw1.alloc bw1.size _).grown b2.out (by simp;omega) (λk e=>(a1.out.lt k e).1);have o0:w2.ownsRow w.heap.size 5 1 (.slice A0 (l.length+1) c0) (l.length+1) (u8s (padA l 0)):=by
  have:=b1.out
  simpa [padA] using this
 have R0:=hid r0;have BW:=hid bw;have O0:=hid o0;clear r0 bw bw1 o0 a1 a2 a3 b1 b2 b3
 go_loopw [3] (λs wr=>∃ (k m:Nat) (A:Option Addr) (c:Nat),k≤zeros l.length∧m=l.length+1+k∧s= .slice A m c∧wr.ownsRow w.heap.size 5 1 s m (u8s (padA l k))∧Blk wr w.heap.size 23 (u8s (List.replicate 32 0))∧Below w.heap.size w wr) (λs _=>l.length+1+zeros l.length-sLen s)
 case atStart=>exact⟨0,l.length+1,A0,c0,Nat.zero_le _,rfl,by simp,by simpa using O0.out,R0.out,BW.out⟩
 case round=>
  clear R0 BW O0;obtain⟨k,m,A,c',hk,hm,rfl,ho,hr,hw⟩:=hrel;have hz:=zeros_lt l.length;have im:(m:Int)≤200000000:=by omega
  have HO:=hid ho;have HR:=hid hr;have HW:=hid hw;clear ho hr hw
  by_cases hlt:k<zeros l.length
  ·have t1:(((m:Int) % 64) != 56)=true:=by rw[bne_iff_ne];have:=zeros_test l.length k hlt;omega
   have HM:=hid hm;clear hm
   go_wp2_with ((with_reducible refine at_op (.call { callee:= .builtin .append,args:= #[.tmp 19,.tmp 20],argTypes:= #[25,25] }) rfl ?_);refine append_bytes (.tmp 19) (.tmp 20) 25 rfl rfl 5 Tryz.underlying25 byte_info w.heap.size (.slice A m c') m (padA l k) [0] rfl (own_below HO.out ((Below.refl _ _).alloc (Nat.le_refl _) _)) (some ⟨wr.heap.size,0,none⟩) 1 1 rfl rfl (Sr.one 0 0 rfl wr _ _) (by omega) (by have:=HW.out.size;simp;omega) ?_;intro v5 w5 e1 e2 e3)
   obtain⟨A5,c5,rfl,_⟩:=own_form e1.out;have r5:Blk w5 w.heap.size 23 (u8s (List.replicate 32 0)):=by
    have h3:=HR.out.alloc (.cells #[.int .u8 0] 5);exact(e2.out.block _ h3.lt (λe=>own_apart (own_below HO.out ((Below.refl _ _).alloc (Nat.le_refl _) (.cells #[.int .u8 0] 5))) h3 (by decide) e.symm)).trans h3
   have bw5:Below w.heap.size w w5:=(HW.out.alloc HW.out.size _).grown e2.out (by have:=HW.out.size;simp;omega) (λk e=>(HO.out.lt k e).1);have R5:=hid r5;have B5:=hid bw5;clear r5 bw5
   go_roundw
   case rel=>
    refine⟨k+1,m+1,A5,c5,by omega,by have:=HM.out;omega,rfl,?_,R5.out,B5.out⟩;rw[←padA_succ];exact e1.out
   case measure=>simp[sLen];have:=HM.out;omega
  ·obtain rfl:k=zeros l.length:=by omega
   have t1:(((m:Int) % 64) != 56)=false:=by rw[bne_eq_false_iff_eq];have:=zeros_end l.length;omega
   have HM:=hid hm;clear hm hlt hk;go_wp2_with fail
   obtain⟨wo,rfl⟩:∃ x:World,x=wr:=⟨_,rfl⟩
   go_loopw [3,5] (λs i wr=>∃ (j m:Nat) (A:Option Addr) (c:Nat),j≤8∧m=l.length+1+zeros l.length+j∧s= .slice A m c∧i= .int .i64 (7- (j:Int))∧wr.ownsRow w.heap.size 5 1 s m (u8s (padA l (zeros l.length)++(len8 (8 * l.length)).take j))∧Blk wr w.heap.size 23 (u8s (List.replicate 32 0))∧Below w.heap.size w wr) (λ_ i _=>(intOf i+1).toNat)
   case atStart=>exact⟨0,m,A,c',by omega,by rw[HM.out];rfl,rfl,rfl,by simpa using HO.out,HR.out,HW.out⟩
   case round=>
    clear HO HR HW;obtain⟨j,m2,A2,c2,hj,hm2,rfl,rfl,ho,hr,hw⟩:=hrel;have HO:=hid ho;have HR:=hid hr;have HW:=hid hw;have HM2:=hid hm2;have im2:(m2:Int)≤200000000:=by omega
    clear ho hr hw hm2
    by_cases hlt:j<8
    ·have b0:(0:Int)≤7- (j:Int):=by omega
     have b1:(7:Int) - (j:Int)≤7:=by omega
     go_wp2_with ((with_reducible refine at_op (.call { callee:= .builtin .append,args:= #[.tmp 30,.tmp 37],argTypes:= #[25,25] }) rfl ?_);refine append_bytes (.tmp 30) (.tmp 37) 25 rfl rfl 5 Tryz.underlying25 byte_info w.heap.size (.slice A2 m2 c2) m2 _ [8 * l.length / 2 ^ (56-8 * j) % 256] rfl (own_below HO.out ((Below.refl _ _).alloc (Nat.le_refl _) _)) (some ⟨wr.heap.size,0,none⟩) 1 1 rfl rfl (Sr.one _ _ (len_byte l.length j hlt) wr _ _) (by omega) (by have:=HW.out.size;simp;omega) ?_;intro v5 w5 e1 e2 e3)
     obtain⟨A5,c5,rfl,_⟩:=own_form e1.out;have r5:Blk w5 w.heap.size 23 (u8s (List.replicate 32 0)):=by
      have h3:=HR.out.alloc (.cells #[.int .u8 ((l.length:Int) * 8 / 2 ^ (8 * (7-j)) % 256)] 5);exact(e2.out.block _ h3.lt (λe=>own_apart (own_below HO.out ((Below.refl _ _).alloc (Nat.le_refl _) (.cells #[.int .u8 ((l.length:Int) * 8 / 2 ^ (8 * (7-j)) % 256)] 5))) h3 (by decide) e.symm)).trans h3
     have bw5:Below w.heap.size w w5:=(HW.out.alloc HW.out.size _).grown e2.out (by have:=HW.out.size;simp;omega) (λk e=>(HO.out.lt k e).1);have R5:=hid r5;have B5:=hid bw5;clear r5 bw5
     go_roundw
     case rel=>
      refine⟨j+1,m2+1,A5,c5,by omega,by have:=HM2.out;omega,rfl,?_,?_,R5.out,B5.out⟩
      ·refine congrArg (Value.int .i64) ?_;omega
      ·rw[len8_take _ _ hlt,←List.append_assoc];exact e1.out
     case measure=>simp[intOf];omega
    ·obtain rfl:j=8:=by omega
     have hm8:m2=64 * nblk l.length:=by
      have h1:=pad_len l;have h2:=HM2.out;rw[←pad_eq,List.length_append,padA_length,len8_length] at h1;omega
     have op:wr.ownsRow w.heap.size 5 1 (.slice A2 m2 c2) m2 (u8s (pad l)):=by
      have:=HO.out;rw[List.take_of_length_le (by rw[len8_length];exact Nat.le_refl _),pad_eq] at this;exact this
     have hpl:(pad l).length=m2:=by rw[pad_len,hm8]
     have hm0:0<m2:=by have:=HM2.out;omega
     obtain⟨N,hN⟩:∃ N,nblk l.length=N:=⟨_,rfl⟩;rw[hN] at hm8;obtain⟨g,cp,hv,hg1,hg2⟩:=op.form (by have:=HM2.out;omega)
     injection hv with e1 e2 e3
     subst e1 e3;have hpb:=padded_bytes HB.out;have hNN:=hid hN;have hsum:sum l=out (run (pad l) N):=by unfold sum;rw[hN]
     obtain⟨P,hP⟩:∃ P,pad l=P:=⟨_,rfl⟩;rw[hP] at op hpl hpb hsum;have OP:=hid op;have HPL:=hid hpl;have HPB:=hid hpb;have HM8:=hid hm8;have HSUM:=hid hsum;have g25:g≠w.heap.size:=λe=>own_apart op HR.out (by decide) (by rw[e];rfl)
     clear op hpl hpb hm8 hsum hP hN HO HM2 HM hlt hj t1;obtain⟨w3,rfl⟩:∃ x:World,x=wr:=⟨_,rfl⟩
     go_wp2_with ((with_reducible refine store_blk 110 (.tmp 6) (.tmp 39) w3.heap.size 110 (u32s (List.replicate 8 0)) (u32s h0.list) rfl rfl ?_ ?_ ?_ ?_ ?_ ?_ ?_);exact Blk.new w3 _ _;exact rfl;kernel_rfl;exact u32s_one _;exact rfl;exact rfl)
     have hs3:w.heap.size<w3.heap.size:=HR.out.lt;have h42:=(Blk.new w3 110 (u32s (List.replicate 8 0))).setRow (u32s h0.list);have o3:=own_below OP.out (below_setRow ((Below.refl w3.heap.size w3).alloc (Nat.le_refl _) (.cells (u32s (List.replicate 8 0)).toArray 110)) (Nat.le_refl _) (u32s h0.list).toArray);have r3:=(HR.out.alloc (.cells (u32s (List.replicate 8 0)).toArray 110)).setRow_far (g':=w3.heap.size) (by omega) (u32s h0.list).toArray;have b3:=below_setRow (HW.out.alloc HW.out.size (.cells (u32s (List.replicate 8 0)).toArray 110)) HW.out.size (u32s h0.list).toArray;have H42:=hid h42;have O3:=hid o3;have R3:=hid r3;have B3:=hid b3;clear h42 o3 r3 b3 HR HW OP
     go_loopw [7] (λi wx=>∃ j:Nat,j≤N∧i= .int .i64 ((64 * j:Nat):Int)∧Blk wx w3.heap.size 110 (u32s (run P j).list)∧wx.ownsRow w.heap.size 5 1 (.slice (some ⟨g,0,none⟩) m2 c2) m2 (u8s P)∧Blk wx w.heap.size 23 (u8s (List.replicate 32 0))∧Below w.heap.size w wx) (λi _=>m2- (intOf i).toNat)
     case atStart=>exact⟨0,by omega,rfl,H42.out,O3.out,R3.out,B3.out⟩
     case round=>
      clear H42 O3 R3 B3;obtain⟨j,hj,rfl,hh,ho,hr,hw⟩:=hrel;have hm8:=HM8.out;have hby:BytesAt wr g 0 P:=by
       obtain⟨b,o,e,_,hb2⟩:=Sr.of_own ho (by rw[HPL.out];omega)
       injection e with e
       injection e with e1 e2
       subst e1 e2;exact hb2
      by_cases hlt:j<N
      ·have i0:((64 * j:Nat):Int)< (m2:Int):=by omega
       have i2:((64 * j:Nat):Int)≤200000000:=by omega
       have z1:(Tryz.prog.info? 110).map (·.size)=some (u32s (run P j).list).length:=(show(Tryz.prog.info? 110).map (·.size)=some 8 by kernel_rfl);have z2:(Tryz.prog.info? 110).map (·.size)=some (u32s (run P (j+1)).list).length:=(show(Tryz.prog.info? 110).map (·.size)=some 8 by kernel_rfl);have hok:=run_ok P j;have hll:(u32s (run P j).list).length=(u32s (run P (j+1)).list).length:=(len8s _).trans (len8s _).symm;have hgl:=(ho.lt g rfl).2;have HH:=hid hh;have HO:=hid ho;have HR:=hid hr;have HW:=hid hw;have Z1:=hid z1;have Z2:=hid z2;have HOK:=hid hok;have HBY:=hid hby;have HLL:=hid hll;have hstep:cmp (run P j) (sched P (64 * j))=run P (j+1):=rfl;have HST:=hid hstep;clear hh ho hr hw z1 z2 hok hby hll hstep;obtain⟨s0,hs0⟩:∃ x,run P j=x:=⟨_,rfl⟩;obtain⟨s1,hs1⟩:∃ x,run P (j+1)=x:=⟨_,rfl⟩;rw[hs0] at HH Z1 HOK HST HLL;rw[hs1] at Z2 HST HLL;have HS1:=hid hs1;clear hs0 hs1 hm8
       go_wp2_with (first
        |((with_reducible refine load_blk 110 (.tmp 6) w3.heap.size 110 (u32s s0.list) _ rfl rfl ?_ Tryz.underlying110 rfl ?_ ?_ ?_);exact HH.out;exact Z1.out;exact rfl)
        |(go_at_call 64;refine(block_t s0 HOK.out P m2 c2 (64 * j) g 0 wr HPL.out (by have:=HM8.out;omega) (by omega) HBY.out HPB.out hgl).mono ?_;rintro e w5 ⟨rfl,b5⟩;rw[HST.out];have H5:=hid (HH.out.below b5 HH.out.lt);have O5:=hid (own_below HO.out b5);have R5:=hid (HR.out.below b5 HR.out.lt);have B5:=hid (HW.out.trans (b5.mono HW.out.size));clear b5)
        |((with_reducible refine store_blk 110 (.tmp 6) (.tmp 49) w3.heap.size 110 (u32s s0.list) (u32s s1.list) rfl rfl ?_ ?_ ?_ ?_ ?_ ?_ ?_);exact H5.out;exact HLL.out;exact Z2.out;exact u32s_one _;exact rfl;exact rfl))
       go_roundw
       case rel=>
        refine⟨j+1,by omega,?_,?_,?_,R5.out.setRow_far (by omega) _,below_setRow B5.out (by omega) _⟩
        ·refine congrArg (Value.int .i64) ?_;omega
        ·rw[HS1.out];exact H5.out.setRow _
        ·refine own_kept (F:=λq=>q=w3.heap.size) O5.out ⟨rfl,rfl,rfl,by simp,λk _ hk=>setRow_other _ _ k _ hk⟩ λq e hq=>?_
         subst hq;exact own_apart O5.out H5.out (by decide) e
       case measure=>simp[intOf];have:=HM8.out;omega
      ·obtain rfl:j=N:=by omega
       have i0:¬ ((64 * j:Nat):Int)< (m2:Int):=by omega
       have i2:(m2:Int)≤((64 * j:Nat):Int):=by omega
       have hok:=run_ok P j;obtain⟨s0,hs0⟩:∃ x,run P j=x:=⟨_,rfl⟩;have hsu:=HSUM.out;rw[hs0] at hh hok hsu;have HH:=hid hh;have HR:=hid hr;have HW:=hid hw;have HOK:=hid hok;have HSU:=hid hsu;clear hh ho hr hw hok hsu hby hs0 hm8 hj hlt HSUM;go_wp2_with fail
       obtain⟨w6,rfl⟩:∃ x:World,x=wr:=⟨_,rfl⟩
       go_loopw [9] (λi wx=>∃ k:Nat,k≤32∧i= .int .i64 k∧Blk wx w3.heap.size 110 (u32s s0.list)∧Blk wx w6.heap.size 23 (u8s ((out s0).take k++List.replicate (32-k) 0))∧Blk wx w.heap.size 23 (u8s (List.replicate 32 0))∧Below w.heap.size w wx) (λi _=>32- (intOf i).toNat)
       case atStart=>exact⟨0,by omega,rfl,HH.out.alloc _,Blk.new w6 _ _,HR.out.alloc _,HW.out.alloc HW.out.size _⟩
       case round=>
        have h63:w3.heap.size<w6.heap.size:=HH.out.lt;have h60:w.heap.size<w6.heap.size:=HR.out.lt;clear HH HR HW;obtain⟨k,hk,rfl,hh,ho,hr,hw⟩:=hrel;have HH:=hid hh;have HO:=hid ho;have HR:=hid hr;have HW:=hid hw
        by_cases hlt:k<32
        ·have c1:=(hh.cell (k / 4)).trans (u32s_get _ _ (by show k / 4<8;omega));obtain⟨x,hx⟩:∃ x,wr.cell? ⟨w6.heap.size,k,none⟩=some x:=by
          rw[ho.cell];exact⟨_,List.getElem?_eq_getElem (by rw[u8s_length,List.length_append,List.length_take,List.length_replicate,out_length];omega)⟩
         have f1:=ho.frozen k;have ha:=and3 k hlt;have hv:=out_at s0 HOK.out k hlt;have HV:=hid hv;have i5:(k:Int)<32:=by omega
         have i6:0≤(24:Int) -8 * ((k % 4:Nat):Int):=by omega
         have i7:(24:Int) -8 * ((k % 4:Nat):Int)≤24:=by omega
         clear hh ho hr hw hv
         go_wp2
         go_roundw
         case rel=>
          refine⟨k+1,by omega,by go_num,HH.out.far (by simp;omega) _,?_,HR.out.far (by simp;omega) _,HW.out.setCell (by simp;omega) _⟩;have b:=HO.out.store k (.int .u8 ((gt s0.list (k / 4) / 2 ^ (24-8 * (k % 4)) % 256:Nat):Int));rw[u8s_set,set_out _ _ _ (out_length s0) hlt HV.out] at b;rw[←shr_byte];exact b
         case measure=>simp[intOf];omega
        ·obtain rfl:k=32:=by omega
         have ho2:Blk wr w6.heap.size 23 (u8s (sum l)):=by
          rw[HSU.out];rw[List.take_of_length_le (by rw[out_length];exact Nat.le_refl _)] at ho
          simpa using ho
         have HO2:=hid ho2;have z1:=zs25 l;have Z1:=hid z1;have hol:(u8s (List.replicate 32 0)).length=(u8s (sum l)).length:=(sum_len l).symm;have HOL:=hid hol;clear hh ho hr hw ho2 z1 hol HO HH
         go_wp2_with (first
          |((with_reducible refine load_blk 23 (.tmp 8) w6.heap.size 23 (u8s (sum l)) _ rfl rfl ?_ Tryz.underlying23 rfl ?_ ?_ ?_);exact HO2.out;exact Z1.out;exact rfl)
          |((with_reducible refine store_blk 23 (.tmp 2) (.tmp 67) w.heap.size 23 (u8s (List.replicate 32 0)) (u8s (sum l)) rfl rfl ?_ ?_ ?_ ?_ ?_ ?_ ?_);exact HR.out;exact HOL.out;exact Z1.out;exact u8s_one _;exact rfl;exact rfl))
         exact ret_blk (p:=2) (ty:=23) rfl rfl w.heap.size 23 _ _ rfl (HR.out.setRow _) Tryz.underlying23 rfl Z1.out ⟨rfl,below_setRow HW.out (Nat.le_refl _) _⟩
def hAt (L:List Nat) (r:Nat):List Nat:=(L.drop (32 * r)).take 32
def put32 (L:List Nat) (r:Nat) (X:List Nat):List Nat:=L.take (32 * r)++(X++L.drop (32 * r+32))
theorem hAt_length (L:List Nat) (r:Nat) (h:32 * r+32≤L.length):(hAt L r).length=32:=by
 unfold hAt;rw[List.length_take,List.length_drop];omega
theorem hAt_bytes (L:List Nat) (r:Nat) (h:Bytes L):Bytes (hAt L r):=bytes_take (bytes_drop h _) _
theorem put32_length (L:List Nat) (r:Nat) (X:List Nat) (h:32 * r+32≤L.length) (hX:X.length=32):(put32 L r X).length=L.length:=by
 unfold put32;rw[List.length_append,List.length_append,List.length_take,List.length_drop];omega
theorem put32_bytes (L:List Nat) (r:Nat) (X:List Nat) (h:Bytes L) (hX:Bytes X):Bytes (put32 L r X):=app_bytes (bytes_take h _) (app_bytes hX (bytes_drop h _))
theorem hAt_put (L:List Nat) (r:Nat) (X:List Nat) (h:32 * r+32≤L.length) (hX:X.length=32):hAt (put32 L r X) r=X:=by
 unfold hAt put32;rw[List.drop_append_of_le_length (by rw[List.length_take];omega),List.drop_of_length_le (by rw[List.length_take];omega),List.nil_append,List.take_append_of_le_length (by omega),List.take_of_length_le (by omega)]
theorem hAt_other (L:List Nat) (r s:Nat) (X:List Nat) (h:32 * r+32≤L.length) (hX:X.length=32) (hne:s≠r):hAt (put32 L r X) s=hAt L s:=by
 unfold hAt put32;apply List.ext_getElem?;intro j;rw[List.getElem?_take,List.getElem?_take]
 split
 ·rename_i hj
  rw[List.getElem?_drop,List.getElem?_drop];rcases Nat.lt_or_ge (32 * s+j) (32 * r) with h1 |h1
  ·rw[List.getElem?_append_left (by rw[List.length_take];omega),List.getElem?_take,if_pos h1]
  ·have h2:32 * r+32≤32 * s+j:=by omega
   rw[List.getElem?_append_right (by rw[List.length_take];omega),List.length_take,Nat.min_eq_left (by omega),List.getElem?_append_right (by omega),List.getElem?_drop,hX]
   congr 1;omega
 ·rfl
def leafV (I:List Nat) (r:Nat) (K:List Nat):List Nat:=sum (headN I r 33410++K)
def innerV (I:List Nat) (r:Nat) (A B:List Nat):List Nat:=sum (headN I r 33667++A++B)
def nodeV (I seed:List Nat) (i:Nat) (L:List Nat) (r:Nat):List Nat:=
 if r<32 then innerV I r (hAt L (2 * r)) (hAt L (2 * r+1)) else leafV I r (pubN I seed (r-32) i)
def nod (I seed:List Nat) (i:Nat):Nat→List Nat
 |0=>List.replicate 2048 0
 |k+1=>put32 (nod I seed i k) (63-k) (nodeV I seed i (nod I seed i k) (63-k))
theorem nodeV_length (I seed:List Nat) (i:Nat) (L:List Nat) (r:Nat):(nodeV I seed i L r).length=32:=by
 unfold nodeV;split<;>rfl
theorem nod_length (I seed:List Nat) (i:Nat):∀ k,k≤63→(nod I seed i k).length=2048
 |0,_=>by rw[nod,List.length_replicate]
 |k+1,h=>by
  have ih:=nod_length I seed i k (by omega);rw[nod,put32_length _ _ _ (by omega) (nodeV_length ..)];exact ih
theorem pubOf_bytes (I:List Nat) (q:Nat) (l:List Nat) (hI:Bytes I) (hl:Bytes l):Bytes (pubOf I q l):=sum_bytes _ (app_bytes (headN_bytes _ _ _ hI) hl)
theorem pubN_bytes (I seed:List Nat) (q i:Nat) (hi:i<4) (hI:Bytes I) (hs:Bytes seed):Bytes (pubN I seed q i):=pubOf_bytes _ _ _ hI (catN_bytes _ _ λj _=>(tipN_ok I seed q i j hi hI hs).2)
theorem leafV_bytes (I:List Nat) (r:Nat) (K:List Nat) (hI:Bytes I) (hK:Bytes K):Bytes (leafV I r K):=sum_bytes _ (app_bytes (headN_bytes _ _ _ hI) hK)
theorem innerV_bytes (I:List Nat) (r:Nat) (A B:List Nat) (hI:Bytes I) (hA:Bytes A) (hB:Bytes B):Bytes (innerV I r A B):=sum_bytes _ (app_bytes (app_bytes (headN_bytes _ _ _ hI) hA) hB)
theorem nodeV_bytes (I seed:List Nat) (i:Nat) (L:List Nat) (r:Nat) (hi:i<4) (hI:Bytes I) (hs:Bytes seed) (hL:Bytes L):Bytes (nodeV I seed i L r):=by
 unfold nodeV;split
 ·exact innerV_bytes _ _ _ _ hI (hAt_bytes _ _ hL) (hAt_bytes _ _ hL)
 ·exact leafV_bytes _ _ _ hI (pubN_bytes _ _ _ _ hi hI hs)
theorem nod_bytes (I seed:List Nat) (i:Nat) (hi:i<4) (hI:Bytes I) (hs:Bytes seed):∀ k,Bytes (nod I seed i k)
 |0=>λj=>by
  rw[nod];rcases Nat.lt_or_ge j 2048 with h |h
  ·rw[gt_of_lt (by rw[List.length_replicate];exact h),List.getElem_replicate];decide
  ·rw[gt_out (by rw[List.length_replicate];exact h)];decide
 |k+1=>by
  have ih:=nod_bytes I seed i hi hI hs k;rw[nod];exact put32_bytes _ _ _ ih (nodeV_bytes _ _ _ _ _ hi hI hs ih)
theorem nod_stays (I seed:List Nat) (i r:Nat):∀ m k,63-k<r→k+m≤63→hAt (nod I seed i (k+m)) r=hAt (nod I seed i k) r
 |0,_,_,_=>rfl
 |m+1,k,h1,h2=>by
  rw[←Nat.add_assoc,nod,hAt_other _ _ _ _ (by rw[nod_length _ _ _ _ (by omega)];omega) (nodeV_length ..) (by omega)];exact nod_stays I seed i r m k h1 (by omega)
theorem nodeV_stays (I seed:List Nat) (i r m k:Nat) (h1:r=63-k) (h3:k<63) (h2:k+m≤63):nodeV I seed i (nod I seed i (k+m)) r=nodeV I seed i (nod I seed i k) r:=by
 unfold nodeV
 split
 ·rw[nod_stays I seed i (2 * r) m k (by omega) h2,nod_stays I seed i (2 * r+1) m k (by omega) h2]
 ·rfl
theorem nod_at (I seed:List Nat) (i r:Nat) (h1:1≤r) (h2:r≤63):hAt (nod I seed i 63) r=nodeV I seed i (nod I seed i 63) r:=by
 have e1:=nod_stays I seed i r (63- (64-r)) (64-r) (by omega) (by omega);rw[show 64-r+(63- (64-r))=63 from by omega] at e1;have e2:=nodeV_stays I seed i r (63- (63-r)) (63-r) (by omega) (by omega) (by omega);rw[show 63-r+(63- (63-r))=63 from by omega] at e2;rw[e1,e2,show 64-r=(63-r)+1 from by omega,nod,show 63- (63-r)=r from by omega];exact hAt_put _ _ _ (by rw[nod_length _ _ _ _ (by omega)];omega) (nodeV_length ..)
theorem run_forIn_find {P:Program} {β:Type} (r0 stop:β) (f:Nat→β→Sem (ForInStep β)) (bad:Nat→Bool) (w:World):∀ (ns:List Nat),(∀ i∈ns,(f i r0).run P w= .ok (if bad i then .done stop else .yield r0) w)→(forIn ns r0 f).run P w= .ok (if ns.any bad then stop else r0) w
 |[],_=>by simp[Sem.run_pure]
 |n::ns,h=>by
  have h1:=h n (List.mem_cons_self)
  cases hb:bad n with
  |true=>
   rw[hb] at h1;simp only[List.forIn_cons,Sem.run_bind,h1,Result.andThen];simp[hb,Sem.run_pure]
  |false=>
   rw[hb] at h1;simp only[List.forIn_cons,Sem.run_bind,h1,Result.andThen];simp only[Bool.false_eq_true,if_false];rw[run_forIn_find r0 stop f bad w ns (λi hi=>h i (List.mem_cons_of_mem _ hi))];simp[hb]
theorem eqIn_u8s (d t n:Nat) (ht:Tryz.prog.underlying t=some (.array n 5)) (xs ys:List Nat) (hx:xs.length=n) (hy:ys.length=n) (w:World):
  (Op.equalIn (d+2) t (.agg (u8s xs).toArray) (.agg (u8s ys).toArray)).run Tryz.prog w= .ok (decide (xs=ys)) w:=by
 have h5:(sizeOf 5).run Tryz.prog w= .ok 1 w:=by kernel_rfl
 unfold Op.equalIn;simp only[Sem.run_bind,run_underlying ht,Result.andThen_ok,h5,Nat.mul_one];have key:∀ i,i<n→(Op.equalIn (d+1) 5 (.int .u8 ((gt xs i:Nat):Int)) (.int .u8 ((gt ys i:Nat):Int))).run Tryz.prog w= .ok (decide (gt xs i=gt ys i)) w:=λi hi=>by
  rw[run_equalIn_int w d 5 .u8 .u8 _ _ Tryz.underlying5];simp;rw[Bool.eq_iff_iff];simp;omega
 simp only[Std.Legacy.Range.forIn_eq_forIn_range',Std.Legacy.Range.size];rw[run_forIn_find (none,()) (some false,()) _ (λi=>decide (gt xs i≠gt ys i)) w _ (λi hi=>by
  have hi2:i<n:=by simpa using hi
  simp only[Sem.run_bind,part_u8 xs i (by omega),part_u8 ys i (by omega),Result.andThen_ok,key i hi2]
  by_cases he:gt xs i=gt ys i
  ·simp[he,Sem.run_pure]
  ·simp[he,Sem.run_pure])]
 have ha:((List.range' 0 ((n-0+1-1) / 1)).any λi=>decide (gt xs i≠gt ys i))= !decide (xs=ys):=by
  by_cases he:xs=ys
  ·subst he;simp
  ·have:∃ i,i<n∧gt xs i≠gt ys i:=by
    refine Classical.byContradiction λhno=>he ?_
    apply List.ext_getElem (by omega);intro i h1 h2;have h3:gt xs i=gt ys i:=Classical.byContradiction λh=>hno ⟨i,by omega,h⟩
    rwa [gt_of_lt h1,gt_of_lt h2] at h3
   obtain⟨i,hi,hne⟩:=this;simp only[he,decide_false,Bool.not_false];rw[List.any_eq_true];exact⟨i,by simp;omega,by simpa using hne⟩
 rw[ha]
 by_cases he:xs=ys<;>simp[he,Result.andThen,Sem.run_pure]
theorem str_list (l:List Nat):(str l).data.toList=l.map UInt8.ofNat:=by
 unfold str;rw[strOfNums_data,List.map_map];exact List.map_congr_left λx _=>by simp
theorem str_beq (xs ys:List Nat) (hx:Bytes xs) (hy:Bytes ys):((str xs).toList == (str ys).toList)=decide (xs=ys):=by
 rw[ByteArray.toList_eq,ByteArray.toList_eq,str_list,str_list]
 by_cases h:xs=ys
 ·subst h;simp
 ·have hne:xs.map UInt8.ofNat≠ys.map UInt8.ofNat:=λe=>h (by
   have hl:xs.length=ys.length:=by simpa using congrArg List.length e
   apply List.ext_getElem hl;intro i h1 h2;have h3:(xs.map UInt8.ofNat)[i]? =(ys.map UInt8.ofNat)[i]? :=by rw[e]
   rw[List.getElem?_map,List.getElem?_map,List.getElem?_eq_getElem h1,List.getElem?_eq_getElem h2] at h3;have h4:=hx i;have h5:=hy i;rw[gt_of_lt h1] at h4;rw[gt_of_lt h2] at h5;have h6:(UInt8.ofNat xs[i]).toNat=(UInt8.ofNat ys[i]).toNat:=by
    have:=Option.some.inj h3;rw[this]
   rw[UInt8.toNat_ofNat',UInt8.toNat_ofNat'] at h6;omega)
  rw[beq_eq_false_iff_ne.2 hne,decide_eq_false h]
theorem same_texts (xs ys:List Nat) (A B:Option Addr) (n m c d:Nat) (w:World) (hn:xs.length=n) (hm:ys.length=m) (ha:Sr w A xs) (hb:Sr w B ys) (hx:Bytes xs) (hy:Bytes ys):
  Calls Tryz.prog 27 #[.slice A n c,.slice B m d] w λe w'=>e= .returned (.bool (decide (xs=ys)))∧w=w':=by
 have e1:=ha.conv hn c;have e2:=hb.conv hm d;have e3:=str_beq xs ys hx hy;obtain⟨b,hbb⟩:∃ b,decide (xs=ys)=b:=⟨_,rfl⟩;rw[hbb] at e3 ⊢;obtain⟨s,hs⟩:∃ s,str xs=s:=⟨_,rfl⟩;obtain⟨t,ht⟩:∃ t,str ys=t:=⟨_,rfl⟩;rw[hs] at e1 e3;rw[ht] at e2 e3;clear ha hb hx hy hbb hs ht hn hm
 go_enter Tryz.func27,Tryz.ntmps27
 go_wp2
 go_ret;exact⟨rfl,rfl⟩
end Go.Proofs.YtjlophplcmidlaaGreatDoor
