/-
  The reference's Num and Text
-/
import Derived.Test.YtlipjglehongeaaGreatDoorGb2
open Go.Lib (hid)
namespace Go.Proofs.YtlipjglehongeaaGreatDoor
open Go Go.RowKit Sh
set_option maxHeartbeats 400000 in
theorem refnum_t (v n:Nat) (w:World) (h1:1≤n) (h2:n≤8):
  Calls Tryz.prog 82 #[.int .u64 v,.int .i64 n] w λe w'=>∃ u,e= .returned u∧Fresh 5 w w' u (beN v n):=by
 have i1:(1:Int)≤(n:Int):=by omega
 have i2:(n:Int)≤8:=by omega
 go_enter Tryz.func82,Tryz.ntmps82
 go_wp2_with fail
 go_loopw [5,6] (λo i wr=>∃ k:Nat,k≤n∧i= .int .i64 ((n:Int) -1- (k:Int))∧wr.ownsRow w.heap.size 5 1 o k (u8s ((beN v n).take k))∧Below w.heap.size w wr) (λ_ i _=>(intOf i+1).toNat)
 case atStart=>exact⟨0,by omega,by simp,nil_own _ _,Below.refl _ _⟩
 case round=>
  obtain⟨k,hk,rfl,ho,hb⟩:=hrel
  by_cases hlt:k<n
  ·have b0:(0:Int)≤(n:Int) -1- (k:Int):=by omega
   have b1:(n:Int) -1- (k:Int)≤7:=by omega
   have HO:=hid ho;have HB:=hid hb;clear ho hb;have BA:=hid ((Below.refl wr.heap.size wr).alloc (Nat.le_refl _) (.cells #[.int .u8 ((v:Int) / 2 ^ (8 * (n-1-k)) % 256)] 5))
   go_wp2_with ((with_reducible refine at_op (.call { callee:= .builtin .append,args:= #[.tmp 20,.tmp 27],argTypes:= #[23,23] }) rfl ?_);refine append_bytes (.tmp 20) (.tmp 27) 23 rfl rfl 5 Tryz.underlying23 byte_info w.heap.size _ k _ [v / 2 ^ (8 * (n-1-k)) % 256] rfl (own_below HO.out BA.out) (some ⟨wr.heap.size,0,none⟩) 1 1 rfl rfl (Sr.one _ _ (shr_byte v _) wr _ _) (by omega) (by have:=HB.out.size;simp;omega) ?_;intro v2 w2 a1 a2 a3)
   go_roundw
   case rel=>
    have o2:=a1.out;rw[←beN_take v n k hlt] at o2;refine⟨k+1,by omega,?_,o2,?_⟩
    ·refine congrArg (Value.int .i64) ?_;omega
    ·exact(HB.out.alloc HB.out.size _).grown a2.out (Nat.le_trans HB.out.size (by simp)) λi e=>(HO.out.lt i e).1
   case measure=>simp[intOf];omega
  ·obtain rfl:k=n:=by omega
   have HO:=hid ho;have HB:=hid hb;clear ho hb
   go_wp2
   go_ret;refine⟨_,rfl,?_,HB.out⟩;have o2:=HO.out;rw[List.take_of_length_le (by rw[beN_length];exact Nat.le_refl _)] at o2;rw[beN_length];exact o2
theorem reftext_t (xs:List Nat) (p:Option Addr) (n c:Nat) (w:World) (hn:xs.length=n) (hp:Sr w p xs) (hl:4+n≤70368744177664):
  Calls Tryz.prog 50 #[.slice p n c] w λe w'=>∃ u,e= .returned u∧Fresh 5 w w' u (txtN xs):=by
 subst hn;have i1:(xs.length:Int)≤70368744177664:=by omega
 have HP:=hid hp;have HL:=hid hl;clear hp hl
 go_enter Tryz.func50,Tryz.ntmps50
 go_wp2_with fail
 refine(refnum_t xs.length 4 w (by omega) (by omega)).mono ?_
 rintro e w1 ⟨u,rfl,o1,b1⟩
 have O1:=hid o1;have B1:=hid b1;clear o1 b1
 go_wp2_with ((with_reducible refine at_op (.call { callee:= .builtin .append,args:= #[.tmp 6,.tmp 7],argTypes:= #[23,23] }) rfl ?_);refine append_bytes (.tmp 6) (.tmp 7) 23 rfl rfl 5 Tryz.underlying23 byte_info w.heap.size u _ _ xs rfl O1.out p xs.length c rfl rfl (HP.out.below B1.out) (by rw[beN_length];have:=HL.out;omega) B1.out.size ?_;intro v2 w2 a1 a2 a3)
 go_ret;refine⟨v2,rfl,?_,B1.out.grown a2.out B1.out.size λi e=>(O1.out.lt i e).1⟩;unfold txtN;rw[List.length_append];exact a1.out
end Go.Proofs.YtlipjglehongeaaGreatDoor
