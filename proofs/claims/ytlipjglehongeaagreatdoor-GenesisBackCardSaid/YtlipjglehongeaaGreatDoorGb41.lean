/-
  THE REFERENCE OF CHAPTER 10
  LAYER 10's laws
  LAYER 10's laws
-/
import Derived.Test.YtlipjglehongeaaGreatDoorGb32
import Derived.Deep.CutBlock
import Derived.Test.YtlipjglehongeaaGreatDoorGb40
import Derived.Test.YtlipjglehongeaaGreatDoorGb39
import Derived.Test.YtlipjglehongeaaGreatDoorGb22
open Go.Lib (hid)
set_option maxRecDepth 100000
namespace Go.Proofs.YtlipjglehongeaaGreatDoor
open Go Go.RowKit Sh
section
section
section
variable {w0 W W' : World} {g gx : Nat} {zs zs' : List Nat} {bad bad' : Bool} {x x' : Gv}
end
section
variable {P : Program} {ops : Array Oper} {Q : Exit → Act → World → Prop} {md : Region.Mode} {S : World → Prop} {last : Nat → Bool}
end
end
def anA (x:Gv):List Nat:=if begB x then anE x else zH
def liA (x:Gv):List Nat:=if begB x then liE x else zH
theorem anA_len (x:Gv):(anA x).length=32:=by
 unfold anA
 split
 ·rfl
 ·rfl
theorem liA_len (x:Gv):(liA x).length=32:=by
 unfold liA
 split
 ·rfl
 ·rfl
theorem gAnchorA (x:Gv) (w:World) (h:GvW w x) (hi:KI w) (hk:KAt w):
  Calls Tryz.prog 20 #[.agg (gv x).toArray] w λe w'=>e= .returned (.agg (u8s (anA x)).toArray)∧Below w.heap.size w w':=by
 unfold anA
 cases hm:begB x with
 |false=>exact gAnchor_no x w h hi hm
 |true=>exact gAnchor_yes x w h hi hm hk
theorem gLinkA (x:Gv) (w:World) (h:GvW w x) (hi:KI w) (hk:KAt w):
  Calls Tryz.prog 22 #[.agg (gv x).toArray] w λe w'=>e= .returned (.agg (u8s (liA x)).toArray)∧Below w.heap.size w w':=by
 unfold liA
 cases hm:begB x with
 |false=>exact gLink_no x w h hi hm
 |true=>exact gLink_yes x w h hi hm hk
theorem gAnchorRA (x:Gv) (w:World) (h:GvW w x) (hc:GvC x) (hs:x.st.length≤900000):
  Calls Tryz.prog 21 #[.agg (gv x).toArray] w λe w'=>e= .returned (.agg (u8s (anA x)).toArray)∧Below w.heap.size w w':=by
 unfold anA
 cases hm:begB x with
 |false=>exact gAnchorR_no x w h hc hm
 |true=>exact gAnchorR_yes x w h hc hm hs
theorem gLinkRA (x:Gv) (w:World) (h:GvW w x) (hc:GvC x) (hs:x.st.length≤900000):
  Calls Tryz.prog 23 #[.agg (gv x).toArray] w λe w'=>e= .returned (.agg (u8s (liA x)).toArray)∧Below w.heap.size w w':=by
 unfold liA
 cases hm:begB x with
 |false=>exact gLinkR_no x w h hc hm
 |true=>exact gLinkR_yes x w h hc hm hs
theorem sameE_self (e:Ge):sameE e e=true:=sameE_iff.2 rfl
end
set_option maxHeartbeats 2000000 in
theorem fakeC_t (f:Nat) (rd wr:Int) (hf:f≤3) (w:World):
  Calls Tryz.prog 27 #[.int .i64 (f:Int),.int .i64 rd,.int .i64 wr] w λe w'=>∃ y:Gv,y.ge=⟨(f:Int),rd,wr,(List.range (3 * f+1)).map fakeX,[]⟩∧e= .returned (.agg (gv y).toArray)∧GvW w' y∧w'.ownsRow w.heap.size 23 1 (.slice y.kp y.ks.length y.kc) y.ks.length (y.ks.flatMap kyv)∧(∀ z∈y.ks,NK w' w.heap.size z)∧GvC y∧Below w.heap.size w w':=by
 have BG:=built_g9 (f:Int) rd wr;have F0:=hid (show FK9 w ((w.alloc (.cells (gv zGv).toArray 25)).alloc (.cells (gv ⟨(f:Int),rd,wr,none,0,[],none,0,[]⟩).toArray 25)) ⟨(f:Int),rd,wr,none,0,[],none,0,[]⟩ from
  ⟨(Blk.new w 25 (gv zGv)).alloc _,Blk.new2 w _ 25 _,World.ownsRow_nil _ _ _ _,(λy hy=>by cases hy),((Below.refl _ _).alloc (Nat.le_refl _) _).alloc (by simp) _⟩)
 obtain⟨n,hn⟩:∃ n,3 * f+1=n:=⟨_,rfl⟩;have n10:n≤10:=by omega
 have hn3:(3 * (f:Int)+1)=(n:Int):=by omega
 rw[hn]
 go_enter Tryz.func27,Tryz.ntmps27
 go_upto_region 2 with(fail)
 refine world_at (λY=>FK9 w Y ⟨(f:Int),rd,wr,none,0,[],none,0,[]⟩) F0.out ?_
 rintro V f1
 have F1:=hid f1;clear f1 F0 BG;go_wp2_with fail
 go_loopw [8] (λt wq=>∃ (j:Nat) (x:Gv),j≤n∧t= .int .i64 (j:Int)∧FK9 w wq x∧x.ge=⟨(f:Int),rd,wr,(List.range j).map fakeX,[]⟩∧x.sp=none∧x.sc=0∧GvC x) (λt _=>n- (intOf t).toNat)
 case atStart=>exact⟨0,_,by omega,rfl,F1.out,rfl,rfl,rfl,λy hy=>by cases hy⟩
 case round=>
  clear F1;obtain⟨j,x,hj,rfl,fk,hge,hsp,hsc,hgc⟩:=hrel;have HGC:=hid hgc;have FK:=hid fk;have HGE:=hid hge;have HSP:=hid (And.intro hsp hsc);have HLN:=hid (show x.ks.length=j from by
   have h:=congrArg (λe=>e.ks.length) hge
   simpa [Gv.ge] using h)
  clear fk hge hsp hsc hgc
  by_cases hlt:j<n
  ·have j1:(j:Int)< (n:Int):=by omega
   have j1b:(j:Int)<3 * (f:Int)+1:=by omega
   have j2:(j:Int)<10:=by omega
   have j10:j<10:=by omega
   have ea:=and3G j j10;have mb:=make_b56 wr;have FKa:=hid (FK.out.below (show Below wr.heap.size wr (wr.alloc (.cells (u8s (List.replicate 56 0)).toArray 5)) from(Below.refl _ _).alloc (Nat.le_refl _) _));have KB0:=hid (Blk.new wr 5 (u8s (List.replicate 56 0)));have HLB:=hid FK.out.bel.size
   go_upto_region 6 with(fail)
   clear mb;refine world_at (λZ=>FK9 w Z x∧Blk Z wr.heap.size 5 (u8s (List.replicate 56 0))) ⟨FKa.out,KB0.out⟩ ?_
   rintro Z ⟨z1,z2⟩
   have HNE:=hid (show ∀ y∈x.ks,∀ a:Addr,y.A=some a→a.block≠wr.heap.size from λy hy a ha e=>by
    obtain⟨b,h1,h2,h3⟩:=FK.out.nk y hy;rw[h1] at ha
    injection ha with ha
    subst ha;have:=h3.lt;have e':b=wr.heap.size:=e;omega)
   have HKB:=hid (show w.heap.size+1<wr.heap.size from FK.out.bx.lt);obtain⟨kb,hkb⟩:∃ b,wr.heap.size=b:=⟨_,rfl⟩;rw[hkb] at z2 HNE HKB ⊢;have f3:=z2.frozen 3;have f7:=z2.frozen 7;have f20:=z2.frozen 20;have c3:Z.cell? ⟨kb,3,none⟩=some (.int .u8 0):=z2.cell 3;have c7:Z.cell? ⟨kb,7,none⟩=some (.int .u8 0):=z2.cell 7;have c20:Z.cell? ⟨kb,20,none⟩=some (.int .u8 0):=z2.cell 20;have Z1:=hid z1;have Z2:=hid z2;have w1:IntKind.u8.wrap (1+((j % 4:Nat):Int))=((1+j % 4:Nat):Int):=by
    have hc:j % 4=0∨j % 4=1∨j % 4=2∨j % 4=3:=by omega
    rcases hc with h |h |h |h<;>rw[h]<;>rfl
   have w2:IntKind.u8.wrap (j:Int)=(j:Int):=by
    have hc:j=0∨j=1∨j=2∨j=3∨j=4∨j=5∨j=6∨j=7∨j=8∨j=9:=by omega
    rcases hc with rfl |rfl |rfl |rfl |rfl |rfl |rfl |rfl |rfl |rfl<;>rfl
   clear z1 z2 FKa KB0 FK HLB hkb;have kz:Kept (λk=>k=kb) Z (((Z.setCell ⟨kb,3,none⟩ (.int .u8 5)).setCell ⟨kb,7,none⟩ (.int .u8 (1+(j:Int) % 4))).setCell ⟨kb,20,none⟩ (.int .u8 (j:Int))):=Kept.setCell (F:=λk=>k=kb) (Kept.setCell (F:=λk=>k=kb) (Kept.setCell (F:=λk=>k=kb) (Kept.refl _ _) (p:=⟨kb,3,none⟩) (.inl rfl) _) (p:=⟨kb,7,none⟩) (.inl rfl) _) (p:=⟨kb,20,none⟩) (.inl rfl) _;have BK:=hid (show Blk (((Z.setCell ⟨kb,3,none⟩ (.int .u8 5)).setCell ⟨kb,7,none⟩ (.int .u8 (1+(j:Int) % 4))).setCell ⟨kb,20,none⟩ (.int .u8 (j:Int))) kb 5 (u8s (fakeX j)) from by
    have h:=((Z2.out.store 3 (.int .u8 ((5:Nat):Int))).store 7 (.int .u8 ((1+j % 4:Nat):Int))).store 20 (.int .u8 ((j:Nat):Int));rw[u8s_set,u8s_set,u8s_set,show((1+j % 4:Nat):Int)=1+(j:Int) % 4 by omega] at h;exact h)
   have FK5:=hid (Z1.out.write kz HKB.out Z2.out HNE.out);clear kz
   go_upto_region 7 with(fail)
   clear f3 f7 f20 c3 c7 c20 w1 w2 ea Z1 Z2 HNE;obtain⟨Z5,hZ5⟩:∃ V,(((Z.setCell ⟨kb,3,none⟩ (.int .u8 5)).setCell ⟨kb,7,none⟩ (.int .u8 (1+(j:Int) % 4))).setCell ⟨kb,20,none⟩ (.int .u8 (j:Int)))=V:=⟨_,rfl⟩;rw[hZ5] at BK FK5 ⊢;clear hZ5;obtain⟨y,hy⟩:∃ y:Ky,(⟨some ⟨kb,0,none⟩,56,fakeX j⟩:Ky)=y:=⟨_,rfl⟩;have HY:=hid hy;have KV:=hid (show kyv y=[.slice (some ⟨kb,0,none⟩) 56 56] from by rw[←hy];unfold kyv;rw[fakeX_len]);have NY:=hid (show NK Z5 w.heap.size y from by rw[←hy];exact⟨kb,rfl,by have:=HKB.out;omega,BK.out⟩);clear hy BK;have cg:Z5.cell? ⟨w.heap.size+1,3,none⟩=some (.slice x.kp x.ks.length x.kc):=(gv_cells FK5.out.bx).2.2.2.1;have BA:=hid ((Below.refl Z5.heap.size Z5).alloc (Nat.le_refl _) (.cells #[.slice (some ⟨kb,0,none⟩) 56 56] 23));have R3:=hid (FK5.out.below BA.out);have NY3:=hid (NY.out.below BA.out);have Q1:=hid (show RowL (Z5.alloc (.cells #[.slice (some ⟨kb,0,none⟩) 56 56] 23)) (some ⟨Z5.heap.size,0,none⟩) 1 kyv [y] from by
    have h:=row_one kyv 1 y Z5 23;rw[KV.out] at h;exact h)
   have O1:=hid R3.out.ow;have HBS:=hid (show w.heap.size≤(Z5.alloc (.cells #[.slice (some ⟨kb,0,none⟩) 56 56] 23)).heap.size from R3.out.bel.size);have LL:=hid (show x.ks.length+1≤1000000 from by have:=HLN.out;omega)
   go_wp2_with ((with_reducible refine at_op (.call { callee:= .builtin .append,args:= #[.tmp 39,.tmp 41],argTypes:= #[22,22] }) rfl ?_);go_must (refine append_rows (.tmp 39) (.tmp 41) 22 rfl rfl 23 Tryz.underlying22 infoKs rfl (by decide) (by decide) kyv_len kyv_one w.heap.size (.slice x.kp x.ks.length x.kc) x.ks.length (x.ks.flatMap kyv) rfl O1.out (some ⟨Z5.heap.size,0,none⟩) 1 1 rfl [y] rfl Q1.out LL.out HBS.out ?_);intro v1 w9 h2 h3 h5 h6;obtain⟨ip9,ic9,hv9,_⟩:=own_form h2.out;subst hv9;have r9:=R3.out.grow NY3.out h2.out h3.out;have fz:=r9.1.frozen 3;have ct:w9.cell? ⟨w.heap.size+1,3,none⟩=some (.slice x.kp x.ks.length x.kc):=(gv_cells r9.1).2.2.2.1;have R9:=hid r9.2;clear r9 h2 h3 h5 h6)
   go_roundw
   case rel=>
    refine⟨j+1, { x with ks:=x.ks++[y],kp:=ip9,kc:=ic9 },by omega,by go_num,R9.out,?_,HSP.out.1,HSP.out.2,λz hz=>by
     rcases List.mem_append.1 hz with h |h
     ·exact HGC.out z h
     ·rw[List.mem_singleton.1 h,←HY.out]
      dsimp only
      rw[fakeX_len];exact Nat.le_refl _⟩
    have h:=HGE.out;unfold Gv.ge at h ⊢;simp only[Ge.mk.injEq] at h ⊢;obtain⟨h1,h2,h3,h4,h5⟩:=h;refine⟨h1,h2,h3,?_,h5⟩;rw[List.map_append,h4,List.range_succ,List.map_append,←HY.out];rfl
   case measure=>simp[intOf];omega
  ·obtain rfl:j=n:=by omega
   have j1:decide ((j:Int)<3 * (f:Int)+1)=false:=decide_eq_false (by omega);have RES:=hid FK.out.res;have GBX:=hid FK.out.bx;have FY:=hid (gv_size x);have FYO:=hid (gv_one x);have RZ:=hid (FK.out.res.setRow (gv x));have BF:=hid (below_setRow FK.out.bel (Nat.le_refl _) (gv x).toArray);have hks:x.ks.map (·.X)=(List.range j).map fakeX:=by have h:=congrArg (λe=>e.ks) HGE.out;exact h
   have hst:x.st=[]:=by have h:=congrArg (λe=>e.st) HGE.out;exact h
   have KW:=hid (show GvW (wr.setRow w.heap.size (gv x).toArray) x from by
    have hk:Kept (λk=>k=w.heap.size) wr (wr.setRow w.heap.size (gv x).toArray):=Kept.setRowK (F:=λk=>k=w.heap.size) (Kept.refl _ _) (.inl rfl) _;have hX:∀ y∈x.ks,∃ i,i<10∧y.X=fakeX i:=λy hy=>by
     have h:y.X∈x.ks.map (·.X):=List.mem_map_of_mem hy;rw[hks] at h;obtain⟨i,hi,e⟩:=List.mem_map.1 h;exact⟨i,by have:=List.mem_range.1 hi;omega,e.symm⟩
    refine⟨RowL.of_own kyv_len rfl (own_kept FK.out.ow hk (λk hk' e=>own_apart FK.out.ow FK.out.res (by decide) (by rw[hk',e]))),λy hy=>?_,λy hy=>?_,λy hy=>?_,by rw[HLN.out];omega,by rw[hst];exact Sr.nil,by rw[hst];exact nil_bytes,by rw[hst];exact Nat.zero_le _,by rw[hst];exact Nat.zero_le _⟩
    ·obtain⟨b,h1,h2,h3⟩:=FK.out.nk y hy;exact NK.sr (B:=w.heap.size) ⟨b,h1,h2,h3.kept hk (h3.apart FK.out.res (by decide))⟩
    ·obtain⟨i,hi,e⟩:=hX y hy;rw[e];exact fakeX_bytes i hi
    ·obtain⟨i,hi,e⟩:=hX y hy;rw[e,fakeX_len];decide)
   have OW:=hid (show(wr.setRow w.heap.size (gv x).toArray).ownsRow w.heap.size 23 1 (.slice x.kp x.ks.length x.kc) x.ks.length (x.ks.flatMap kyv) from
    own_kept FK.out.ow (Kept.setRowK (F:=λk=>k=w.heap.size) (Kept.refl _ _) (.inl rfl) _) (λk hk' e=>own_apart FK.out.ow FK.out.res (by decide) (by rw[hk',e])))
   have NKS:=hid (show ∀ z∈x.ks,NK (wr.setRow w.heap.size (gv x).toArray) w.heap.size z from λz hz=>by
    obtain⟨b,h1,h2,h3⟩:=FK.out.nk z hz;exact⟨b,h1,h2,h3.kept (Kept.setRowK (F:=λk=>k=w.heap.size) (Kept.refl _ _) (.inl rfl) _) (h3.apart FK.out.res (by decide))⟩)
   clear hlt hks hst FK
   go_wp2_with (first
    |((with_reducible refine load_blk 25 (.tmp 7) (w.heap.size+1) 25 (gv x) _ rfl rfl ?_ Tryz.underlying25 ?_ ?_ ?_ ?_);exact GBX.out;exact rfl;exact FY.out;exact rfl)
    |((with_reducible refine at_op (.store 25 (.tmp 6) (.tmp 44)) rfl ?_);go_must (refine store_blk 25 (.tmp 6) (.tmp 44) w.heap.size 25 _ (gv x) rfl rfl RES.out rfl FY.out FYO.out rfl rfl ?_)))
   exact ret_blk (p:=6) (ty:=25) rfl rfl w.heap.size 25 _ _ rfl RZ.out Tryz.underlying25 rfl FY.out ⟨x,HGE.out,rfl,KW.out,OW.out,NKS.out,HGC.out,BF.out⟩
end Go.Proofs.YtlipjglehongeaaGreatDoor
