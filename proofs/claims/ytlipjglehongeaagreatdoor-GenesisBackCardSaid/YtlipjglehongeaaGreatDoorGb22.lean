/-
  LAYER 10's laws
  LAYER 10's laws
  Small things that the laws of layer 10 want (picked out of t
-/
import Derived.Test.YtlipjglehongeaaGreatDoorGb21
import Derived.Deep.CutBlock
open Go.Lib (hid)
set_option maxRecDepth 100000
namespace Go.Proofs.YtlipjglehongeaaGreatDoor
open Go Go.RowKit Sh
def fakeX (i:Nat):List Nat:=(((List.replicate 56 0).set 3 5).set 7 (1+i % 4)).set 20 i
theorem fakeX_len (i:Nat):(fakeX i).length=56:=by simp[fakeX]
theorem fakeX_form (i:Nat) (h:i<10):formN (fakeX i)=true:=by
 have hc:i=0∨i=1∨i=2∨i=3∨i=4∨i=5∨i=6∨i=7∨i=8∨i=9:=by omega
 rcases hc with rfl |rfl |rfl |rfl |rfl |rfl |rfl |rfl |rfl |rfl<;>rfl
theorem fakeX_bytes (i:Nat) (h:i<10):Bytes (fakeX i):=by
 have hc:i=0∨i=1∨i=2∨i=3∨i=4∨i=5∨i=6∨i=7∨i=8∨i=9:=by omega
 rcases hc with rfl |rfl |rfl |rfl |rfl |rfl |rfl |rfl |rfl |rfl<;>exact sl_bytes (by decide)
theorem make_b56 (w:World):(Instr.makeSlice 23 (.int .i64 56) (.int .i64 56)).run Tryz.prog w= .ok (.slice (some ⟨w.heap.size,0,none⟩) 56 56) (w.alloc (.cells (u8s (List.replicate 56 0)).toArray 5)):=by
 have hinfo:(Tryz.prog.info? 5).map (λi=>(i.zero,i.size,i.bytes))=some (some (.int .u8 0),1,1):=by kernel_rfl
 obtain⟨i,hi,hzz⟩:=Option.map_eq_some_iff.1 hinfo;simp only[Prod.mk.injEq] at hzz;obtain⟨hz,hs,hb⟩:=hzz;have hr:=run_make (P:=Tryz.prog) w 23 5 i (.int .u8 0) Tryz.underlying23 hi hz .i64 .i64 56 56 (by omega) (Int.le_refl _) (by rw[hb];decide) (by decide);rw[show(56:Int).toNat=56 from rfl,hs,show madeCells (Value.int .u8 0).cells (56 * 1)=(u8s (List.replicate 56 0)).toArray from by kernel_rfl] at hr;exact hr
theorem and3G (i:Nat) (h:i<10):bits .and .i64 (i:Int) 3=((i % 4:Nat):Int):=by
 have hc:i=0∨i=1∨i=2∨i=3∨i=4∨i=5∨i=6∨i=7∨i=8∨i=9:=by omega
 rcases hc with rfl |rfl |rfl |rfl |rfl |rfl |rfl |rfl |rfl |rfl<;>rfl
def NK (W:World) (B:Nat) (y:Ky):Prop:=∃ b,y.A=some ⟨b,0,none⟩∧B≤b∧Blk W b 5 (u8s y.X)
structure FK9 (w0 W:World) (x:Gv):Prop where
 res:Blk W w0.heap.size 25 (gv zGv)
 bx:Blk W (w0.heap.size+1) 25 (gv x)
 ow:W.ownsRow w0.heap.size 23 1 (.slice x.kp x.ks.length x.kc) x.ks.length (x.ks.flatMap kyv)
 nk:∀ y∈x.ks,NK W w0.heap.size y
 bel:Below w0.heap.size w0 W
theorem NK.below {W W':World} {B:Nat} {y:Ky} (h:NK W B y) (hb:Below W.heap.size W W'):NK W' B y:=by
 obtain⟨b,h1,h2,h3⟩:=h;exact⟨b,h1,h2,h3.below hb h3.lt⟩
theorem NK.sr {W:World} {B:Nat} {y:Ky} (h:NK W B y):Sr W y.A y.X:=by
 obtain⟨b,h1,h2,h3⟩:=h;rw[h1];exact λ_=>⟨b,0,rfl,h3.lt,λj hj=>by rw[Nat.zero_add,h3.cell];exact u8s_get _ _ hj⟩
theorem FK9.below {w0 W W':World} {x:Gv} (h:FK9 w0 W x) (hb:Below W.heap.size W W'):FK9 w0 W' x:=
 ⟨h.res.below hb h.res.lt,h.bx.below hb h.bx.lt,own_below h.ow hb,λy hy=>(h.nk y hy).below hb,h.bel.trans (hb.mono h.bel.size)⟩
theorem FK9.write {w0 W W':World} {x:Gv} {kb:Nat} {cs:List Value} (h:FK9 w0 W x) (hk:Kept (λk=>k=kb) W W') (hb:w0.heap.size+1<kb) (hu:Blk W kb 5 cs) (hn:∀ y∈x.ks,∀ a:Addr,y.A=some a→a.block≠kb):FK9 w0 W' x:=by
 refine⟨h.res.kept hk (by omega),h.bx.kept hk (by omega),own_kept h.ow hk (λk hk' e=>own_apart h.ow hu (by decide) (by rw[hk',e])),λy hy=>?_,kept_below h.bel hk (by omega)⟩;obtain⟨b,h1,h2,h3⟩:=h.nk y hy;exact⟨b,h1,h2,h3.kept hk (hn y hy _ h1)⟩
theorem infoKs:(Tryz.prog.info? 23).map (λi=>(i.zero,i.size,i.bytes))=some (some (.slice none 0 0),1,24):=by kernel_rfl
theorem FK9.grow {w0 W W':World} {x:Gv} {y:Ky} {kp':Option Addr} {kc':Nat} (h:FK9 w0 W x) (hy:NK W w0.heap.size y) (ho:W'.ownsRow w0.heap.size 23 1 (.slice kp' (x.ks.length+1) kc') (x.ks.length+1) (x.ks.flatMap kyv++[y].flatMap kyv)) (hr:W.grownBy W' (Value.slice x.kp x.ks.length x.kc).ownBlock):
  Blk W' (w0.heap.size+1) 25 (gv x)∧FK9 w0 (W'.setCell ⟨w0.heap.size+1,3,none⟩ (.slice kp' (x.ks.length+1) kc')) { x with ks:=x.ks++[y],kp:=kp',kc:=kc' } :=by
 have k:Kept (λk=>(Value.slice x.kp x.ks.length x.kc).ownBlock=some k) W W':=(Kept.refl _ W).grown hr (λk e=> .inl e);have hge:∀ i,(Value.slice x.kp x.ks.length x.kc).ownBlock=some i→w0.heap.size≤i:=λi hi=>(h.ow.lt i hi).1
 have b1:=h.res.kept k (λe=>own_apart h.ow h.res (by decide) e);have b2:=h.bx.kept k (λe=>own_apart h.ow h.bx (by decide) e);have nk:∀ z,NK W w0.heap.size z→NK W' w0.heap.size z:=λz hz=>by
  obtain⟨b,h1,h2,h3⟩:=hz;exact⟨b,h1,h2,h3.kept k (λe=>own_apart h.ow h3 (by decide) e)⟩
 have bel':Below w0.heap.size w0 W':=h.bel.trans ((k.mono hge).to_below h.bel.size);refine⟨b2,?_⟩;have hk:Kept (λk=>k=w0.heap.size+1) W' (W'.setCell ⟨w0.heap.size+1,3,none⟩ (.slice kp' (x.ks.length+1) kc')):=Kept.setCell (F:=λk=>k=w0.heap.size+1) (Kept.refl _ _) (p:=⟨w0.heap.size+1,3,none⟩) (.inl rfl) _;refine⟨b1.kept hk (by omega),?_,?_,λz hz=>?_,kept_below bel' hk (by omega)⟩
 ·have:=b2.store 3 (.slice kp' (x.ks.length+1) kc');rw[show gv { x with ks:=x.ks++[y],kp:=kp',kc:=kc' } =(gv x).set 3 (.slice kp' (x.ks.length+1) kc') by simp[gv]];exact this
 ·refine own_kept ?_ hk (λk hk' e=>own_apart ho b2 (by decide) (by rw[show(x.ks++[y]).length=x.ks.length+1 by simp] at hk';rw[hk',e]));rw[show(x.ks++[y]).length=x.ks.length+1 by simp,List.flatMap_append];exact ho
 ·have hz':NK W w0.heap.size z:=by
   rcases List.mem_append.1 hz with h1 |h1
   ·exact h.nk z h1
   ·rw[List.mem_singleton.1 h1];exact hy
  obtain⟨b,h1,h2,h3⟩:=nk z hz';exact⟨b,h1,h2,h3.kept hk (h3.apart b2 (by decide))⟩
set_option maxHeartbeats 2000000 in
theorem fakeO_t (f:Nat) (rd wr:Int) (hf:f≤3) (w:World):
  Calls Tryz.prog 27 #[.int .i64 (f:Int),.int .i64 rd,.int .i64 wr] w λe w'=>∃ y:Gv,y.ge=⟨(f:Int),rd,wr,(List.range (3 * f+1)).map fakeX,[]⟩∧e= .returned (.agg (gv y).toArray)∧GvW w' y∧w'.ownsRow w.heap.size 23 1 (.slice y.kp y.ks.length y.kc) y.ks.length (y.ks.flatMap kyv)∧(∀ z∈y.ks,NK w' w.heap.size z)∧Below w.heap.size w w':=by
 have BG:=built_g9 (f:Int) rd wr;have F0:=hid (show FK9 w ((w.alloc (.cells (gv zGv).toArray 25)).alloc (.cells (gv ⟨(f:Int),rd,wr,none,0,[],none,0,[]⟩).toArray 25)) ⟨(f:Int),rd,wr,none,0,[],none,0,[]⟩ from
  ⟨(Blk.new w 25 (gv zGv)).alloc _,Blk.new2 w _ 25 _,World.ownsRow_nil _ _ _ _,(λy hy=>by cases hy),((Below.refl _ _).alloc (Nat.le_refl _) _).alloc (by simp) _⟩)
 obtain⟨n,hn⟩:∃ n,3 * f+1=n:=⟨_,rfl⟩;have n10:n≤10:=by omega
 have hn3:(3 * (f:Int)+1)=(n:Int):=by omega
 rw[hn]
 go_enter Tryz.func27,Tryz.ntmps27
 go_upto_region 2 with(fail)
 refine world_at (λY=>FK9 w Y ⟨(f:Int),rd,wr,none,0,[],none,0,[]⟩) F0.out ?_
 rintro V f1
 have F1:=hid f1;clear f1 F0 BG;go_wp2_with fail
 go_loopw [8] (λt wq=>∃ (j:Nat) (x:Gv),j≤n∧t= .int .i64 (j:Int)∧FK9 w wq x∧x.ge=⟨(f:Int),rd,wr,(List.range j).map fakeX,[]⟩∧x.sp=none∧x.sc=0) (λt _=>n- (intOf t).toNat)
 case atStart=>exact⟨0,_,by omega,rfl,F1.out,rfl,rfl,rfl⟩
 case round=>
  clear F1;obtain⟨j,x,hj,rfl,fk,hge,hsp,hsc⟩:=hrel;have FK:=hid fk;have HGE:=hid hge;have HSP:=hid (And.intro hsp hsc);have HLN:=hid (show x.ks.length=j from by
   have h:=congrArg (λe=>e.ks.length) hge
   simpa [Gv.ge] using h)
  clear fk hge hsp hsc
  by_cases hlt:j<n
  ·have j1:(j:Int)< (n:Int):=by omega
   have j1b:(j:Int)<3 * (f:Int)+1:=by omega
   have j2:(j:Int)<10:=by omega
   have j10:j<10:=by omega
   have ea:=and3G j j10;have mb:=make_b56 wr;have FKa:=hid (FK.out.below (show Below wr.heap.size wr (wr.alloc (.cells (u8s (List.replicate 56 0)).toArray 5)) from(Below.refl _ _).alloc (Nat.le_refl _) _));have KB0:=hid (Blk.new wr 5 (u8s (List.replicate 56 0)));have HLB:=hid FK.out.bel.size
   go_upto_region 6 with(fail)
   clear mb;refine world_at (λZ=>FK9 w Z x∧Blk Z wr.heap.size 5 (u8s (List.replicate 56 0))) ⟨FKa.out,KB0.out⟩ ?_
   rintro Z ⟨z1,z2⟩
   have HNE:=hid (show ∀ y∈x.ks,∀ a:Addr,y.A=some a→a.block≠wr.heap.size from λy hy a ha e=>by
    obtain⟨b,h1,h2,h3⟩:=FK.out.nk y hy;rw[h1] at ha
    injection ha with ha
    subst ha;have:=h3.lt;have e':b=wr.heap.size:=e;omega)
   have HKB:=hid (show w.heap.size+1<wr.heap.size from FK.out.bx.lt);obtain⟨kb,hkb⟩:∃ b,wr.heap.size=b:=⟨_,rfl⟩;rw[hkb] at z2 HNE HKB ⊢;have f3:=z2.frozen 3;have f7:=z2.frozen 7;have f20:=z2.frozen 20;have c3:Z.cell? ⟨kb,3,none⟩=some (.int .u8 0):=z2.cell 3;have c7:Z.cell? ⟨kb,7,none⟩=some (.int .u8 0):=z2.cell 7;have c20:Z.cell? ⟨kb,20,none⟩=some (.int .u8 0):=z2.cell 20;have Z1:=hid z1;have Z2:=hid z2;have w1:IntKind.u8.wrap (1+((j % 4:Nat):Int))=((1+j % 4:Nat):Int):=by
    have hc:j % 4=0∨j % 4=1∨j % 4=2∨j % 4=3:=by omega
    rcases hc with h |h |h |h<;>rw[h]<;>rfl
   have w2:IntKind.u8.wrap (j:Int)=(j:Int):=by
    have hc:j=0∨j=1∨j=2∨j=3∨j=4∨j=5∨j=6∨j=7∨j=8∨j=9:=by omega
    rcases hc with rfl |rfl |rfl |rfl |rfl |rfl |rfl |rfl |rfl |rfl<;>rfl
   clear z1 z2 FKa KB0 FK HLB hkb;have kz:Kept (λk=>k=kb) Z (((Z.setCell ⟨kb,3,none⟩ (.int .u8 5)).setCell ⟨kb,7,none⟩ (.int .u8 (1+(j:Int) % 4))).setCell ⟨kb,20,none⟩ (.int .u8 (j:Int))):=Kept.setCell (F:=λk=>k=kb) (Kept.setCell (F:=λk=>k=kb) (Kept.setCell (F:=λk=>k=kb) (Kept.refl _ _) (p:=⟨kb,3,none⟩) (.inl rfl) _) (p:=⟨kb,7,none⟩) (.inl rfl) _) (p:=⟨kb,20,none⟩) (.inl rfl) _;have BK:=hid (show Blk (((Z.setCell ⟨kb,3,none⟩ (.int .u8 5)).setCell ⟨kb,7,none⟩ (.int .u8 (1+(j:Int) % 4))).setCell ⟨kb,20,none⟩ (.int .u8 (j:Int))) kb 5 (u8s (fakeX j)) from by
    have h:=((Z2.out.store 3 (.int .u8 ((5:Nat):Int))).store 7 (.int .u8 ((1+j % 4:Nat):Int))).store 20 (.int .u8 ((j:Nat):Int));rw[u8s_set,u8s_set,u8s_set,show((1+j % 4:Nat):Int)=1+(j:Int) % 4 by omega] at h;exact h)
   have FK5:=hid (Z1.out.write kz HKB.out Z2.out HNE.out);clear kz
   go_upto_region 7 with(fail)
   clear f3 f7 f20 c3 c7 c20 w1 w2 ea Z1 Z2 HNE;obtain⟨Z5,hZ5⟩:∃ V,(((Z.setCell ⟨kb,3,none⟩ (.int .u8 5)).setCell ⟨kb,7,none⟩ (.int .u8 (1+(j:Int) % 4))).setCell ⟨kb,20,none⟩ (.int .u8 (j:Int)))=V:=⟨_,rfl⟩;rw[hZ5] at BK FK5 ⊢;clear hZ5;obtain⟨y,hy⟩:∃ y:Ky,(⟨some ⟨kb,0,none⟩,56,fakeX j⟩:Ky)=y:=⟨_,rfl⟩;have HY:=hid hy;have KV:=hid (show kyv y=[.slice (some ⟨kb,0,none⟩) 56 56] from by rw[←hy];unfold kyv;rw[fakeX_len]);have NY:=hid (show NK Z5 w.heap.size y from by rw[←hy];exact⟨kb,rfl,by have:=HKB.out;omega,BK.out⟩);clear hy BK;have cg:Z5.cell? ⟨w.heap.size+1,3,none⟩=some (.slice x.kp x.ks.length x.kc):=(gv_cells FK5.out.bx).2.2.2.1;have BA:=hid ((Below.refl Z5.heap.size Z5).alloc (Nat.le_refl _) (.cells #[.slice (some ⟨kb,0,none⟩) 56 56] 23));have R3:=hid (FK5.out.below BA.out);have NY3:=hid (NY.out.below BA.out);have Q1:=hid (show RowL (Z5.alloc (.cells #[.slice (some ⟨kb,0,none⟩) 56 56] 23)) (some ⟨Z5.heap.size,0,none⟩) 1 kyv [y] from by
    have h:=row_one kyv 1 y Z5 23;rw[KV.out] at h;exact h)
   have O1:=hid R3.out.ow;have HBS:=hid (show w.heap.size≤(Z5.alloc (.cells #[.slice (some ⟨kb,0,none⟩) 56 56] 23)).heap.size from R3.out.bel.size);have LL:=hid (show x.ks.length+1≤1000000 from by have:=HLN.out;omega)
   go_wp2_with ((with_reducible refine at_op (.call { callee:= .builtin .append,args:= #[.tmp 39,.tmp 41],argTypes:= #[22,22] }) rfl ?_);go_must (refine append_rows (.tmp 39) (.tmp 41) 22 rfl rfl 23 Tryz.underlying22 infoKs rfl (by decide) (by decide) kyv_len kyv_one w.heap.size (.slice x.kp x.ks.length x.kc) x.ks.length (x.ks.flatMap kyv) rfl O1.out (some ⟨Z5.heap.size,0,none⟩) 1 1 rfl [y] rfl Q1.out LL.out HBS.out ?_);intro v1 w9 h2 h3 h5 h6;obtain⟨ip9,ic9,hv9,_⟩:=own_form h2.out;subst hv9;have r9:=R3.out.grow NY3.out h2.out h3.out;have fz:=r9.1.frozen 3;have ct:w9.cell? ⟨w.heap.size+1,3,none⟩=some (.slice x.kp x.ks.length x.kc):=(gv_cells r9.1).2.2.2.1;have R9:=hid r9.2;clear r9 h2 h3 h5 h6)
   go_roundw
   case rel=>
    refine⟨j+1, { x with ks:=x.ks++[y],kp:=ip9,kc:=ic9 },by omega,by go_num,R9.out,?_,HSP.out.1,HSP.out.2⟩;have h:=HGE.out;unfold Gv.ge at h ⊢;simp only[Ge.mk.injEq] at h ⊢;obtain⟨h1,h2,h3,h4,h5⟩:=h;refine⟨h1,h2,h3,?_,h5⟩;rw[List.map_append,h4,List.range_succ,List.map_append,←HY.out];rfl
   case measure=>simp[intOf];omega
  ·obtain rfl:j=n:=by omega
   have j1:decide ((j:Int)<3 * (f:Int)+1)=false:=decide_eq_false (by omega);have RES:=hid FK.out.res;have GBX:=hid FK.out.bx;have FY:=hid (gv_size x);have FYO:=hid (gv_one x);have RZ:=hid (FK.out.res.setRow (gv x));have BF:=hid (below_setRow FK.out.bel (Nat.le_refl _) (gv x).toArray);have hks:x.ks.map (·.X)=(List.range j).map fakeX:=by have h:=congrArg (λe=>e.ks) HGE.out;exact h
   have hst:x.st=[]:=by have h:=congrArg (λe=>e.st) HGE.out;exact h
   have KW:=hid (show GvW (wr.setRow w.heap.size (gv x).toArray) x from by
    have hk:Kept (λk=>k=w.heap.size) wr (wr.setRow w.heap.size (gv x).toArray):=Kept.setRowK (F:=λk=>k=w.heap.size) (Kept.refl _ _) (.inl rfl) _;have hX:∀ y∈x.ks,∃ i,i<10∧y.X=fakeX i:=λy hy=>by
     have h:y.X∈x.ks.map (·.X):=List.mem_map_of_mem hy;rw[hks] at h;obtain⟨i,hi,e⟩:=List.mem_map.1 h;exact⟨i,by have:=List.mem_range.1 hi;omega,e.symm⟩
    refine⟨RowL.of_own kyv_len rfl (own_kept FK.out.ow hk (λk hk' e=>own_apart FK.out.ow FK.out.res (by decide) (by rw[hk',e]))),λy hy=>?_,λy hy=>?_,λy hy=>?_,by rw[HLN.out];omega,by rw[hst];exact Sr.nil,by rw[hst];exact nil_bytes,by rw[hst];exact Nat.zero_le _,by rw[hst];exact Nat.zero_le _⟩
    ·obtain⟨b,h1,h2,h3⟩:=FK.out.nk y hy;exact NK.sr (B:=w.heap.size) ⟨b,h1,h2,h3.kept hk (h3.apart FK.out.res (by decide))⟩
    ·obtain⟨i,hi,e⟩:=hX y hy;rw[e];exact fakeX_bytes i hi
    ·obtain⟨i,hi,e⟩:=hX y hy;rw[e,fakeX_len];decide)
   have OW:=hid (show(wr.setRow w.heap.size (gv x).toArray).ownsRow w.heap.size 23 1 (.slice x.kp x.ks.length x.kc) x.ks.length (x.ks.flatMap kyv) from
    own_kept FK.out.ow (Kept.setRowK (F:=λk=>k=w.heap.size) (Kept.refl _ _) (.inl rfl) _) (λk hk' e=>own_apart FK.out.ow FK.out.res (by decide) (by rw[hk',e])))
   have NKS:=hid (show ∀ z∈x.ks,NK (wr.setRow w.heap.size (gv x).toArray) w.heap.size z from λz hz=>by
    obtain⟨b,h1,h2,h3⟩:=FK.out.nk z hz;exact⟨b,h1,h2,h3.kept (Kept.setRowK (F:=λk=>k=w.heap.size) (Kept.refl _ _) (.inl rfl) _) (h3.apart FK.out.res (by decide))⟩)
   clear hlt hks hst FK
   go_wp2_with (first
    |((with_reducible refine load_blk 25 (.tmp 7) (w.heap.size+1) 25 (gv x) _ rfl rfl ?_ Tryz.underlying25 ?_ ?_ ?_ ?_);exact GBX.out;exact rfl;exact FY.out;exact rfl)
    |((with_reducible refine at_op (.store 25 (.tmp 6) (.tmp 44)) rfl ?_);go_must (refine store_blk 25 (.tmp 6) (.tmp 44) w.heap.size 25 _ (gv x) rfl rfl RES.out rfl FY.out FYO.out rfl rfl ?_)))
   exact ret_blk (p:=6) (ty:=25) rfl rfl w.heap.size 25 _ _ rfl RZ.out Tryz.underlying25 rfl FY.out ⟨x,HGE.out,rfl,KW.out,OW.out,NKS.out,BF.out⟩
theorem fake_t (f:Nat) (rd wr:Int) (hf:f≤3) (w:World):
  Calls Tryz.prog 27 #[.int .i64 (f:Int),.int .i64 rd,.int .i64 wr] w λe w'=>∃ y:Gv,y.ge=⟨(f:Int),rd,wr,(List.range (3 * f+1)).map fakeX,[]⟩∧e= .returned (.agg (gv y).toArray)∧GvW w' y∧Below w.heap.size w w':=
 (fakeO_t f rd wr hf w).mono λ_ _ ⟨y,h1,h2,h3,_,_,h5⟩=>⟨y,h1,h2,h3,h5⟩
def fakeE (f:Nat) (rd wr:Int):Ge:=⟨(f:Int),rd,wr,(List.range (3 * f+1)).map fakeX,[]⟩
theorem fakeE_ok (f:Nat) (rd wr:Int) (hf:f≤2) (h1:alB rd=true) (h2:alB wr=true):begQ (fakeE f rd wr)=true:=by
 unfold begQ fakeE
 dsimp only
 rw[h1,h2];have hk:mayK (f:Int) ((List.range (3 * f+1)).map fakeX)=true:=by
  unfold mayK;rw[List.length_map,List.length_range,decide_eq_true (by omega),Bool.true_and,List.all_eq_true];intro y hy;obtain⟨i,hi,rfl⟩:=List.mem_map.1 hy;exact fakeX_form i (by have:=List.mem_range.1 hi;omega)
 rw[hk];have hf2:fltB (f:Int)=true:=by unfold fltB;rw[decide_eq_true (by omega),decide_eq_true (by omega)];rfl
 rw[hf2];rfl
theorem fakeE_len (f:Nat) (rd wr:Int):(putE (fakeE f rd wr)).length=7+56 * (3 * f+1):=by
 unfold putE putG fakeE
 dsimp only
 have h:(((List.range (3 * f+1)).map fakeX).flatten).length=56 * (3 * f+1):=by
  rw[flat56 (λx hx=>by obtain⟨i,_,rfl⟩:=List.mem_map.1 hx;exact fakeX_len i),List.length_map,List.length_range]
 simp only[List.length_append,beN_length,h,txtN,List.length_nil];omega
theorem putE_bytes {e:Ge} (hk:∀ x∈e.ks,Bytes x) (hs:Bytes e.st):Bytes (putE e):=by
 have hf:∀ l:List (List Nat),(∀ x∈l,Bytes x)→Bytes l.flatten:=λl=>by
  induction l with
  |nil=>intro _;exact nil_bytes
  |cons a l ih=>intro h;rw[List.flatten_cons];exact app_bytes (h a List.mem_cons_self) (ih λy hy=>h y (List.mem_cons_of_mem _ hy))
 exact app_bytes (beN_bytes _ _) (app_bytes (beN_bytes _ _) (app_bytes (beN_bytes _ _) (app_bytes (hf _ hk) (app_bytes (beN_bytes _ _) hs))))
theorem fakeE_bytes (f:Nat) (rd wr:Int) (hf:f≤2):Bytes (putE (fakeE f rd wr)):=putE_bytes (λx hx=>by
 obtain⟨i,hi,rfl⟩:=List.mem_map.1 hx;exact fakeX_bytes i (by have:=List.mem_range.1 hi;omega)) nil_bytes
theorem zG_no:begB zGv=false:=rfl
theorem erP_yes {x:Gv} (h:begQ x.ge=true):erP x=0:=if_pos h
theorem byP_yes {x:Gv} (h:begQ x.ge=true):byP x=putE x.ge:=if_pos h
theorem field_wr (z:Spv) (W:World):(Instr.field 46 (.agg (sv z).toArray) 4).run Tryz.prog W= .ok (.int .i64 z.wr) W:=by
 obtain⟨now,its,ip,ic,wts,wp,wc,rd,wr,last⟩:=z
 kernel_rfl
set_option maxHeartbeats 4000000 in
theorem told10_t (w:World) (hk:KI w):Calls Tryz.prog 10 #[] w λe w'=>e= .returned (.bool true)∧Below w.heap.size w w':=by
 have HK:=hid hk;clear hk
 go_enter Tryz.func10,Tryz.ntmps10
 go_wp2_with fail
 refine(fake_t 0 15 15 (by decide) w).mono ?_
 rintro e w1 ⟨x,hx,rfl,gx,b1⟩
 have hx:x.ge=fakeE 0 15 15:=hx;have FX_x:=hid (gv_size x);have FO_x:=hid (gv_one x);have Z_x:=hid (Blk.new w1 25 (gv zGv));have K_x:=hid (Z_x.out.setRow (gv x));have B_x:=hid (below_setRow ((Below.refl (w1).heap.size w1).alloc (Nat.le_refl _) (.cells (gv zGv).toArray 25)) (Nat.le_refl _) (gv x).toArray)
 go_upto_region 2 with((with_reducible refine at_op (.store 25 (.tmp 1) (.tmp 8)) rfl ?_);go_must (refine store_blk 25 (.tmp 1) (.tmp 8) (w1).heap.size 25 (gv zGv) (gv x) rfl rfl Z_x.out rfl FX_x.out FO_x.out rfl rfl ?_))
 obtain⟨V1,hV1⟩:∃ V,((w1).alloc (.cells (gv zGv).toArray 25)).setRow (w1).heap.size (gv x).toArray=V:=⟨_,rfl⟩;change Code.wp _ _ _ _ (((w1).alloc (.cells (gv zGv).toArray 25)).setRow (w1).heap.size (gv x).toArray);rw[hV1] at K_x B_x ⊢;clear hV1 Z_x FO_x;have GX:=hid (gx.below B_x.out);have HX:=hid hx;have BW:=hid (b1.trans (B_x.out.mono b1.size));obtain⟨g1,hg1⟩:∃ g,w1.heap.size=g:=⟨_,rfl⟩;rw[hg1] at K_x ⊢;clear gx hx b1 B_x hg1;have hq:begQ x.ge=true:=by rw[HX.out];exact fakeE_ok 0 15 15 (by decide) rfl rfl
 have PT:=hid (gPut_t x V1 GX.out (HK.out.kept BW.out));rw[erP_yes hq,byP_yes hq,HX.out] at PT;clear hq
 go_wp2_with ((with_reducible refine load_blk 25 (.tmp 1) g1 25 (gv x) _ rfl rfl ?_ Tryz.underlying25 ?_ ?_ ?_ ?_);exact K_x.out;exact rfl;exact FX_x.out;exact rfl)
 refine PT.out.mono ?_
 rintro e w3 ⟨u,rfl,fr⟩
 obtain⟨xs,hxs⟩:∃ l,putE (fakeE 0 15 15)=l:=⟨_,rfl⟩;rw[hxs] at fr;have XL:=hid (show xs.length=63 from by rw[←hxs,fakeE_len 0 15 15]);have XB:=hid (show Bytes xs from by rw[←hxs];exact fakeE_bytes 0 15 15 (by decide));have OKX:=hid (show gotE xs=fakeE 0 15 15∧okE xs=true from by rw[←hxs];exact frontE_ok (fakeE_ok 0 15 15 (by decide) rfl rfl) (by decide));obtain⟨A,c,hu,hc⟩:=own_form fr.1;have S3:=hid (show Sr w3 A xs from by have h:=fr.1;rw[hu] at h;exact Sr.of_own h);rw[XL.out] at hu;subst hu;have K3:=hid (K_x.out.below fr.2 K_x.out.lt);have GX3:=hid (GX.out.below fr.2);have B3:=hid (BW.out.trans (fr.2.mono BW.out.size));clear fr hxs hc PT K_x GX BW;have GT:=hid (gGet_t xs A 63 c w3 XL.out S3.out XB.out (by decide) (HK.out.kept B3.out));go_wp2_with fail
 refine GT.out.mono ?_
 rintro e w4 ⟨b4,hh⟩
 obtain⟨y,hy,rfl,gy⟩:∃ y:Gv,y.ge=fakeE 0 15 15∧e= .returned (.tuple #[.agg (gv y).toArray,.int .i64 0])∧GvW w4 y:=by
  rcases hh with⟨h1,_⟩ |⟨_,y,h1,h2,h3⟩
  ·rw[OKX.out.2] at h1;cases h1
  ·exact⟨y,h1.trans OKX.out.1,h2,h3⟩
 have K4:=hid (K3.out.below b4 K3.out.lt);have GX4:=hid (GX3.out.below b4);have B4:=hid (B3.out.trans (b4.mono B3.out.size));clear hh GT K3 GX3 B3 b4 S3 OKX XB;have FX_y:=hid (gv_size y);have FO_y:=hid (gv_one y);have Z_y:=hid (Blk.new w4 25 (gv zGv));have K_y:=hid (Z_y.out.setRow (gv y));have B_y:=hid (below_setRow ((Below.refl (w4).heap.size w4).alloc (Nat.le_refl _) (.cells (gv zGv).toArray 25)) (Nat.le_refl _) (gv y).toArray)
 go_upto_region 4 with((with_reducible refine at_op (.store 25 (.tmp 4) (.tmp 17)) rfl ?_);go_must (refine store_blk 25 (.tmp 4) (.tmp 17) (w4).heap.size 25 (gv zGv) (gv y) rfl rfl Z_y.out rfl FX_y.out FO_y.out rfl rfl ?_))
 obtain⟨V4,hV4⟩:∃ V,((w4).alloc (.cells (gv zGv).toArray 25)).setRow (w4).heap.size (gv y).toArray=V:=⟨_,rfl⟩;change Code.wp _ _ _ _ (((w4).alloc (.cells (gv zGv).toArray 25)).setRow (w4).heap.size (gv y).toArray);rw[hV4] at K_y B_y ⊢;clear hV4 Z_y FO_y;have GY:=hid (gy.below B_y.out);have HY:=hid hy;have K5:=hid (K4.out.below B_y.out K4.out.lt);have GX5:=hid (GX4.out.below B_y.out);have B5:=hid (B4.out.trans (B_y.out.mono B4.out.size));obtain⟨g2,hg2⟩:∃ g,w4.heap.size=g:=⟨_,rfl⟩;rw[hg2] at K_y ⊢;clear gy hy B_y hg2 K4 GX4 B4;have BZ:=built_gz;have PZ:=hid (gPut_t zGv V4 (zGv_w V4) (HK.out.kept B5.out));rw[show erP zGv=1 from if_neg (by rw[zG_no];decide)] at PZ;go_wp2_with fail
 refine PZ.out.mono ?_
 rintro e w5 ⟨u,rfl,fr⟩
 have b5:=fr.2;have K6:=hid (K5.out.below b5 K5.out.lt);have KY6:=hid (K_y.out.below b5 K_y.out.lt);have GX6:=hid (GX5.out.below b5);have GY6:=hid (GY.out.below b5);have B6:=hid (B5.out.trans (b5.mono B5.out.size));clear fr b5 K5 K_y GX5 GY B5 PZ;have SM:=hid (gSame_t y x w5 GY6.out GX6.out);rw[HY.out,HX.out,sameE_iff.2 rfl] at SM
 go_wp2_with (first
  |((with_reducible refine load_blk_gdO 36 25 (.tmp 4) g2 25 (gv y) _ ?_ ?_ rfl ?_ Tryz.underlying25 ?_ ?_ ?_ ?_);exact rfl;kernel_rfl;exact KY6.out;exact rfl;exact FX_y.out;exact rfl)
  |((with_reducible refine load_blk_gdO 37 25 (.tmp 1) g1 25 (gv x) _ ?_ ?_ rfl ?_ Tryz.underlying25 ?_ ?_ ?_ ?_);exact rfl;kernel_rfl;exact K6.out;exact rfl;exact FX_x.out;exact rfl))
 refine SM.out.mono ?_
 rintro e w6 ⟨rfl,b6⟩
 have K7:=hid (K6.out.below b6 K6.out.lt);have GX7:=hid (GX6.out.below b6);have B7:=hid (B6.out.trans (b6.mono B6.out.size));clear b6 K6 KY6 GX6 GY6 B6 SM;have MT:=hid (gMay_t x w6 GX7.out (HK.out.kept B7.out));rw[begB_Q,HX.out,fakeE_ok 0 15 15 (by decide) rfl rfl] at MT
 go_wp2_with ((with_reducible refine load_blk_gdO 45 25 (.tmp 1) g1 25 (gv x) _ ?_ ?_ rfl ?_ Tryz.underlying25 ?_ ?_ ?_ ?_);exact rfl;kernel_rfl;exact K7.out;exact rfl;exact FX_x.out;exact rfl)
 refine MT.out.mono ?_
 rintro e w7 ⟨rfl,b7⟩
 have K8:=hid (K7.out.below b7 K7.out.lt);have GX8:=hid (GX7.out.below b7);have B8:=hid (B7.out.trans (b7.mono B7.out.size));clear b7 K7 GX7 B7 MT;obtain⟨S,hS⟩:∃ S,zH=S:=⟨_,rfl⟩;have hSl:S.length=32:=by rw[←hS];rfl
 have eqh2:∀ w,(Op.equalIn 10000 36 (.agg (u8s S).toArray) (.agg #[Value.int IntKind.u8 0,Value.int IntKind.u8 0,Value.int IntKind.u8 0,Value.int IntKind.u8 0,Value.int IntKind.u8 0,Value.int IntKind.u8 0,Value.int IntKind.u8 0,Value.int IntKind.u8 0,Value.int IntKind.u8 0,Value.int IntKind.u8 0,Value.int IntKind.u8 0,Value.int IntKind.u8 0,Value.int IntKind.u8 0,Value.int IntKind.u8 0,Value.int IntKind.u8 0,Value.int IntKind.u8 0,Value.int IntKind.u8 0,Value.int IntKind.u8 0,Value.int IntKind.u8 0,Value.int IntKind.u8 0,Value.int IntKind.u8 0,Value.int IntKind.u8 0,Value.int IntKind.u8 0,Value.int IntKind.u8 0,Value.int IntKind.u8 0,Value.int IntKind.u8 0,Value.int IntKind.u8 0,Value.int IntKind.u8 0,Value.int IntKind.u8 0,Value.int IntKind.u8 0,Value.int IntKind.u8 0,Value.int IntKind.u8 0])).run Tryz.prog w= .ok true w:=λw=>by
  rw[show(Value.agg #[Value.int IntKind.u8 0,Value.int IntKind.u8 0,Value.int IntKind.u8 0,Value.int IntKind.u8 0,Value.int IntKind.u8 0,Value.int IntKind.u8 0,Value.int IntKind.u8 0,Value.int IntKind.u8 0,Value.int IntKind.u8 0,Value.int IntKind.u8 0,Value.int IntKind.u8 0,Value.int IntKind.u8 0,Value.int IntKind.u8 0,Value.int IntKind.u8 0,Value.int IntKind.u8 0,Value.int IntKind.u8 0,Value.int IntKind.u8 0,Value.int IntKind.u8 0,Value.int IntKind.u8 0,Value.int IntKind.u8 0,Value.int IntKind.u8 0,Value.int IntKind.u8 0,Value.int IntKind.u8 0,Value.int IntKind.u8 0,Value.int IntKind.u8 0,Value.int IntKind.u8 0,Value.int IntKind.u8 0,Value.int IntKind.u8 0,Value.int IntKind.u8 0,Value.int IntKind.u8 0,Value.int IntKind.u8 0,Value.int IntKind.u8 0])= .agg (u8s S).toArray from by rw[←hS];rfl];exact eqIn_hash S hSl w
 have AN:=hid (gAnchor_no zGv w7 (zGv_w w7) (HK.out.kept B8.out) zG_no);rw[hS] at AN;have HS:=hid hS;clear hS hSl;go_wp2_with fail
 refine AN.out.mono ?_
 rintro e w8 ⟨rfl,b8⟩
 have K9:=hid (K8.out.below b8 K8.out.lt);have GX9:=hid (GX8.out.below b8);have B9:=hid (B8.out.trans (b8.mono B8.out.size));clear b8 K8 GX8 B8 AN;have LN:=hid (gLink_no zGv w8 (zGv_w w8) (HK.out.kept B9.out) zG_no);rw[HS.out] at LN;go_wp2_with fail
 refine LN.out.mono ?_
 rintro e w9 ⟨rfl,b9⟩
 have K10:=hid (K9.out.below b9 K9.out.lt);have GX10:=hid (GX9.out.below b9);have B10:=hid (B9.out.trans (b9.mono B9.out.size));clear b9 K9 GX9 B9 LN;have FT:=hid (gFirst_t x w9 GX10.out (HK.out.kept B10.out));have hfs:(begS x).wr=15:=by
  have h1:begB x=true:=by rw[begB_Q,HX.out];exact fakeE_ok 0 15 15 (by decide) rfl rfl
  have h2:x.st=[]:=by have h:=congrArg (λe=>e.st) HX.out;exact h
  have h3:x.rd=15:=by have h:=congrArg (λe=>e.rd) HX.out;exact h
  have h4:x.wr=15:=by have h:=congrArg (λe=>e.wr) HX.out;exact h
  unfold begS;rw[if_pos h1,if_pos (by rw[h2];rfl),h3,h4];rfl
 have HFS:=hid hfs;clear hfs
 go_wp2_with ((with_reducible refine load_blk_gdO 61 25 (.tmp 1) g1 25 (gv x) _ ?_ ?_ rfl ?_ Tryz.underlying25 ?_ ?_ ?_ ?_);exact rfl;kernel_rfl;exact K10.out;exact rfl;exact FX_x.out;exact rfl)
 refine FT.out.mono ?_
 rintro e w10 ⟨z,rfl,hz, -,b10⟩
 have HZ:=hid (show z.wr=15 from by have h:=congrArg (λs=>s.wr) hz;exact h.trans HFS.out);have B11:=hid (B10.out.trans (b10.mono B10.out.size));clear b10 hz FT K10 GX10 B10 HFS;have hfl:=field_wr z w10;rw[HZ.out] at hfl;go_wp2_with fail
 go_ret;exact⟨rfl,B11.out⟩
section
variable {P : Program} {ops : Array Oper} {Q : Exit → Act → World → Prop} {md : Region.Mode} {S : World → Prop} {last : Nat → Bool}
end
theorem mod_sX (m:Nat) (hm:0<m) (hm2:m≤1000) (n:Int):∃ k:Nat,k<m∧wrap64 ((IntKind.u64.wrap n).tmod (m:Int))=(k:Int):=by
 have h0:0≤IntKind.u64.wrap n:=by simp[IntKind.wrap,IntKind.bits,IntKind.signed];omega
 rw[Int.tmod_eq_emod_of_nonneg h0]
 generalize IntKind.u64.wrap n=x at *
 have h3:0≤x % (m:Int):=Int.emod_nonneg _ (by omega);have h4:x % (m:Int)< (m:Int):=Int.emod_lt_of_pos _ (by omega);refine⟨(x % (m:Int)).toNat,by omega,?_⟩
 generalize x % (m:Int)=y at *
 unfold wrap64;omega
theorem own_formTX {w:World} {base:Nat} {e:TypeId} {v:Value} {n:Nat} {xs:List Value} (h:w.ownsRow base e 1 v n xs) (hn:0<n):∃ g c,v= .slice (some ⟨g,0,none⟩) n c∧n≤c:=by
 rcases h.2 with⟨_,h0⟩ |⟨g,cap,cur,rfl,_,_,hc,_⟩
 ·omega
 ·exact⟨g,cap,rfl,hc⟩
theorem mod_bigTX (m:Nat) (hm:0<m) (hm2:m≤1000000) (n:Int):∃ k:Nat,k<m∧wrap64 ((IntKind.u64.wrap n).tmod (m:Int))=(k:Int):=by
 have h0:0≤IntKind.u64.wrap n:=by simp[IntKind.wrap,IntKind.bits,IntKind.signed];omega
 rw[Int.tmod_eq_emod_of_nonneg h0]
 generalize IntKind.u64.wrap n=x at *
 have h3:0≤x % (m:Int):=Int.emod_nonneg _ (by omega);have h4:x % (m:Int)< (m:Int):=Int.emod_lt_of_pos _ (by omega);refine⟨(x % (m:Int)).toNat,by omega,?_⟩
 generalize x % (m:Int)=y at *
 unfold wrap64;omega
theorem same_textsTX (xs ys:List Nat) (A B:Option Addr) (n m c d:Nat) (w:World) (hn:xs.length=n) (hm:ys.length=m) (ha:Sr w A xs) (hb:Sr w B ys) (hx:Bytes xs) (hy:Bytes ys):
  Calls Tryz.prog 14 #[.slice A n c,.slice B m d] w λe w'=>e= .returned (.bool (decide (xs=ys)))∧w=w':=by
 have e1:=ha.conv hn c;have e2:=hb.conv hm d;have e3:=str_beqT xs ys hx hy;obtain⟨b,hbb⟩:∃ b,decide (xs=ys)=b:=⟨_,rfl⟩;rw[hbb] at e3 ⊢;obtain⟨s,hs⟩:∃ s,str xs=s:=⟨_,rfl⟩;obtain⟨t,ht⟩:∃ t,str ys=t:=⟨_,rfl⟩;rw[hs] at e1 e3;rw[ht] at e2 e3;clear ha hb hx hy hbb hs ht hn hm
 go_enter Tryz.func14,Tryz.ntmps14
 go_wp2
 go_ret;exact⟨rfl,rfl⟩
theorem and15_natX (a:BitVec 64):(a &&& 15#64).toNat≤15:=by
 rw[BitVec.toNat_and];exact Nat.and_le_right
theorem and15X (x:Int):bits .and .i64 x 15=((BitVec.ofInt 64 x &&& 15#64).toNat:Int):=by
 have h:=and15_natX (BitVec.ofInt 64 x)
 show IntKind.i64.wrap ((BitVec.ofInt 64 x &&& 15#64).toNat:Int)=_
 exact IntWalk.i64_in _ (by omega)
theorem al15X (x:Int):alB (bits .and .i64 x 15)=true:=by
 have h:=and15_natX (BitVec.ofInt 64 x);rw[and15X];unfold alB;simp only[Bool.and_eq_true,decide_eq_true_eq];omega
end Go.Proofs.YtlipjglehongeaaGreatDoor
