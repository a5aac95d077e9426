/-
  PACKAGE ots, THE KINDS
  PACKAGE ots, THE DIGITS
-/
import Derived.Test.YtjlophplcmidlaaGreatDoorAd2
import Derived.Laws.ResultCell
import Derived.Deep.RegionHeld3
import Derived.Test.YtjlophplcmidlaaGreatDoorTk
open Go.Lib (hid)
set_option maxRecDepth 100000
namespace Go.Proofs.YtjlophplcmidlaaGreatDoor
open Go Go.RowKit Sh
structure Kd where
 code:Nat
 w:Nat
 p:Nat
 ls:Nat
def kd:Nat→Kd
 |0=>⟨1,1,265,7⟩
 |1=>⟨2,2,133,6⟩
 |2=>⟨3,4,67,4⟩
 |_=>⟨4,8,34,0⟩
def kv (k:Kd):List Value:=[.int .u64 (k.code:Int),.int .i64 (k.w:Int),.int .i64 (k.p:Int),.int .i64 (k.ls:Int)]
def kds:List Value:=kv (kd 0)++(kv (kd 1)++(kv (kd 2)++kv (kd 3)))
def kz:List Value:=[.int .u64 0,.int .i64 0,.int .i64 0,.int .i64 0]
structure KI (w:World):Prop where
 lt:0<w.heap.size
 at_:w.rangeAt 0 0 kds
theorem KI.below {w w':World} {B:Nat} (h:KI w) (hb:Below B w w') (hB:0<B):KI w':=
 ⟨Nat.lt_of_lt_of_le h.lt hb.size,λj v hv=>(hb.cell (p:=⟨0,0+j,none⟩) hB).trans (h.at_ j v hv)⟩
theorem KI.kept {w w':World} (h:KI w) (hb:Below w.heap.size w w'):KI w':=h.below hb h.lt
theorem kv_size (k:Kd):(Tryz.prog.info? 156).map (·.size)=some (kv k).length:=by
 show(Tryz.prog.info? 156).map (·.size)=some 4
 kernel_rfl
theorem kz_size:(Tryz.prog.info? 156).map (·.size)=some kz.length:=by
 show(Tryz.prog.info? 156).map (·.size)=some 4
 kernel_rfl
theorem kds_size:(Tryz.prog.info? 183).map (·.size)=some kds.length:=by
 show(Tryz.prog.info? 183).map (·.size)=some 16
 kernel_rfl
theorem kv_one (k:Kd):(kv k).toArray.all (·.oneCell')=true:=by simp[kv,Value.oneCell']
theorem kz_one:kz.toArray.all (·.oneCell')=true:=by simp[kz,Value.oneCell']
theorem kd_index (k:Nat) (hk:k<4):∀ W,(Instr.index 183 (.agg kds.toArray) (.int .i64 (k:Int))).run Tryz.prog W= .ok (.agg (kv (kd k)).toArray) W:=by
 have:k=0∨k=1∨k=2∨k=3:=by omega
 rcases this with rfl |rfl |rfl |rfl<;>(intro W;kernel_rfl)
theorem ret_blk2 {P:Program} {fn:Func} {R:Ending→World→Prop} {a:Act} {w:World} {p u:Tmp} {ty:TypeId} (hr:fn.results= #[.cell p ty,.tmp u]) (hd:a.defers=[]) (g:Nat) (t:TypeId) (cs:List Value) (d:TypeDesc)
  (hp:a.tmps.getD p undef= .pointer (some ⟨g,0,none⟩)) (hg:Blk w g t cs) (hu:P.underlying ty=some d)
  (hdd:(match d with | .struct _ | .array _ _=>true |_=>false)=true) (hi:(P.info? ty).map (·.size)=some cs.length) (v:Value) (hv:a.tmps.getD u undef=v)
  (hR:R (.returned (.tuple #[.agg cs.toArray,v])) w):bodyPost P fn R .ret a w:=by
 have hp':a.tmps[p]?.getD undef= .pointer (some ⟨g,0,none⟩):=by simpa using hp
 have hv':a.tmps[u]?.getD undef=v:=by simpa using hv
 refine bodyPost_ret (v:= .tuple #[.agg cs.toArray,v]) ?_ hd hR;simp[results,hr,hp',hv',asAddr,run_loadVar_row w g t ty cs.toArray (0,0) d hg hu hdd (by simpa using hi)]
theorem isLeaf_yes (q:Nat) (w:World) (h:q<32):Calls Tryz.prog 113 #[.int .i64 (q:Int)] w λe w'=>e= .returned (.bool true)∧w=w':=by
 have h1:(0:Int)≤(q:Int):=by omega
 have h2:(q:Int)<32:=by omega
 go_enter Tryz.func113,Tryz.ntmps113
 go_wp2
 go_ret;exact⟨rfl,rfl⟩
theorem isLeaf_no (q:Int) (w:World) (h:q<0∨32≤q):Calls Tryz.prog 113 #[.int .i64 q] w λe w'=>e= .returned (.bool false)∧w=w':=by
 by_cases h1:q<0
 ·clear h
  go_enter Tryz.func113,Tryz.ntmps113
  go_wp2
  go_ret;exact⟨rfl,rfl⟩
 ·have h2:0≤q:=by omega
  have h3:32≤q:=by omega
  clear h h1
  go_enter Tryz.func113,Tryz.ntmps113
  go_wp2
  go_ret;exact⟨by simp;omega,rfl⟩
theorem top_t (i:Nat) (hi:i<4) (w:World):Calls Tryz.prog 121 #[.agg (kv (kd i)).toArray] w λe w'=>e= .returned (.int .i64 ((2 ^ (kd i).w-1:Nat):Int))∧Below w.heap.size w w':=by
 have:i=0∨i=1∨i=2∨i=3:=by omega
 rcases this with rfl |rfl |rfl |rfl
 ·change Calls Tryz.prog 121 #[.agg #[.int .u64 1,.int .i64 1,.int .i64 265,.int .i64 7]] w _
  go_enter Tryz.func121,Tryz.ntmps121
  go_wp2
  go_ret;exact⟨rfl,(Below.refl _ _).alloc (Nat.le_refl _) _⟩
 ·change Calls Tryz.prog 121 #[.agg #[.int .u64 2,.int .i64 2,.int .i64 133,.int .i64 6]] w _
  go_enter Tryz.func121,Tryz.ntmps121
  go_wp2
  go_ret;exact⟨rfl,(Below.refl _ _).alloc (Nat.le_refl _) _⟩
 ·change Calls Tryz.prog 121 #[.agg #[.int .u64 3,.int .i64 4,.int .i64 67,.int .i64 4]] w _
  go_enter Tryz.func121,Tryz.ntmps121
  go_wp2
  go_ret;exact⟨rfl,(Below.refl _ _).alloc (Nat.le_refl _) _⟩
 ·change Calls Tryz.prog 121 #[.agg #[.int .u64 4,.int .i64 8,.int .i64 34,.int .i64 0]] w _
  go_enter Tryz.func121,Tryz.ntmps121
  go_wp2
  go_ret;exact⟨rfl,(Below.refl _ _).alloc (Nat.le_refl _) _⟩
set_option maxHeartbeats 1000000 in
theorem find_t (n:Int) (w:World) (hk:KI w) (R:Ending→World→Prop)
  (hyes:∀ i w',i<4→n=((kd i).w:Int)→Below w.heap.size w w'→R (.returned (.tuple #[.agg (kv (kd i)).toArray,.bool true])) w')
  (hno:∀ w',(∀ i,i<4→n≠((kd i).w:Int))→Below w.heap.size w w'→R (.returned (.tuple #[.agg kz.toArray,.bool false])) w'):
  Calls Tryz.prog 112 #[.int .i64 n] w R:=by
 have HK:=hid hk;have HY:=hid hyes;have HN:=hid hno;have R0:=hid (Blk.new w 156 kz);have B0:=hid ((Below.refl w.heap.size w).alloc (Nat.le_refl _) (.cells kz.toArray 156));clear hk hyes hno
 go_enter Tryz.func112,Tryz.ntmps112
 go_wp2_with ((with_reducible refine wpList_load_mid rfl 183 (.global 0) rfl 0 0 ?_ kds _ ?_ Tryz.underlying183 ?_ ?_ ?_);exact rfl;exact(HK.out.kept B0.out).at_;exact rfl;exact kds_size)
 go_loopw [7] (λi wr=>∃ k:Nat,k≤4∧i= .int .i64 k∧(∀ j,j<k→n≠((kd j).w:Int))∧Blk wr w.heap.size 156 kz∧Below w.heap.size w wr) (λi _=>4- (intOf i).toNat)
 case atStart=>exact⟨0,by omega,rfl,λj hj=>absurd hj (by omega),R0.out,B0.out⟩
 case round=>
  obtain⟨k,hk,rfl,hn,hr,hb⟩:=hrel;have HNK:=hid hn;have HR:=hid hr;have HB:=hid hb;have b1:=HB.out.size;have l1:=HR.out.lt;clear hn hr hb R0 B0
  by_cases hlt:k<4
  ·have hix:=kd_index k hlt
   by_cases he:n=((kd k).w:Int)
   ·have he2:(((kd k).w:Int) == n)=true:=by simp[he]
    have HE:=hid he;clear he;have RN:=hid (Blk.new wr 156 kz);have c1:(((wr.alloc (.cells #[.int .u64 0,.int .i64 0,.int .i64 0,.int .i64 0] 156)).setRow wr.heap.size (kv (kd k)).toArray)).cell? ⟨wr.heap.size,1,none⟩=some (.int .i64 ((kd k).w:Int)):=(RN.out.setRow (kv (kd k))).cell 1
    go_wp2_with (first
     |((with_reducible refine store_blk 156 (.tmp 5) (.tmp 9) wr.heap.size 156 kz (kv (kd k)) rfl rfl ?_ ?_ ?_ ?_ ?_ ?_ ?_);exact RN.out;exact rfl;exact kv_size _;exact kv_one _;exact rfl;exact rfl)
     |((with_reducible refine load_blk 156 (.tmp 5) wr.heap.size 156 (kv (kd k)) _ rfl rfl ?_ Tryz.underlying156 ?_ ?_ ?_ ?_);exact RN.out.setRow _;exact rfl;exact kv_size _;exact rfl)
     |((with_reducible refine store_blk 156 (.tmp 2) (.tmp 14) w.heap.size 156 kz (kv (kd k)) rfl rfl ?_ ?_ ?_ ?_ ?_ ?_ ?_);exact(HR.out.alloc _).setRow_far (by omega) _;exact rfl;exact kv_size _;exact kv_one _;exact rfl;exact rfl))
    refine ret_blk2 (p:=2) (u:=3) (ty:=156) rfl rfl w.heap.size 156 (kv (kd k)) _ rfl (((HR.out.alloc _).setRow_far (by omega) _).setRow _) Tryz.underlying156 rfl (kv_size _) (.bool true) rfl ?_;exact HY.out k _ hlt HE.out (below_setRow (below_setRow (HB.out.alloc HB.out.size _) (by omega) _) (Nat.le_refl _) _)
   ·have he2:(((kd k).w:Int) == n)=false:=by rw[beq_eq_false_iff_ne];exact λe=>he e.symm
    have HE:=hid he;clear he;have RN:=hid (Blk.new wr 156 kz);have c1:(((wr.alloc (.cells #[.int .u64 0,.int .i64 0,.int .i64 0,.int .i64 0] 156)).setRow wr.heap.size (kv (kd k)).toArray)).cell? ⟨wr.heap.size,1,none⟩=some (.int .i64 ((kd k).w:Int)):=(RN.out.setRow (kv (kd k))).cell 1
    go_wp2_with (first
     |((with_reducible refine store_blk 156 (.tmp 5) (.tmp 9) wr.heap.size 156 kz (kv (kd k)) rfl rfl ?_ ?_ ?_ ?_ ?_ ?_ ?_);exact RN.out;exact rfl;exact kv_size _;exact kv_one _;exact rfl;exact rfl))
    go_roundw
    case rel=>
     refine⟨k+1,by omega,by go_num,λj hj=>?_,(HR.out.alloc _).setRow_far (by omega) _,below_setRow (HB.out.alloc HB.out.size _) (by omega) _⟩;rcases Nat.lt_or_ge j k with h |h
     ·exact HNK.out j h
     ·obtain rfl:j=k:=by omega
      exact HE.out
    case measure=>simp[intOf];omega
  ·obtain rfl:k=4:=by omega
   go_wp2_with ((with_reducible refine store_blk 156 (.tmp 2) (.tmp 16) w.heap.size 156 kz kz rfl rfl ?_ ?_ ?_ ?_ ?_ ?_ ?_);exact HR.out;exact rfl;exact kz_size;exact kz_one;exact rfl;exact rfl)
   refine ret_blk2 (p:=2) (u:=3) (ty:=156) rfl rfl w.heap.size 156 kz _ rfl (HR.out.setRow _) Tryz.underlying156 rfl kz_size (.bool false) rfl ?_;exact HN.out _ HNK.out (below_setRow HB.out (Nat.le_refl _) _)
theorem world_is {P:Program} {c:Code} {Q:Exit→Act→World→Prop} {a:Act} {w:World} (R:World→Prop) (h:R w) (k:∀ W,R W→Code.wp P c Q a W):Code.wp P c Q a w:=k w h
theorem blk_at {w:World} {g:Nat} (hg:w.heap.size=g) (o:Obj) (t:TypeId) (cs:List Value) (ho:o= .cells cs.toArray t:=by rfl):Blk (w.alloc o) g t cs:=by
 subst hg;subst ho;exact Blk.new w t cs
def coefN (w:Nat) (l:List Nat) (n:Nat):Nat:=gt l (n / (8 / w)) / 2 ^ (8-w * (n % (8 / w)+1)) % 2 ^ w
theorem below_drewN {B:Nat} {a w:World} (h:Below B a w) (n:Nat):Below B a (w.drewN n):=⟨h.os,h.tape,h.output,h.size,h.block⟩
theorem and_low:∀ w,w=1∨w=2∨w=4∨w=8→∀ x:Nat,x<256→bits .and .i64 (x:Int) ((2 ^ w-1:Nat):Int)=((x % 2 ^ w:Nat):Int):=by
 rintro w (rfl |rfl |rfl |rfl)<;>decide+kernel
theorem and_coef (w:Nat) (hw:w=1∨w=2∨w=4∨w=8) (x s:Nat) (hx:x<256):bits .and .i64 (IntKind.i64.wrap ((x:Int) / 2 ^ s)) ((2 ^ w-1:Nat):Int)=((x / 2 ^ s % 2 ^ w:Nat):Int):=by
 have h1:(x:Int) / 2 ^ s=((x / 2 ^ s:Nat):Int):=by simp
 have h2:x / 2 ^ s≤x:=Nat.div_le_self _ _;rw[h1];clear h1
 generalize x / 2 ^ s=y at *
 rw[IntWalk.i64_in _ ⟨by omega,by omega⟩,and_low w hw _ (by omega)]
set_option maxHeartbeats 1000000 in
theorem coef_0 (l:List Nat) (n:Nat) (w:World) (hl:l.length=34) (hb:Bytes l) (hn:n<34 * 8):
  Calls Tryz.prog 141 #[.agg #[.int .u64 1,.int .i64 1,.int .i64 265,.int .i64 7],.agg (u8s l).toArray,.int .i64 (n:Int)] w λe w'=>e= .returned (.int .i64 (coefN 1 l n:Nat))∧Below w.heap.size w w':=by
 have i0:(0:Int)≤n:=by omega
 have i1:(n:Int)≤1000:=by omega
 have HL:=hid hl;clear hl
 go_enter Tryz.func141,Tryz.ntmps141
 go_wp2
 go_quiet (fail)
 go_wp2
 have e8:(8:Int) - ((n:Int) % 8+1)=((8-1 * (n % 8+1):Nat):Int):=by omega
 rw[e8];clear e8;obtain⟨s,hs⟩:∃ s,8-1 * (n % 8+1)=s:=⟨_,rfl⟩;rw[hs];have hs7:s≤7:=by omega
 have HS:=hid hs;clear hs;obtain⟨m,hm⟩:∃ m,n / 8=m:=⟨_,rfl⟩;have q1:IntKind.i64.wrap ((n:Int) / 8)=(m:Int):=by
  rw[show(n:Int) / 8=(m:Int) from by omega];exact IntWalk.i64_in _ (by omega)
 have q2:(m:Int)<34:=by omega
 have q3:m<34:=by omega
 have HM:=hid hm;clear hm;have bk:Blk (((w.alloc (.cells #[.int .u64 1,.int .i64 1,.int .i64 265,.int .i64 7] 156)).alloc (.cells (u8s l).toArray 185)).drewN nq) w.heap.size 156 (kv (kd 0)):=((Blk.new w _ (kv (kd 0))).alloc _).drewN _;have bl:Blk (((w.alloc (.cells #[.int .u64 1,.int .i64 1,.int .i64 265,.int .i64 7] 156)).alloc (.cells (u8s l).toArray 185)).drewN nq) (w.heap.size+1) 185 (u8s l):=(Blk.new2 w _ 185 (u8s l)).drewN _;have bb:Below w.heap.size w (((w.alloc (.cells #[.int .u64 1,.int .i64 1,.int .i64 265,.int .i64 7] 156)).alloc (.cells (u8s l).toArray 185)).drewN nq):=below_drewN (((Below.refl _ _).alloc (Nat.le_refl _) _).alloc (by simp) _) _
 generalize hW:((w.alloc (.cells #[.int .u64 1,.int .i64 1,.int .i64 265,.int .i64 7] 156)).alloc (.cells (u8s l).toArray 185)).drewN nq=W at *
 have r1:(W.drew.rangeAt w.heap.size 0 (kv (kd 0))∧W.drew.cell? ⟨w.heap.size+1,m,none⟩=some (.int .u8 ((gt l m:Nat):Int))):=⟨λj v hv=>by rw[Nat.zero_add];exact(bk.drew.cell j).trans hv,by rw[bl.drew.cell,u8s_get _ _ (by rw[HL.out];omega)]⟩;have BK:=hid bk;have BB:=hid bb;have hlt1:w.heap.size+1<W.drew.heap.size:=bl.drew.lt;clear hW bk bl bb;refine wp_region_held (S:=λV=>V.rangeAt w.heap.size 0 (kv (kd 0))∧V.cell? ⟨w.heap.size+1,m,none⟩=some (.int .u8 ((gt l m:Nat):Int))) (by kernel_rfl) ?_;change wpAnyH _ _ _ _ _ _ _ _ W.drew;refine tka9 0 r1 ?_;refine tka9 1 r1 ?_;refine tka9 2 r1 ?_;refine tka9 3 r1 ?_;refine tk9 4 ?_ ?_ r1 ?_;rotate_left 1
 ·(intro w hS;have hs:=hS.2;clear hS;go_simp;try (with_reducible rfl))
 refine tka9 5 r1 ?_;refine tka9 6 r1 ?_;refine tka9 7 r1 ?_;refine tkg9 8 (v:= .agg (kv (kd 0)).toArray) (yieldsIf_load_mid (by kernel_rfl) 156 (.tmp 3) rfl w.heap.size 0 (by go_simp) (kv (kd 0)) _ (λ_ h=>h.1) Tryz.underlying156 rfl (kv_size _)) r1 ?_;refine rd9 9 λK hK=>?_
 go_simp;refine(top_t 0 (by omega) W.drew).mono ?_
 rintro e w1 ⟨rfl,b1⟩
 have r2:(w1.rangeAt w.heap.size 0 (kv (kd 0))∧w1.cell? ⟨w.heap.size+1,m,none⟩=some (.int .u8 ((gt l m:Nat):Int))):=⟨λj v hv=>(b1.cell (p:=⟨w.heap.size,0+j,none⟩) BK.out.drew.lt).trans (r1.1 j v hv),(b1.cell (p:=⟨w.heap.size+1,m,none⟩) hlt1).trans r1.2⟩;have B1:=hid (BB.out.drew.trans (b1.mono BB.out.drew.size));clear b1;refine hK.out _ _ r2 (λ_=>?_);clear hK K;refine tka9 10 r2 ?_;refine tka9 11 r2 ?_;refine wpAnyH_done (by kernel_rfl) ?_ _;go_simp;go_wp2_with fail
 go_ret;refine⟨?_,B1.out⟩
 show Ending.returned (.int .i64 (bits .and .i64 (IntKind.i64.wrap (((gt l m:Nat):Int) / 2 ^ s)) ((2 ^ 1-1:Nat):Int)))=_
 rw[and_coef 1 (by decide) _ s (hb m),show coefN 1 l n=gt l (n / 8) / 2 ^ (8-1 * (n % 8+1)) % 2 ^ 1 from rfl,HM.out,HS.out]
set_option maxHeartbeats 1000000 in
theorem coef_2 (l:List Nat) (n:Nat) (w:World) (hl:l.length=34) (hb:Bytes l) (hn:n<34 * 2):
  Calls Tryz.prog 141 #[.agg #[.int .u64 3,.int .i64 4,.int .i64 67,.int .i64 4],.agg (u8s l).toArray,.int .i64 (n:Int)] w λe w'=>e= .returned (.int .i64 (coefN 4 l n:Nat))∧Below w.heap.size w w':=by
 have i0:(0:Int)≤n:=by omega
 have i1:(n:Int)≤1000:=by omega
 have HL:=hid hl;clear hl
 go_enter Tryz.func141,Tryz.ntmps141
 go_wp2
 go_quiet (fail)
 go_wp2
 have e8:(8:Int) -4 * ((n:Int) % 2+1)=((8-4 * (n % 2+1):Nat):Int):=by omega
 rw[e8];clear e8;obtain⟨s,hs⟩:∃ s,8-4 * (n % 2+1)=s:=⟨_,rfl⟩;rw[hs];have hs7:s≤7:=by omega
 have HS:=hid hs;clear hs;obtain⟨m,hm⟩:∃ m,n / 2=m:=⟨_,rfl⟩;have q1:IntKind.i64.wrap ((n:Int) / 2)=(m:Int):=by
  rw[show(n:Int) / 2=(m:Int) from by omega];exact IntWalk.i64_in _ (by omega)
 have q2:(m:Int)<34:=by omega
 have q3:m<34:=by omega
 have HM:=hid hm;clear hm;have bk:Blk (((w.alloc (.cells #[.int .u64 3,.int .i64 4,.int .i64 67,.int .i64 4] 156)).alloc (.cells (u8s l).toArray 185)).drewN nq) w.heap.size 156 (kv (kd 2)):=((Blk.new w _ (kv (kd 2))).alloc _).drewN _;have bl:Blk (((w.alloc (.cells #[.int .u64 3,.int .i64 4,.int .i64 67,.int .i64 4] 156)).alloc (.cells (u8s l).toArray 185)).drewN nq) (w.heap.size+1) 185 (u8s l):=(Blk.new2 w _ 185 (u8s l)).drewN _;have bb:Below w.heap.size w (((w.alloc (.cells #[.int .u64 3,.int .i64 4,.int .i64 67,.int .i64 4] 156)).alloc (.cells (u8s l).toArray 185)).drewN nq):=below_drewN (((Below.refl _ _).alloc (Nat.le_refl _) _).alloc (by simp) _) _
 generalize hW:((w.alloc (.cells #[.int .u64 3,.int .i64 4,.int .i64 67,.int .i64 4] 156)).alloc (.cells (u8s l).toArray 185)).drewN nq=W at *
 have r1:(W.drew.rangeAt w.heap.size 0 (kv (kd 2))∧W.drew.cell? ⟨w.heap.size+1,m,none⟩=some (.int .u8 ((gt l m:Nat):Int))):=⟨λj v hv=>by rw[Nat.zero_add];exact(bk.drew.cell j).trans hv,by rw[bl.drew.cell,u8s_get _ _ (by rw[HL.out];omega)]⟩;have BK:=hid bk;have BB:=hid bb;have hlt1:w.heap.size+1<W.drew.heap.size:=bl.drew.lt;clear hW bk bl bb;refine wp_region_held (S:=λV=>V.rangeAt w.heap.size 0 (kv (kd 2))∧V.cell? ⟨w.heap.size+1,m,none⟩=some (.int .u8 ((gt l m:Nat):Int))) (by kernel_rfl) ?_;change wpAnyH _ _ _ _ _ _ _ _ W.drew;refine tka9 0 r1 ?_;refine tka9 1 r1 ?_;refine tka9 2 r1 ?_;refine tka9 3 r1 ?_;refine tk9 4 ?_ ?_ r1 ?_;rotate_left 1
 ·(intro w hS;have hs:=hS.2;clear hS;go_simp;try (with_reducible rfl))
 refine tka9 5 r1 ?_;refine tka9 6 r1 ?_;refine tka9 7 r1 ?_;refine tkg9 8 (v:= .agg (kv (kd 2)).toArray) (yieldsIf_load_mid (by kernel_rfl) 156 (.tmp 3) rfl w.heap.size 0 (by go_simp) (kv (kd 2)) _ (λ_ h=>h.1) Tryz.underlying156 rfl (kv_size _)) r1 ?_;refine rd9 9 λK hK=>?_
 go_simp;refine(top_t 2 (by omega) W.drew).mono ?_
 rintro e w1 ⟨rfl,b1⟩
 have r2:(w1.rangeAt w.heap.size 0 (kv (kd 2))∧w1.cell? ⟨w.heap.size+1,m,none⟩=some (.int .u8 ((gt l m:Nat):Int))):=⟨λj v hv=>(b1.cell (p:=⟨w.heap.size,0+j,none⟩) BK.out.drew.lt).trans (r1.1 j v hv),(b1.cell (p:=⟨w.heap.size+1,m,none⟩) hlt1).trans r1.2⟩;have B1:=hid (BB.out.drew.trans (b1.mono BB.out.drew.size));clear b1;refine hK.out _ _ r2 (λ_=>?_);clear hK K;refine tka9 10 r2 ?_;refine tka9 11 r2 ?_;refine wpAnyH_done (by kernel_rfl) ?_ _;go_simp;go_wp2_with fail
 go_ret;refine⟨?_,B1.out⟩
 show Ending.returned (.int .i64 (bits .and .i64 (IntKind.i64.wrap (((gt l m:Nat):Int) / 2 ^ s)) ((2 ^ 4-1:Nat):Int)))=_
 rw[and_coef 4 (by decide) _ s (hb m),show coefN 4 l n=gt l (n / 2) / 2 ^ (8-4 * (n % 2+1)) % 2 ^ 4 from rfl,HM.out,HS.out]
set_option maxHeartbeats 1000000 in
theorem coef_3 (l:List Nat) (n:Nat) (w:World) (hl:l.length=34) (hb:Bytes l) (hn:n<34 * 1):
  Calls Tryz.prog 141 #[.agg #[.int .u64 4,.int .i64 8,.int .i64 34,.int .i64 0],.agg (u8s l).toArray,.int .i64 (n:Int)] w λe w'=>e= .returned (.int .i64 (coefN 8 l n:Nat))∧Below w.heap.size w w':=by
 have i0:(0:Int)≤n:=by omega
 have i1:(n:Int)≤1000:=by omega
 have HL:=hid hl;clear hl
 go_enter Tryz.func141,Tryz.ntmps141
 go_wp2
 go_quiet (fail)
 go_wp2
 have q1:IntKind.i64.wrap (n:Int)=(n:Int):=IntWalk.i64_in _ (by omega);have q2:(n:Int)<34:=by omega
 have q3:n<34:=by omega
 obtain⟨m,rfl⟩:∃ m,m=n:=⟨_,rfl⟩;have bk:Blk (((w.alloc (.cells #[.int .u64 4,.int .i64 8,.int .i64 34,.int .i64 0] 156)).alloc (.cells (u8s l).toArray 185)).drewN nq) w.heap.size 156 (kv (kd 3)):=((Blk.new w _ (kv (kd 3))).alloc _).drewN _;have bl:Blk (((w.alloc (.cells #[.int .u64 4,.int .i64 8,.int .i64 34,.int .i64 0] 156)).alloc (.cells (u8s l).toArray 185)).drewN nq) (w.heap.size+1) 185 (u8s l):=(Blk.new2 w _ 185 (u8s l)).drewN _;have bb:Below w.heap.size w (((w.alloc (.cells #[.int .u64 4,.int .i64 8,.int .i64 34,.int .i64 0] 156)).alloc (.cells (u8s l).toArray 185)).drewN nq):=below_drewN (((Below.refl _ _).alloc (Nat.le_refl _) _).alloc (by simp) _) _
 generalize hW:((w.alloc (.cells #[.int .u64 4,.int .i64 8,.int .i64 34,.int .i64 0] 156)).alloc (.cells (u8s l).toArray 185)).drewN nq=W at *
 have r1:(W.drew.rangeAt w.heap.size 0 (kv (kd 3))∧W.drew.cell? ⟨w.heap.size+1,m,none⟩=some (.int .u8 ((gt l m:Nat):Int))):=⟨λj v hv=>by rw[Nat.zero_add];exact(bk.drew.cell j).trans hv,by rw[bl.drew.cell,u8s_get _ _ (by rw[HL.out];omega)]⟩;have BK:=hid bk;have BB:=hid bb;have hlt1:w.heap.size+1<W.drew.heap.size:=bl.drew.lt;clear hW bk bl bb;refine wp_region_held (S:=λV=>V.rangeAt w.heap.size 0 (kv (kd 3))∧V.cell? ⟨w.heap.size+1,m,none⟩=some (.int .u8 ((gt l m:Nat):Int))) (by kernel_rfl) ?_;change wpAnyH _ _ _ _ _ _ _ _ W.drew;refine tka9 0 r1 ?_;refine tka9 1 r1 ?_;refine tka9 2 r1 ?_;refine tka9 3 r1 ?_;refine tk9 4 ?_ ?_ r1 ?_;rotate_left 1
 ·(intro w hS;have hs:=hS.2;clear hS;go_simp;try (with_reducible rfl))
 refine tka9 5 r1 ?_;refine tka9 6 r1 ?_;refine tka9 7 r1 ?_;refine tkg9 8 (v:= .agg (kv (kd 3)).toArray) (yieldsIf_load_mid (by kernel_rfl) 156 (.tmp 3) rfl w.heap.size 0 (by go_simp) (kv (kd 3)) _ (λ_ h=>h.1) Tryz.underlying156 rfl (kv_size _)) r1 ?_;refine rd9 9 λK hK=>?_
 go_simp;refine(top_t 3 (by omega) W.drew).mono ?_
 rintro e w1 ⟨rfl,b1⟩
 have r2:(w1.rangeAt w.heap.size 0 (kv (kd 3))∧w1.cell? ⟨w.heap.size+1,m,none⟩=some (.int .u8 ((gt l m:Nat):Int))):=⟨λj v hv=>(b1.cell (p:=⟨w.heap.size,0+j,none⟩) BK.out.drew.lt).trans (r1.1 j v hv),(b1.cell (p:=⟨w.heap.size+1,m,none⟩) hlt1).trans r1.2⟩;have B1:=hid (BB.out.drew.trans (b1.mono BB.out.drew.size));clear b1;refine hK.out _ _ r2 (λ_=>?_);clear hK K;refine tka9 10 r2 ?_;refine tka9 11 r2 ?_;refine wpAnyH_done (by kernel_rfl) ?_ _;go_simp;go_wp2_with fail
 go_ret;refine⟨?_,B1.out⟩
 show Ending.returned (.int .i64 (bits .and .i64 (IntKind.i64.wrap (((gt l m:Nat):Int))) ((2 ^ 8-1:Nat):Int)))=_
 have h:=and_coef 8 (by decide) _ 0 (hb m);rw[show(((gt l m:Nat):Int)) / 2 ^ 0=((gt l m:Nat):Int) from by simp] at h;have e:coefN 8 l m=gt l m / 2 ^ 0 % 2 ^ 8:=by
  unfold coefN;rw[show 8 / 8=1 from rfl,Nat.div_one,Nat.mod_one]
 rw[h,e]
set_option maxHeartbeats 1000000 in
theorem coef_1 (l:List Nat) (n:Nat) (w:World) (hl:l.length=34) (hb:Bytes l) (hn:n<34 * 4):
  Calls Tryz.prog 141 #[.agg #[.int .u64 2,.int .i64 2,.int .i64 133,.int .i64 6],.agg (u8s l).toArray,.int .i64 (n:Int)] w λe w'=>e= .returned (.int .i64 (coefN 2 l n:Nat))∧Below w.heap.size w w':=by
 have i0:(0:Int)≤n:=by omega
 have i1:(n:Int)≤1000:=by omega
 have HL:=hid hl;clear hl
 go_enter Tryz.func141,Tryz.ntmps141
 go_wp2
 go_quiet (fail)
 go_wp2
 have e8:(8:Int) -2 * ((n:Int) % 4+1)=((8-2 * (n % 4+1):Nat):Int):=by omega
 rw[e8];clear e8;obtain⟨s,hs⟩:∃ s,8-2 * (n % 4+1)=s:=⟨_,rfl⟩;rw[hs];have hs7:s≤7:=by omega
 have HS:=hid hs;clear hs;obtain⟨m,hm⟩:∃ m,n / 4=m:=⟨_,rfl⟩;have q1:IntKind.i64.wrap ((n:Int) / 4)=(m:Int):=by
  rw[show(n:Int) / 4=(m:Int) from by omega];exact IntWalk.i64_in _ (by omega)
 have q2:(m:Int)<34:=by omega
 have q3:m<34:=by omega
 have HM:=hid hm;clear hm;have bk:Blk (((w.alloc (.cells #[.int .u64 2,.int .i64 2,.int .i64 133,.int .i64 6] 156)).alloc (.cells (u8s l).toArray 185)).drewN nq) w.heap.size 156 (kv (kd 1)):=((Blk.new w _ (kv (kd 1))).alloc _).drewN _;have bl:Blk (((w.alloc (.cells #[.int .u64 2,.int .i64 2,.int .i64 133,.int .i64 6] 156)).alloc (.cells (u8s l).toArray 185)).drewN nq) (w.heap.size+1) 185 (u8s l):=(Blk.new2 w _ 185 (u8s l)).drewN _;have bb:Below w.heap.size w (((w.alloc (.cells #[.int .u64 2,.int .i64 2,.int .i64 133,.int .i64 6] 156)).alloc (.cells (u8s l).toArray 185)).drewN nq):=below_drewN (((Below.refl _ _).alloc (Nat.le_refl _) _).alloc (by simp) _) _
 generalize hW:((w.alloc (.cells #[.int .u64 2,.int .i64 2,.int .i64 133,.int .i64 6] 156)).alloc (.cells (u8s l).toArray 185)).drewN nq=W at *
 have r1:(W.drew.rangeAt w.heap.size 0 (kv (kd 1))∧W.drew.cell? ⟨w.heap.size+1,m,none⟩=some (.int .u8 ((gt l m:Nat):Int))):=⟨λj v hv=>by rw[Nat.zero_add];exact(bk.drew.cell j).trans hv,by rw[bl.drew.cell,u8s_get _ _ (by rw[HL.out];omega)]⟩;have BK:=hid bk;have BB:=hid bb;have hlt1:w.heap.size+1<W.drew.heap.size:=bl.drew.lt;clear hW bk bl bb;refine wp_region_held (S:=λV=>V.rangeAt w.heap.size 0 (kv (kd 1))∧V.cell? ⟨w.heap.size+1,m,none⟩=some (.int .u8 ((gt l m:Nat):Int))) (by kernel_rfl) ?_;change wpAnyH _ _ _ _ _ _ _ _ W.drew;refine tka9 0 r1 ?_;refine tka9 1 r1 ?_;refine tka9 2 r1 ?_;refine tka9 3 r1 ?_;refine tk9 4 ?_ ?_ r1 ?_;rotate_left 1
 ·(intro w hS;have hs:=hS.2;clear hS;go_simp;try (with_reducible rfl))
 refine tka9 5 r1 ?_;refine tka9 6 r1 ?_;refine tka9 7 r1 ?_;refine tkg9 8 (v:= .agg (kv (kd 1)).toArray) (yieldsIf_load_mid (by kernel_rfl) 156 (.tmp 3) rfl w.heap.size 0 (by go_simp) (kv (kd 1)) _ (λ_ h=>h.1) Tryz.underlying156 rfl (kv_size _)) r1 ?_;refine rd9 9 λK hK=>?_
 go_simp;refine(top_t 1 (by omega) W.drew).mono ?_
 rintro e w1 ⟨rfl,b1⟩
 have r2:(w1.rangeAt w.heap.size 0 (kv (kd 1))∧w1.cell? ⟨w.heap.size+1,m,none⟩=some (.int .u8 ((gt l m:Nat):Int))):=⟨λj v hv=>(b1.cell (p:=⟨w.heap.size,0+j,none⟩) BK.out.drew.lt).trans (r1.1 j v hv),(b1.cell (p:=⟨w.heap.size+1,m,none⟩) hlt1).trans r1.2⟩;have B1:=hid (BB.out.drew.trans (b1.mono BB.out.drew.size));clear b1;refine hK.out _ _ r2 (λ_=>?_);clear hK K;refine tka9 10 r2 ?_;refine tka9 11 r2 ?_;refine wpAnyH_done (by kernel_rfl) ?_ _;go_simp;go_wp2_with fail
 go_ret;refine⟨?_,B1.out⟩
 show Ending.returned (.int .i64 (bits .and .i64 (IntKind.i64.wrap (((gt l m:Nat):Int) / 2 ^ s)) ((2 ^ 2-1:Nat):Int)))=_
 rw[and_coef 2 (by decide) _ s (hb m),show coefN 2 l n=gt l (n / 4) / 2 ^ (8-2 * (n % 4+1)) % 2 ^ 2 from rfl,HM.out,HS.out]
theorem coef_t (i:Nat) (hi:i<4) (l:List Nat) (n:Nat) (w:World) (hl:l.length=34) (hb:Bytes l) (hn:n<34 * (8 / (kd i).w)):
  Calls Tryz.prog 141 #[.agg (kv (kd i)).toArray,.agg (u8s l).toArray,.int .i64 (n:Int)] w λe w'=>e= .returned (.int .i64 (coefN (kd i).w l n:Nat))∧Below w.heap.size w w':=by
 have:i=0∨i=1∨i=2∨i=3:=by omega
 rcases this with rfl |rfl |rfl |rfl
 ·exact coef_0 l n w hl hb hn
 ·exact coef_1 l n w hl hb hn
 ·exact coef_2 l n w hl hb hn
 ·exact coef_3 l n w hl hb hn
end Go.Proofs.YtjlophplcmidlaaGreatDoor
