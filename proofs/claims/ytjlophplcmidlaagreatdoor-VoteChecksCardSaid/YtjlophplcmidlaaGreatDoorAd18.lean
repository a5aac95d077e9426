/-
  PACKAGE state
  PACKAGE state
  A DIGEST AMONG OTHER MEMORY
  PACKAGE state
  EQUALITY of digests, beside what layer 8 has
  PACKAGE space
  LAW 8
  LAYER 9
  PACKAGE genesis
-/
import Derived.Test.YtjlophplcmidlaaGreatDoorAd12
import Derived.Test.YtjlophplcmidlaaGreatDoorAd14
import Derived.Test.YtjlophplcmidlaaGreatDoorAd4
import Derived.Test.YtjlophplcmidlaaGreatDoorAd1
import Derived.Test.YtjlophplcmidlaaGreatDoorAd16
import Derived.Lib.SlBytesConst
import Derived.Test.YtjlophplcmidlaaGreatDoorAd5
import Derived.Test.YtjlophplcmidlaaGreatDoorAd11
import Derived.Laws.StructEq
import Derived.Test.YtjlophplcmidlaaGreatDoorAd15
import Derived.Test.YtjlophplcmidlaaGreatDoorAd17
import Derived.Test.YtjlophplcmidlaaGreatDoorAd9
import Derived.Test.YtjlophplcmidlaaGreatDoorTk
open Go.Lib (hid)
set_option maxRecDepth 100000
namespace Go.Proofs.YtjlophplcmidlaaGreatDoor
open Go Go.RowKit Sh
section
section
variable {W0 w W W' : World} {F : Nat → Prop} {g : Nat} {l l' : List Nat}
end
end
section
variable {w0 w2 W W' : World} {x : Spv} {l l' : List Nat}
end
theorem take_snocS {α:Type} {l:List α} {j:Nat} {y:α} (h:l[j]? =some y):l.take (j+1)=l.take j++[y]:=by rw[List.take_add_one,h];rfl
end Go.Proofs.YtjlophplcmidlaaGreatDoor
namespace Go.Proofs.YtjlophplcmidlaaGreatDoor
open Go.RowKit Sh
theorem Sl.of_sr {w:World} {p:Option Addr} {xs:List Nat} (h:Sr w p xs) (g:Nat) (hg:w.heap.size≤g):Sl w w.heap.size g p xs:=λhx=>by
 obtain⟨b,o,e,h1,h2⟩:=h hx;exact⟨b,o,e,h1,by omega,h2⟩
theorem Sl.old {w W:World} {p:Option Addr} {xs:List Nat} {g:Nat} (h:Sr w p xs) (hb:Below w.heap.size w W) (hg:w.heap.size≤g):Sl W W.heap.size g p xs:=λhx=>by
 obtain⟨b,o,e,h1,h2⟩:=h hx;exact⟨b,o,e,Nat.lt_of_lt_of_le h1 hb.size,by omega,h2.below hb h1⟩
theorem Wrote.dig {w w':World} {g:Nat} {l:List Nat} (h:Wrote w w' g l):∃ s r,Dig w' g l s r:=by
 obtain⟨⟨s,r,hr,hb⟩,_⟩:=h;exact⟨s,r,Dig.of_rep hr hb⟩
theorem write_u (B g:Nat) (s:S8) (r l xs:List Nat) (p:Option Addr) (n c:Nat) (w:World) (hd:Dig w g l s r) (hxs:Bytes xs) (hp:Sl w w.heap.size g p xs) (hn:xs.length=n) (hc:n≤c) (hsz:l.length+n<2305843009213693952) (hk:KAt w) (hB:B≤g) (hkB:1<B):
  Calls Tryz.prog 107 #[.pointer (some ⟨g,0,none⟩),.slice p n c] w λe w'=>e= .returned (.tuple #[])∧(∃ s r,Dig w' g (l++xs) s r)∧But w.heap.size g w w'∧Below B w w':=by
 subst hn;refine(write_t g s r l xs p c w hd hxs hp hc hsz hk (by omega)).mono ?_
 rintro e w' ⟨rfl,h⟩
 have h2:=h.2;exact⟨rfl,h.dig,h2,h2.below hB (by have:=hd.blk.lt;omega)⟩
theorem sum_u (xs:List Nat) (p:Option Addr) (n c:Nat) (w:World) (hxs:Bytes xs) (hp:Sr w p xs) (hn:xs.length=n) (hc:n≤c) (hsz:n<2305843009213693952) (hk:KAt w):
  Calls Tryz.prog 138 #[.slice p n c] w λe w'=>e= .returned (.agg (u8s (sum xs)).toArray)∧Below w.heap.size w w':=by
 subst hn;exact sum_t xs p c w hxs (λg hg=>Sl.of_sr hp g hg) hc hsz hk
end Go.Proofs.YtjlophplcmidlaaGreatDoor
namespace Go.Proofs.YtjlophplcmidlaaGreatDoor
open Go Go.RowKit Sh
def zH:List Nat:=List.replicate 32 0
theorem Sl.ne {w:World} {p:Option Addr} {xs:List Nat} {g:Nat} (h:Sr w p xs) (hg:∀ a:Addr,p=some a→a.block≠g):Sl w w.heap.size g p xs:=λhx=>by
 obtain⟨b,o,e,h1,h2⟩:=h hx;exact⟨b,o,e,h1,hg _ e,h2⟩
theorem hash_size (l:List Nat) (h:l.length=32):(Tryz.prog.info? 23).map (·.size)=some (u8s l).length:=by
 rw[u8s_length,h]
 kernel_rfl
theorem u8s_oneD (xs:List Nat):(u8s xs).toArray.all (·.oneCell')=true:=all_oneCell_toArray (λv hv=>by
 unfold u8s at hv;obtain⟨x,_,rfl⟩:=List.mem_map.1 hv;rfl)
theorem run_forIn_findS {P:Program} {β:Type} (r0 stop:β) (f:Nat→β→Sem (ForInStep β)) (bad:Nat→Bool) (w:World):∀ (ns:List Nat),(∀ i∈ns,(f i r0).run P w= .ok (if bad i then .done stop else .yield r0) w)→(forIn ns r0 f).run P w= .ok (if ns.any bad then stop else r0) w
 |[],_=>by simp[Sem.run_pure]
 |n::ns,h=>by
  have h1:=h n (List.mem_cons_self)
  cases hb:bad n with
  |true=>
   rw[hb] at h1;simp only[List.forIn_cons,Sem.run_bind,h1,Result.andThen];simp[hb,Sem.run_pure]
  |false=>
   rw[hb] at h1;simp only[List.forIn_cons,Sem.run_bind,h1,Result.andThen];simp only[Bool.false_eq_true,if_false];rw[run_forIn_findS r0 stop f bad w ns (λi hi=>h i (List.mem_cons_of_mem _ hi))];simp[hb]
theorem eqIn_u8sS (d t n:Nat) (ht:Tryz.prog.underlying t=some (.array n 5)) (xs ys:List Nat) (hx:xs.length=n) (hy:ys.length=n) (w:World):
  (Op.equalIn (d+2) t (.agg (u8s xs).toArray) (.agg (u8s ys).toArray)).run Tryz.prog w= .ok (decide (xs=ys)) w:=by
 have h5:(sizeOf 5).run Tryz.prog w= .ok 1 w:=by kernel_rfl
 unfold Op.equalIn;simp only[Sem.run_bind,run_underlying ht,Result.andThen_ok,h5,Nat.mul_one];have key:∀ i,i<n→(Op.equalIn (d+1) 5 (.int .u8 ((gt xs i:Nat):Int)) (.int .u8 ((gt ys i:Nat):Int))).run Tryz.prog w= .ok (decide (gt xs i=gt ys i)) w:=λi hi=>by
  rw[run_equalIn_int w d 5 .u8 .u8 _ _ Tryz.underlying5];simp;rw[Bool.eq_iff_iff];simp;omega
 simp only[Std.Legacy.Range.forIn_eq_forIn_range',Std.Legacy.Range.size];rw[run_forIn_findS (none,()) (some false,()) _ (λi=>decide (gt xs i≠gt ys i)) w _ (λi hi=>by
  have hi2:i<n:=by simpa using hi
  simp only[Sem.run_bind,part_u8 xs i (by omega),part_u8 ys i (by omega),Result.andThen_ok,key i hi2]
  by_cases he:gt xs i=gt ys i
  ·simp[he,Sem.run_pure]
  ·simp[he,Sem.run_pure])]
 have ha:((List.range' 0 ((n-0+1-1) / 1)).any λi=>decide (gt xs i≠gt ys i))= !decide (xs=ys):=by
  by_cases he:xs=ys
  ·subst he;simp
  ·have:∃ i,i<n∧gt xs i≠gt ys i:=by
    refine Classical.byContradiction λhno=>he ?_
    apply List.ext_getElem (by omega);intro i h1 h2;have h3:gt xs i=gt ys i:=Classical.byContradiction λh=>hno ⟨i,by omega,h⟩
    rwa [gt_of_lt h1,gt_of_lt h2] at h3
   obtain⟨i,hi,hne⟩:=this;simp only[he,decide_false,Bool.not_false];rw[List.any_eq_true];exact⟨i,by simp;omega,by simpa using hne⟩
 rw[ha]
 by_cases he:xs=ys<;>simp[he,Result.andThen,Sem.run_pure]
theorem str_beqT (xs ys:List Nat) (hx:Bytes xs) (hy:Bytes ys):((str xs).toList == (str ys).toList)=decide (xs=ys):=by
 by_cases h:xs=ys
 ·subst h;simp
 ·have hne:(str xs).toList≠(str ys).toList:=λe=>h (by rw[←bs_str xs hx,←bs_str ys hy,bs,bs,e])
  rw[beq_eq_false_iff_ne.2 hne,decide_eq_false h]
def nrep (c:Int):Rpv:=⟨⟨c,0,0,[],false⟩,none,0⟩
def nsp (rd wr:Int) (a b c d:Int):Spv:=⟨0,[],none,0,[],none,0,bits .and .i64 rd 15,bits .and .i64 wr 15,[nrep a,nrep b,nrep c,nrep d]⟩
theorem nsp_sp (rd wr:Int):(nsp rd wr 0 1 2 3).sp=newS rd wr:=rfl
def nK (rd wr:Int) (j:Nat):Spv:=nsp rd wr 0 (if 1<j then 1 else 0) (if 2<j then 2 else 0) (if 3<j then 3 else 0)
theorem nK_set (rd wr:Int) (j:Nat) (hj:j<4):(sv (nK rd wr j)).set (5+j * 5) (.int .i64 (j:Int))=sv (nK rd wr (j+1)):=by
 have hc:j=0∨j=1∨j=2∨j=3:=by omega
 rcases hc with rfl |rfl |rfl |rfl<;>rfl
structure NW (w0 W:World) (rd wr:Int) (j:Nat):Prop where
 a:Blk W (w0.heap.size+1) 80 (sv (nK rd wr j))
 z:Blk W w0.heap.size 80 [.int .i64 0,.slice none 0 0,.slice none 0 0,.int .i64 0,.int .i64 0,.int .i64 0,.int .i64 0,.int .i64 0,.slice none 0 0,.bool false,.int .i64 0,.int .i64 0,.int .i64 0,.slice none 0 0,.bool false,.int .i64 0,.int .i64 0,.int .i64 0,.slice none 0 0,.bool false,.int .i64 0,.int .i64 0,.int .i64 0,.slice none 0 0,.bool false]
 bel:Below w0.heap.size w0 W
set_option maxHeartbeats 1000000 in
theorem New_t (rd wx:Int) (w:World):Calls Tryz.prog 71 #[.int .i64 rd,.int .i64 wx] w λe w'=>e= .returned (.agg (sv (nsp rd wx 0 1 2 3)).toArray)∧Below w.heap.size w w':=by
 have Y0:=hid (Blk.new2 w (.cells #[.int .i64 0,.slice none 0 0,.slice none 0 0,.int .i64 0,.int .i64 0,.int .i64 0,.int .i64 0,.int .i64 0,.slice none 0 0,.bool false,.int .i64 0,.int .i64 0,.int .i64 0,.slice none 0 0,.bool false,.int .i64 0,.int .i64 0,.int .i64 0,.slice none 0 0,.bool false,.int .i64 0,.int .i64 0,.int .i64 0,.slice none 0 0,.bool false] 80) 80 [.int .i64 0,.slice none 0 0,.slice none 0 0,.int .i64 0,.int .i64 0,.int .i64 0,.int .i64 0,.int .i64 0,.slice none 0 0,.bool false,.int .i64 0,.int .i64 0,.int .i64 0,.slice none 0 0,.bool false,.int .i64 0,.int .i64 0,.int .i64 0,.slice none 0 0,.bool false,.int .i64 0,.int .i64 0,.int .i64 0,.slice none 0 0,.bool false]);have S0:=hid (show NW w (((w.alloc (.cells #[.int .i64 0,.slice none 0 0,.slice none 0 0,.int .i64 0,.int .i64 0,.int .i64 0,.int .i64 0,.int .i64 0,.slice none 0 0,.bool false,.int .i64 0,.int .i64 0,.int .i64 0,.slice none 0 0,.bool false,.int .i64 0,.int .i64 0,.int .i64 0,.slice none 0 0,.bool false,.int .i64 0,.int .i64 0,.int .i64 0,.slice none 0 0,.bool false] 80)).alloc (.cells #[.int .i64 0,.slice none 0 0,.slice none 0 0,.int .i64 0,.int .i64 0,.int .i64 0,.int .i64 0,.int .i64 0,.slice none 0 0,.bool false,.int .i64 0,.int .i64 0,.int .i64 0,.slice none 0 0,.bool false,.int .i64 0,.int .i64 0,.int .i64 0,.slice none 0 0,.bool false,.int .i64 0,.int .i64 0,.int .i64 0,.slice none 0 0,.bool false] 80)).setRow (w.heap.size+1) (sv (nK rd wx 0)).toArray) rd wx 0 from by
  have b1:=(Below.refl w.heap.size w).alloc (Nat.le_refl _) (.cells #[.int .i64 0,.slice none 0 0,.slice none 0 0,.int .i64 0,.int .i64 0,.int .i64 0,.int .i64 0,.int .i64 0,.slice none 0 0,.bool false,.int .i64 0,.int .i64 0,.int .i64 0,.slice none 0 0,.bool false,.int .i64 0,.int .i64 0,.int .i64 0,.slice none 0 0,.bool false,.int .i64 0,.int .i64 0,.int .i64 0,.slice none 0 0,.bool false] 80);exact⟨(Blk.new2 w _ _ _).setRow _,((Blk.new w 80 [.int .i64 0,.slice none 0 0,.slice none 0 0,.int .i64 0,.int .i64 0,.int .i64 0,.int .i64 0,.int .i64 0,.slice none 0 0,.bool false,.int .i64 0,.int .i64 0,.int .i64 0,.slice none 0 0,.bool false,.int .i64 0,.int .i64 0,.int .i64 0,.slice none 0 0,.bool false,.int .i64 0,.int .i64 0,.int .i64 0,.slice none 0 0,.bool false]).alloc _).setRow_far (by omega) _,below_setRow (b1.alloc (by simp) _) (Nat.le_succ _) _⟩)
 have F0:=hid (sv_size (nK rd wx 0) rfl);have F10:=hid (sv_one (nK rd wx 0));have hl:sv (nK rd wx 0)=[.int .i64 0,.slice none 0 0,.slice none 0 0,.int .i64 (bits .and .i64 rd 15),.int .i64 (bits .and .i64 wx 15),.int .i64 0,.int .i64 0,.int .i64 0,.slice none 0 0,.bool false,.int .i64 0,.int .i64 0,.int .i64 0,.slice none 0 0,.bool false,.int .i64 0,.int .i64 0,.int .i64 0,.slice none 0 0,.bool false,.int .i64 0,.int .i64 0,.int .i64 0,.slice none 0 0,.bool false]:=rfl;rw[hl] at S0 F0 F10;clear hl
 go_enter Tryz.func71,Tryz.ntmps71
 go_upto_region 3 with(((with_reducible refine store_blk 80 (.tmp 5) (.tmp 11) (w.heap.size+1) 80 [.int .i64 0,.slice none 0 0,.slice none 0 0,.int .i64 0,.int .i64 0,.int .i64 0,.int .i64 0,.int .i64 0,.slice none 0 0,.bool false,.int .i64 0,.int .i64 0,.int .i64 0,.slice none 0 0,.bool false,.int .i64 0,.int .i64 0,.int .i64 0,.slice none 0 0,.bool false,.int .i64 0,.int .i64 0,.int .i64 0,.slice none 0 0,.bool false] [.int .i64 0,.slice none 0 0,.slice none 0 0,.int .i64 (bits .and .i64 rd 15),.int .i64 (bits .and .i64 wx 15),.int .i64 0,.int .i64 0,.int .i64 0,.slice none 0 0,.bool false,.int .i64 0,.int .i64 0,.int .i64 0,.slice none 0 0,.bool false,.int .i64 0,.int .i64 0,.int .i64 0,.slice none 0 0,.bool false,.int .i64 0,.int .i64 0,.int .i64 0,.slice none 0 0,.bool false] rfl rfl ?_ ?_ ?_ ?_ ?_ ?_ ?_);exact Y0.out;exact rfl;exact F0.out;exact F10.out;exact rfl;exact rfl))
 clear Y0 F0 F10
 go_loopw [12] (λx wr=>∃ j:Nat,j≤4∧x= .int .i64 (j:Int)∧NW w wr rd wx j) (λx _=>4- (intOf x).toNat)
 case atStart=>exact⟨0,by omega,rfl,S0.out⟩
 case round=>
  obtain⟨j,hj,rfl,hS⟩:=hrel;have S1:=hid hS;clear hS S0
  by_cases hlt:j<4
  ·have j1:(j:Int)<4:=by omega
   have ct:∃ v,wr.cell? ⟨w.heap.size+1,5+j * 5,none⟩=some v:=by
    rw[S1.out.a.cell];exact⟨_,List.getElem?_eq_getElem (by rw[sv_len _ rfl];omega)⟩
   obtain⟨v,ct⟩:=ct;have fz:=S1.out.a.frozen (5+j * 5);have S2:=hid (show NW w (wr.setCell ⟨w.heap.size+1,5+j * 5,none⟩ (.int .i64 (j:Int))) rd wx (j+1) from by
    refine⟨?_,S1.out.z.far (p:=⟨w.heap.size+1,5+j * 5,none⟩) (by show w.heap.size≠w.heap.size+1;omega) _,S1.out.bel.setCell (p:=⟨w.heap.size+1,5+j * 5,none⟩) (Nat.le_succ _) _⟩;rw[←nK_set rd wx j hlt];exact S1.out.a.store _ _)
   go_wp2_with fail
   go_roundw
   case rel=>exact⟨j+1,hlt,by go_num,S2.out⟩
   case measure=>simp[intOf];omega
  ·obtain rfl:j=4:=by omega
   clear hlt;have FS:=hid (sv_size (nK rd wx 4) rfl);have F1:=hid (sv_one (nK rd wx 4));have A1:=hid S1.out.a;have Z1:=hid S1.out.z;have Z2:=hid (S1.out.z.setRow (sv (nK rd wx 4)));have B2:=hid (below_setRow S1.out.bel (Nat.le_refl _) (sv (nK rd wx 4)).toArray)
   go_wp2_with (first
    |((with_reducible refine load_blk 80 (.tmp 5) (w.heap.size+1) 80 (sv (nK rd wx 4)) _ rfl rfl ?_ Tryz.underlying80 ?_ ?_ ?_ ?_);exact A1.out;exact rfl;exact FS.out;exact rfl)
    |((with_reducible refine store_blk 80 (.tmp 4) (.tmp 21) w.heap.size 80 [.int .i64 0,.slice none 0 0,.slice none 0 0,.int .i64 0,.int .i64 0,.int .i64 0,.int .i64 0,.int .i64 0,.slice none 0 0,.bool false,.int .i64 0,.int .i64 0,.int .i64 0,.slice none 0 0,.bool false,.int .i64 0,.int .i64 0,.int .i64 0,.slice none 0 0,.bool false,.int .i64 0,.int .i64 0,.int .i64 0,.slice none 0 0,.bool false] (sv (nK rd wx 4)) rfl rfl ?_ ?_ ?_ ?_ ?_ ?_ ?_);exact Z1.out;exact rfl;exact FS.out;exact F1.out;exact rfl;exact rfl))
   exact ret_blk (p:=4) (ty:=80) rfl rfl w.heap.size 80 _ _ rfl Z2.out Tryz.underlying80 rfl FS.out ⟨rfl,B2.out⟩
def fA:Fld:=⟨5,0,eS⟩
def fI (n:Int):Fld:=⟨1,n,eS⟩
def q1:Rq:=⟨0,1,5,0,1,λ_=>fA,0,λ_=>f0⟩
def q2:Rq:=⟨1,1,1,9,0,λ_=>f0,1,λ_=>fI 4⟩
structure KSp (W:World) (g:Nat) (x:Spv):Prop where
 box:Blk W g 80 (sv x)
 w:SpW W x
theorem KSp.new {w1:World} {x:Spv} (h:SpW w1 x):KSp ((w1.alloc (.cells #[.int .i64 0,.slice none 0 0,.slice none 0 0,.int .i64 0,.int .i64 0,.int .i64 0,.int .i64 0,.int .i64 0,.slice none 0 0,.bool false,.int .i64 0,.int .i64 0,.int .i64 0,.slice none 0 0,.bool false,.int .i64 0,.int .i64 0,.int .i64 0,.slice none 0 0,.bool false,.int .i64 0,.int .i64 0,.int .i64 0,.slice none 0 0,.bool false] 80)).setRow w1.heap.size (sv x).toArray) w1.heap.size x∧Below w1.heap.size w1 ((w1.alloc (.cells #[.int .i64 0,.slice none 0 0,.slice none 0 0,.int .i64 0,.int .i64 0,.int .i64 0,.int .i64 0,.int .i64 0,.slice none 0 0,.bool false,.int .i64 0,.int .i64 0,.int .i64 0,.slice none 0 0,.bool false,.int .i64 0,.int .i64 0,.int .i64 0,.slice none 0 0,.bool false,.int .i64 0,.int .i64 0,.int .i64 0,.slice none 0 0,.bool false] 80)).setRow w1.heap.size (sv x).toArray):=by
 have b:=below_setRow (g:=w1.heap.size) ((Below.refl w1.heap.size w1).alloc (Nat.le_refl _) (.cells #[.int .i64 0,.slice none 0 0,.slice none 0 0,.int .i64 0,.int .i64 0,.int .i64 0,.int .i64 0,.int .i64 0,.slice none 0 0,.bool false,.int .i64 0,.int .i64 0,.int .i64 0,.slice none 0 0,.bool false,.int .i64 0,.int .i64 0,.int .i64 0,.slice none 0 0,.bool false,.int .i64 0,.int .i64 0,.int .i64 0,.slice none 0 0,.bool false] 80)) (Nat.le_refl _) (sv x).toArray;exact⟨⟨(Blk.new w1 80 [.int .i64 0,.slice none 0 0,.slice none 0 0,.int .i64 0,.int .i64 0,.int .i64 0,.int .i64 0,.int .i64 0,.slice none 0 0,.bool false,.int .i64 0,.int .i64 0,.int .i64 0,.slice none 0 0,.bool false,.int .i64 0,.int .i64 0,.int .i64 0,.slice none 0 0,.bool false,.int .i64 0,.int .i64 0,.int .i64 0,.slice none 0 0,.bool false]).setRow (sv x),h.below b⟩,b⟩
def nS9:Sp:=newS 15 7
theorem in9:InS nS9:=by
 refine⟨λi hi=>?_,λi hi=>?_,λr hr f hf=>?_⟩
 ·cases hi
 ·cases hi
 ·simp only[nS9,newS,List.mem_cons,List.not_mem_nil,or_false] at hr;rcases hr with rfl |rfl |rfl |rfl<;>cases hf
theorem gsp_w (a b c:Int) (W:World):SpW W (gsp a b c):=
 ⟨RowL.nil,(λy hy=>by cases hy),RowL.nil,(λy hy=>by cases hy),rfl,(λy hy=>by
  simp only[gsp,List.mem_cons,List.not_mem_nil,or_false] at hy;rcases hy with rfl |rfl |rfl |rfl<;>exact⟨λj hj=>absurd hj (Nat.not_lt_zero j),Nat.zero_le _⟩),Nat.zero_le _,Nat.zero_le _⟩
structure Ky where
 A:Option Addr
 c:Nat
 X:List Nat
def kyv (k:Ky):List Value:=[.slice k.A k.X.length k.c]
theorem kyv_len (k:Ky):(kyv k).length=1:=rfl
theorem kyv_one (k:Ky):∀ v∈kyv k,v.oneCell'=true:=λv hv=>by
 simp only[kyv,List.mem_cons,List.not_mem_nil,or_false] at hv;subst hv;rfl
structure Gv where
 f:Int
 rd:Int
 wr:Int
 kp:Option Addr
 kc:Nat
 ks:List Ky
 sp:Option Addr
 sc:Nat
 st:List Nat
def gv (x:Gv):List Value:=[.int .i64 x.f,.int .i64 x.rd,.int .i64 x.wr,.slice x.kp x.ks.length x.kc,.slice x.sp x.st.length x.sc]
theorem gv_size (x:Gv):(Tryz.prog.info? 27).map (·.size)=some (gv x).length:=by
 show(Tryz.prog.info? 27).map (·.size)=some 5
 kernel_rfl
theorem gv_one (x:Gv):(gv x).toArray.all (·.oneCell')=true:=by simp[gv,Value.oneCell']
theorem gv_cells {W:World} {g:Nat} {t:TypeId} {x:Gv} (h:Blk W g t (gv x)):W.cell? ⟨g,0,none⟩=some (.int .i64 x.f)∧W.cell? ⟨g,1,none⟩=some (.int .i64 x.rd)∧W.cell? ⟨g,2,none⟩=some (.int .i64 x.wr)∧W.cell? ⟨g,3,none⟩=some (.slice x.kp x.ks.length x.kc)∧W.cell? ⟨g,4,none⟩=some (.slice x.sp x.st.length x.sc):=
 ⟨h.cell 0,h.cell 1,h.cell 2,h.cell 3,h.cell 4⟩
structure GvW (W:World) (x:Gv):Prop where
 ks:RowL W x.kp 1 kyv x.ks
 k:∀ y∈x.ks,Sr W y.A y.X
 kb:∀ y∈x.ks,Bytes y.X
 kn:∀ y∈x.ks,y.X.length≤9223372036854775807
 kl:x.ks.length≤9223372036854775807
 st:Sr W x.sp x.st
 sb:Bytes x.st
 sl:x.st.length≤1000000
 sc:x.st.length≤x.sc
theorem GvW.below {W W':World} {x:Gv} (h:GvW W x) (hb:Below W.heap.size W W'):GvW W' x:=
 ⟨h.ks.below hb,λy hy=>(h.k y hy).below hb,h.kb,h.kn,h.kl,h.st.below hb,h.sb,h.sl,h.sc⟩
structure GB9 (w0 W:World) (x:Gv):Prop where
 a:Blk W w0.heap.size 27 (gv x)
 rx:GvW W x
 bel:Below w0.heap.size w0 W
theorem GB9.below {w0 W W':World} {x:Gv} (h:GB9 w0 W x) (hb:Below W.heap.size W W'):GB9 w0 W' x:=⟨h.a.below hb h.a.lt,h.rx.below hb,h.bel.trans (hb.mono h.bel.size)⟩
theorem GB9.new {w:World} {x:Gv} (h:GvW w x):GB9 w (w.alloc (.cells (gv x).toArray 27)) x:=by
 have b1:=(Below.refl w.heap.size w).alloc (Nat.le_refl _) (.cells (gv x).toArray 27);exact⟨Blk.new w 27 (gv x),h.below b1,b1⟩
def fltB (f:Int):Bool:=decide (0≤f) && decide (f≤2)
def mayK (f:Int) (l:List (List Nat)):Bool:=decide ((l.length:Int)=3 * f+1) && l.all formN
theorem faults_t (f:Int) (w:World):Calls Tryz.prog 68 #[.int .i64 f] w λe w'=>e= .returned (.bool (fltB f))∧w=w':=by
 unfold fltB
 by_cases h:0≤f
 ·rw[decide_eq_true h,Bool.true_and];obtain⟨b,hb⟩:∃ b,decide (f≤2)=b:=⟨_,rfl⟩;rw[hb]
  go_enter Tryz.func68,Tryz.ntmps68
  go_wp2_with fail
  go_ret;exact⟨rfl,rfl⟩
 ·have h1:decide (0≤f)=false:=decide_eq_false h;rw[h1,Bool.false_and]
  go_enter Tryz.func68,Tryz.ntmps68
  go_wp2_with fail
  go_ret;exact⟨rfl,rfl⟩
theorem allowG_t (f:Int) (w:World):Calls Tryz.prog 69 #[.int .i64 f] w λe w'=>e= .returned (.bool (alB f))∧w=w':=by
 unfold alB
 by_cases h:0≤f
 ·rw[decide_eq_true h,Bool.true_and];obtain⟨b,hb⟩:∃ b,decide (f≤15)=b:=⟨_,rfl⟩;have h2:decide (f<16)=b:=by rw[←hb];exact decide_eq_decide.2 (by omega)
  rw[hb];clear hb
  go_enter Tryz.func69,Tryz.ntmps69
  go_wp2_with fail
  go_ret;exact⟨rfl,rfl⟩
 ·have h1:decide (0≤f)=false:=decide_eq_false h;rw[h1,Bool.false_and]
  go_enter Tryz.func69,Tryz.ntmps69
  go_wp2_with fail
  go_ret;exact⟨rfl,rfl⟩
theorem keysFor_t (f:Int) (h0:0≤f) (h2:f≤2) (w:World):Calls Tryz.prog 95 #[.int .i64 f] w λe w'=>e= .returned (.int .i64 (3 * f+1))∧w=w':=by
 go_enter Tryz.func95,Tryz.ntmps95
 go_wp2_with fail
 go_ret;exact⟨by first |rfl |(congr 2;go_num),rfl⟩
set_option maxHeartbeats 1000000 in
theorem mayKeys_t (x:Gv) (w:World) (h:GvW w x) (h0:0≤x.f) (h2:x.f≤2) (hk:KI w):
  Calls Tryz.prog 70 #[.agg (gv x).toArray] w λe w'=>e= .returned (.bool (mayK x.f (x.ks.map (·.X))))∧Below w.heap.size w w':=by
 have S0:=hid (GB9.new h);have HK:=hid hk;obtain⟨n,hn⟩:∃ n,x.ks.length=n:=⟨_,rfl⟩;obtain⟨f,hf⟩:∃ n,x.f=n:=⟨_,rfl⟩;have HN:=hid hn;obtain⟨kp,hkp⟩:∃ p,x.kp=p:=⟨_,rfl⟩;have HKP:=hid hkp;have hnl:n≤9223372036854775807:=by rw[←hn];exact h.kl
 have hm:mayK x.f (x.ks.map (·.X))=(decide ((n:Int)=3 * f+1) && x.ks.all λy=>formN y.X):=by
  unfold mayK;rw[List.length_map,hn,hf,List.all_map];rfl
 obtain⟨r,hr⟩:∃ r,mayK x.f (x.ks.map (·.X))=r:=⟨_,rfl⟩;have HR:=hid (show r=(decide ((n:Int)=3 * f+1) && x.ks.all λy=>formN y.X) from hr.symm.trans hm);rw[hr];have CELL:=hid (λ(W:World) (h:GB9 w W x)=>show W.cell? ⟨w.heap.size,0,none⟩=some (.int .i64 f)∧W.cell? ⟨w.heap.size,3,none⟩=some (.slice kp n x.kc) from by
  have:=gv_cells h.a;rw[hf,hn,hkp] at this;exact⟨this.1,this.2.2.2.1⟩)
 rw[hf] at h0 h2;have KF:=hid (λW=>keysFor_t f h0 h2 W);clear h hk hm hn hf hr hkp
 go_enter Tryz.func70,Tryz.ntmps70
 go_upto_region 1 with(fail)
 refine wp_region_held (S:=λW=>W.cell? ⟨w.heap.size,0,none⟩=some (.int .i64 f)∧W.cell? ⟨w.heap.size,3,none⟩=some (.slice kp n x.kc)) (by kernel_rfl) ?_;change wpAnyH _ _ _ _ _ _ _ _ (w.alloc (.cells (gv x).toArray 27)).drew;obtain⟨U,hU⟩:∃ U,(w.alloc (.cells (gv x).toArray 27)).drew=U:=⟨_,rfl⟩;have Z0:=hid (show GB9 w U x from S0.out.below (by rw[←hU];exact(Below.refl _ _).drew));rw[hU];clear hU S0;have r0:=CELL.out _ Z0.out;refine tka9 0 r0 ?_;refine tka9 3 r0 ?_;refine tk9 1 ?_ ?_ r0 ?_;rotate_left 1
 ·(intro w hS;have hs:=hS.2;clear hS;go_simp;try (with_reducible rfl))
 refine tka9 2 r0 ?_;refine tk9 4 ?_ ?_ r0 ?_;rotate_left 1
 ·(intro w hS;have hs:=hS.1;clear hS;go_simp;try (with_reducible rfl))
 refine rd9 5 λK hK=>?_
 go_simp;refine(KF.out _).mono ?_
 rintro e w5 ⟨rfl,rfl⟩
 refine hK.out _ _ r0 (λhz=>?_);clear hK K KF hz;refine tka9 6 r0 ?_;refine wpAnyH_done (by kernel_rfl) ?_ _;go_simp
 by_cases hl:(n:Int)=3 * f+1
 ·have e1:((n:Int) != 3 * f+1)=false:=by rw[bne_eq_false_iff_eq];exact hl
  have HR2:=hid (show r=(x.ks.all λy=>formN y.X) from by have:=HR.out;rw[decide_eq_true hl,Bool.true_and] at this;exact this);have n7:n≤7:=by omega
  clear hl HR;rw[e1];clear e1;go_wp2_with fail
  clear r0
  go_loopw [15] (λt wr=>∃ j:Nat,j≤n∧t= .int .i64 (j:Int)∧GB9 w wr x∧∀ (i:Nat) (y:Ky),i<j→x.ks[i]? =some y→formN y.X=true) (λt _=>n- (intOf t).toNat)
  case atStart=>exact⟨0,by omega,rfl,Z0.out,λi y hi=>absurd hi (by omega)⟩
  case round=>
   clear Z0;obtain⟨j,hj,rfl,s0,hb⟩:=hrel;have S0:=hid s0;have HB:=hid hb;clear s0 hb
   by_cases hlt:j<n
   ·obtain⟨y,hy⟩:∃ y,x.ks[j]? =some y:=⟨_,List.getElem?_eq_getElem (by rw[HN.out];exact hlt)⟩;obtain⟨b,o,hpe,hbl,rg⟩:=S0.out.rx.ks j y hy;obtain rfl:kp=some ⟨b,o,none⟩:=HKP.out.symm.trans hpe;have c1:wr.cell? ⟨b,o+j,none⟩=some (.slice y.A y.X.length y.c):=by have:=rg 0 _ rfl;rw[Nat.mul_one,Nat.add_zero] at this;exact this
    have j1:(j:Int)< (n:Int):=by omega
    have HM:=List.mem_of_getElem? hy;have FT_:=hid (form_t y.X y.A y.X.length y.c wr rfl (S0.out.rx.k y HM) (S0.out.rx.kb y HM) (S0.out.rx.kn y HM) (HK.out.kept S0.out.bel));have HY:=hid hy;obtain⟨fb,hfb⟩:∃ b,formN y.X=b:=⟨_,rfl⟩;rw[hfb] at FT_;have HFB:=hid hfb;clear hfb rg hpe hbl hy HM;go_wp2_with fail
    refine FT_.out.mono ?_
    rintro e w3 ⟨rfl,b3⟩
    have S3:=hid (S0.out.below b3);clear b3 FT_ S0 c1
    cases fb with
    |false=>
     have hR:(x.ks.all λy=>formN y.X)=false:=by
      cases hq:(x.ks.all λy=>formN y.X) with
      |false=>rfl
      |true=>
       have:=List.all_eq_true.1 hq y (List.mem_of_getElem? HY.out);rw[HFB.out] at this
       cases this
     obtain rfl:r=false:=HR2.out.trans hR;go_wp2_with fail
     go_ret;exact⟨rfl,S3.out.bel⟩
    |true=>
     have HB2:=hid (show ∀ (i:Nat) (y:Ky),i<j+1→x.ks[i]? =some y→formN y.X=true from λi y hi hy=>by
      rcases Nat.lt_or_ge i j with h |h
      ·exact HB.out i y h hy
      ·obtain rfl:i=j:=by omega
       rw[HY.out] at hy;obtain rfl:=Option.some.inj hy;exact HFB.out)
     go_wp2_with fail
     go_roundw
     case rel=>
      exact⟨j+1,hlt,by go_num,S3.out,HB2.out⟩
     case measure=>simp[intOf];omega
   ·obtain rfl:j=n:=by omega
    have hR:(x.ks.all λy=>formN y.X)=true:=List.all_eq_true.2 λy hy=>by
     obtain⟨i,hi⟩:=List.getElem?_of_mem hy;exact HB.out i y (by have:=(List.getElem?_eq_some_iff.1 hi).1;rw[HN.out] at this;exact this) hi
    obtain rfl:r=true:=HR2.out.trans hR;clear hlt hR;go_wp2_with fail
    go_ret;exact⟨rfl,S0.out.bel⟩
 ·have e1:((n:Int) != 3 * f+1)=true:=by rw[bne_iff_ne];exact hl
  obtain rfl:r=false:=by have:=HR.out;rw[decide_eq_false hl,Bool.false_and] at this;exact this
  go_wp2_with fail
  go_ret;exact⟨rfl,Z0.out.bel⟩
end Go.Proofs.YtjlophplcmidlaaGreatDoor
